/- What the proof leans on, part 1. -/
import Derived.Test.YteidkehoekbcaaaGreatOwnK23
import Derived.Test.YteidkehoekbcaaaGreatOwnF0
set_option maxRecDepth 100000
set_option maxHeartbeats 8000000
open Go renaming wp_at_succ->Kd,wp_at_zero->Kc
open Go.Proofs.Tryz renaming prog->J3
open Go.RowKit.Below renaming refl->Kp
open List renaming append_assoc->Lm,append_nil->QO,getElem?_eq_getElem->Kz,length_take->Lk,mem_append->Kg,mem_singleton->KB,take_length->LQ,take_of_length_le->KF
open Nat renaming add_zero->PT,zero_le->Ky

namespace Go.Proofs.YteidkehoekbcaaaGreat
section
open Go.RowKit Go.Maps
attribute [local go_sem ↓] Kc Kd
abbrev Xn (l:List Int):List Value:=l.map (Value.int .i64)
theorem XX {w:World} {a:Option Addr} {l:List Int} (h:Row w a (Xn l)) {i:Nat} {z:Int} (hz:l[i]? =some z): ∃ g,a=some ⟨g,0,none⟩∧w.cell? ⟨g,i,none⟩=some (.int .i64 z):=h i (.int .i64 z) (by simp [hz])
theorem Xq (a:Option Addr) (l:List Int) (cap:Nat) (n:Int) (w:World) (hl:l.length≤1048576) (hr:Row w a (Xn l)):
  Calls J3 76 #[.slice a l.length cap,.int .i64 n] w fun e w'=>e= .returned (.bool (decide (n∈l)))∧Below w.heap.size w w':=by
 have H:=aA hr;clear hr
 go_enter Tryz.func76,Tryz.ntmps76
 go_wp2_with fail
 go_loopw [5] (fun i wr=> ∃ k:Nat,k≤l.length∧i= .int .i64 k∧wr=w∧Hid (n∉l.take k)) (fun i _=>l.length - (Go.RowKit.intOf i).toNat)
 case atStart=>exact ⟨0,Ky _,rfl,rfl,by show n∉_; simp⟩
 case round=>
  obtain ⟨k,hk,rfl,rfl,S⟩:=hrel;by_cases hlt:k < l.length
  ·have i0:(0:Int)≤(k:Int):=by omega
   have i1:(k:Int) < (l.length:Int):=by omega
   obtain ⟨z,hz⟩: ∃ z,l[k]? =some z:=⟨_,Kz hlt⟩
   obtain ⟨g,rfl,c0⟩:=XX H.I hz;have HZ:=aA hz;clear hz;by_cases e:z=n
   ·have e1:(z == n)=true:=by simp [e]
    have HE:Hid (n∈l):=by show n∈l; rw [← e]; exact List.mem_of_getElem? HZ.I
    clear e;go_wp2;go_ret;exact ⟨al (decide_eq_true HE.I).symm,Kp _ _⟩
   ·have e1:(z == n)=false:=by simp [e]
    have HE:Hid (n∉l.take (k+1)):=by show n∉_; rw [cj HZ.I]; simp only [Kg,KB,not_or]; exact ⟨S.I,fun h=>e h.symm⟩
    clear e;go_wp2;go_roundw
    case rel=>exact ⟨k+1,by omega,by go_num,trivial,HE.I⟩
    case measure=>simp [Go.RowKit.intOf]; omega
  ·have i1: ¬ (k:Int) < (l.length:Int):=by omega
   go_wp2;go_ret;have h:=S.I;rw [KF (by omega)] at h;exact ⟨al (decide_eq_false h).symm,Kp _ _⟩
theorem Yb (a:Option Addr) (l:List Int) (cap:Nat) (n:Int) (w:World) (hl:l.length≤1048576) (hr:Row w a (Xn l)):
  Calls J3 163 #[.slice a l.length cap,.int .i64 n] w fun e w'=>e= .returned (.int .i64 (M2 (fun z=>decide (z=n)) l))∧w'=w:=by
 have H:=aA hr;clear hr
 go_enter Tryz.func163,Tryz.ntmps163
 go_wp2_with fail
 go_loopw [8] (fun i wr=> ∃ k:Nat,k≤l.length∧i= .int .i64 k∧wr=w∧Hid (∀ y∈l.take k,decide (y=n)=false)) (fun i _=>l.length - (Go.RowKit.intOf i).toNat)
 case atStart=>exact ⟨0,Ky _,rfl,rfl,fun y hy=>by simp at hy⟩
 case round=>
  obtain ⟨k,hk,rfl,rfl,S⟩:=hrel;by_cases hlt:k < l.length
  ·have i0:(0:Int)≤(k:Int):=by omega
   have i1:(k:Int) < (l.length:Int):=by omega
   obtain ⟨z,hz⟩: ∃ z,l[k]? =some z:=⟨_,Kz hlt⟩
   obtain ⟨g,rfl,c0⟩:=XX H.I hz;have HZ:=aA hz;clear hz;by_cases e:z=n
   ·have e1:(n == z)=true:=by simp [e]
    have HE:Hid (decide (z=n)=true):=decide_eq_true e;clear e;go_wp2;go_ret;exact ⟨by rw [Us HZ.I HE.I S.I]; rfl,rfl⟩
   ·have e1:(n == z)=false:=by simp [Ne.symm e]
    have HE:Hid (decide (z=n)=false):=decide_eq_false e;clear e;go_wp2;go_roundw
    case rel=>
     refine ⟨k+1,by omega,by go_num,trivial,fun y hy=> ?_⟩;rw [cj HZ.I] at hy;rcases Kg.1 hy with hy | hy
     ·exact S.I y hy
     ·rw [KB.1 hy]; exact HE.I
    case measure=>simp [Go.RowKit.intOf]; omega
  ·have i1: ¬ (k:Int) < (l.length:Int):=by omega
   go_wp2;go_ret;have h:=S.I;rw [KF (by omega)] at h;exact ⟨by rw [Vj h]; rfl,rfl⟩
theorem Yg (a:Option Addr) (l:List Int) (cap:Nat) (n:Int) (w:World) (hl:l.length≤1048576) (hr:Row w a (Xn l)):
  Calls J3 128 #[.slice a l.length cap,.int .i64 n] w fun e w'=>e= .returned (.bool (decide (n∈l)))∧w'=w:=by
 have Mb:=Yb a l cap n w hl hr;have HA:Hid (decide (0≤M2 (fun z=>decide (z=n)) l)=decide (n∈l)):=by
  show _=_
  rw [Uv];by_cases h:n∈l
  ·rw [decide_eq_true h]; exact List.any_eq_true.2 ⟨n,h,by simp⟩
  ·rw [decide_eq_false h]; exact List.any_eq_false.2 fun z hz=>by simp; exact fun e=>h (by rw [← e]; exact hz)
 clear hr hl;generalize M2 (fun z=>decide (z=n)) l=i at *;generalize decide (n∈l)=r at *
 go_enter Tryz.func128,Tryz.ntmps128
 go_wp2_with fail;refine Mb.mono ?_;clear Mb;rintro e W1 ⟨rfl,rfl⟩;go_wp2;go_ret;exact ⟨al HA.I,rfl⟩
theorem Yv:(Tryz.prog.info? 2).map (fun i=>(i.zero,i.size,i.bytes))=some (some (.int .i64 0),1,8):=by kernel_rfl
theorem XB {W:World} {base cap:Nat} {a:Option Addr} {l:List Int} (z:Int) (ho:W.ownsRow base 2 1 (.slice a l.length cap) l.length (Xn l)) (hn:l.length≤1000) (hb:base≤W.heap.size):
  ∃ a' cap' w',(Builtin.append_ #[57,57] 57 #[.slice a l.length cap,.slice (some ⟨W.heap.size,0,none⟩) 1 1]).run J3 (W.alloc (.cells #[.int .i64 z] 2))= .ok (.slice a' (l.length+1) cap') w'∧w'.ownsRow base 2 1 (.slice a' (l.length+1) cap') (l.length+1) (Xn (l ++ [z]))∧aI W w' (blk a)∧ ∀ g∈blk a',g∈blk a∨W.heap.size≤g:=by
 have hz:Below W.heap.size W (W.alloc (.cells #[.int .i64 z] 2)):=(Kp _ _).alloc (Nat.le_refl _) _;obtain ⟨i,hi,e⟩:=Option.map_eq_some_iff.1 Yv;simp only [Prod.mk.injEq] at e;have hcell: ∀ j u,[Value.int .i64 z][j]? =some u→(W.alloc (.cells #[.int .i64 z] 2)).cell? ((⟨W.heap.size,0,none⟩:Addr).add j)=some u:=fun j u hu=>by
  have h1:(W.alloc (.cells #[.int .i64 z] 2)).heap[W.heap.size]? =some (.cells #[.int .i64 z] 2 (0,0)):=heap_alloc_new _ _;have h2:(#[Value.int .i64 z] :Array Value)[j]? =some u:=by rw [← Array.getElem?_toList]; exact hu
  rw [qZ];unfold World.cell?;rw [h1];exact h2
 obtain ⟨v',w',hr,ho',hg,-,hbl⟩:=run_append_own_at (P:=J3) (W.alloc (.cells #[.int .i64 z] 2)) base 57 57 2 i _ 1 8 Tryz.underlying57 hi e.1 e.2.1 e.2.2 rfl (by decide) (.slice a l.length cap) l.length (Xn l) (cR ho hz) ⟨W.heap.size,0,none⟩ 1 1 [.int .i64 z] rfl hcell (fun u hu=>by
  simp only [List.mem_cons,List.not_mem_nil,or_false] at hu;rw [hu]; rfl) (by unfold maxLen; omega) (by omega) (by have:=hz.size; omega)
 obtain ⟨a',cap',rfl,-⟩:=cr ho';have aS:Xn (l ++ [z])=Xn l ++ [.int .i64 z] :=by simp
 refine ⟨a',cap',w',hr,by rw [aS]; exact ho',⟨hg.os,hg.tape,hg.output,Nat.le_trans hz.size hg.size,fun g hgl hgn=> ?_⟩,fun g hm=> ?_⟩
 ·have h1:=hz.block g hgl
  rw [← h1];exact hg.block g (by have:=hz.size; omega) fun e=>hgn (VC e.symm)
 ·have hm2:(Value.slice a' (l.length+1) cap').ownBlock=some g:=by
   cases a' with
   | none=>simp [blk] at hm
   | some ad=>simpa [Value.ownBlock,blk,eq_comm] using hm
  rcases hbl with hbl | hbl
  ·rw [hm2] at hbl; exact .inl (VC hbl.symm)
  ·rw [hm2] at hbl; simp at hbl; exact .inr (by omega)
end
section
open Go.RowKit
attribute [local go_sem ↓] Kc Kd
def fj (k:Int) (_:dN):dN:=(k,k+1,k+1+1,cu (k+1+1+1))
theorem xP (a:Option Addr) (l:List dN) (cap:Nat) (k:Int) (w:World) (base:Nat) (hl:l.length≤1048576) (h0:1≤k) (h1:k+(aF (fun _=>4) l:Nat)≤90000000) (ho:w.ownsRow base 234 4 (.slice a l.length cap) l.length (fk.flat l)):
  Calls J3 117 #[.slice a l.length cap,.int .i64 k] w fun e w'=>e= .returned (.int .i64 (k+(aF (fun _=>4) l:Nat)))∧w'.ownsRow base 234 4 (.slice a l.length cap) l.length (fk.flat (aJ fj (fun _=>4) k l))∧aI w w' (blk a):=by
 by_cases hz:l.length=0
 ·have hl0:l= [] :=List.eq_nil_of_length_eq_zero hz
  subst hl0;have HO:Hid (w.ownsRow base 234 4 (.slice a 0 cap) 0 (fk.flat [])):=ho;clear ho
  go_enter Tryz.func117,Tryz.ntmps117
  go_wp2_with fail
  go_loopw [1,5] (fun q i wr=>q= .int .i64 k∧i= .int .i64 0∧wr=w) (fun _ _ _=>0)
  case atStart=>exact ⟨rfl,rfl,rfl⟩
  case round=>
   obtain ⟨rfl,rfl,rfl⟩:=hrel;go_wp2;go_ret;exact ⟨ck (by simp [aF]),HO.I,aI.refl _ _⟩
 obtain ⟨g,rfl,hrow⟩:=bl.fX (K:=fk) ho hz;have HR:Hid (bl fk 234 w base g cap l):=hrow;have HB:Hid (k+(aF (fun _:dN=>4) l:Nat)≤90000000):=h1;clear ho hrow h1 hz
 go_enter Tryz.func117,Tryz.ntmps117
 go_wp2_with fail
 go_loopw [1,5] (fun q i wr=> ∃ (j:Nat) (m:Int),j≤l.length∧i= .int .i64 j∧q= .int .i64 m∧1≤m∧m≤90000000∧Hid (m=k+(aF (fun _:dN=>4) (l.take j):Nat)∧bl fk 234 wr base g cap (aJ fj (fun _=>4) k (l.take j) ++ l.drop j)∧aI w wr [g])) (fun _ i _=>l.length - (intOf i).toNat)
 case atStart=>exact ⟨0,k,Ky _,rfl,rfl,h0,by have:=HB.I; omega,⟨by simp [aF],HR.I,aI.refl _ _⟩⟩
 case round=>
  clear HR;obtain ⟨j,m,hj,rfl,rfl,m0,m1,HA⟩:=hrel;by_cases hlt:j < l.length
  ·have i0:(0:Int)≤(j:Int):=by omega
   have i1:(j:Int) < (l.length:Int):=by omega
   obtain ⟨x,hx⟩: ∃ x,l[j]? =some x:=⟨_,Kz hlt⟩
   have pI:l.drop j=x :: l.drop (j+1):=mz hx;have qw:=du (c:=fun _:dN=>4) hx;have hup:=gK (c:=fun _:dN=>4) hx;have HX:Hid (l[j]? =some x∧m+4≤90000000∧m+4=k+(aF (fun _:dN=>4) (l.take (j+1)):Nat)):=⟨hx,by have:=HB.I; have:=HA.I.1; omega,by have:=HA.I.1; omega⟩
   have HW:Hid (bl fk 234 wr base g cap (aJ fj (fun _=>4) k (l.take j) ++ x :: l.drop (j+1))∧(aJ fj (fun _=>4) k (l.take j)).length=j):=⟨by have:=HA.I.2.1; rwa [pI] at this,by rw [bE,Lk]; omega⟩
   clear hx pI qw hup;have m2:m+4≤90000000:=HX.I.2.1;have hgl:g < wr.heap.size:=HW.I.1.lt;have q0:=bl.eO HW.I.1 HW.I.2 (r:=0) (by decide:0 < fk.n);obtain ⟨⟨u0,c0⟩,f0⟩:(∃ u,wr.cell? ⟨g,j * 4,none⟩=some u)∧wr.frozen? ⟨g,j * 4,none⟩=false:=q0;have q1:=bl.eO HW.I.1 HW.I.2 (r:=1) (by decide:1 < fk.n);obtain ⟨⟨u1,c1⟩,f1⟩:(∃ u,wr.cell? ⟨g,j * 4+1,none⟩=some u)∧wr.frozen? ⟨g,j * 4+1,none⟩=false:=q1;have q2:=bl.eO HW.I.1 HW.I.2 (r:=2) (by decide:2 < fk.n);obtain ⟨⟨u2,c2⟩,f2⟩:(∃ u,wr.cell? ⟨g,j * 4+2,none⟩=some u)∧wr.frozen? ⟨g,j * 4+2,none⟩=false:=q2;have h5:=bl.part (K:=fk) (x:=(x.1,x.2.1,x.2.2.1,x.2.2.2)) (y:=(m,m+1,m+1+1,x.2.2.2)) (j:=0) (vs:= [.int .i64 (m),.int .i64 (m+1),.int .i64 (m+1+1)]) HW.I.1 (by show 0+3≤4; omega) (fun r hr=>by match r,hr with | 0,_=>rfl | 1,_=>rfl | 2,_=>rfl) (fun r hr hn=>by match r,hr,hn with | 0,_,hn=>exact absurd ⟨by omega,by show 0 < 0+3; omega⟩ hn | 1,_,hn=>exact absurd ⟨by omega,by show 1 < 0+3; omega⟩ hn | 2,_,hn=>exact absurd ⟨by omega,by show 2 < 0+3; omega⟩ hn | 3,_,_=>rfl );rw [HW.I.2,show fk.n=4 from rfl] at h5;simp only [bn,Nat.add_assoc,Nat.reduceAdd,PT] at h5;have ES:Hid (bl fk 234 (((wr.setCell ⟨g,j * 4,none⟩ (.int .i64 (m))).setCell ⟨g,j * 4+1,none⟩ (.int .i64 (m+1))).setCell ⟨g,j * 4+2,none⟩ (.int .i64 (m+1+1))) base g cap (aJ fj (fun _=>4) k (l.take j) ++ (m,m+1,m+1+1,x.2.2.2) :: l.drop (j+1))∧(aJ fj (fun _=>4) k (l.take j)).length=j):=⟨h5,HW.I.2⟩
   have h6:aI w (bn wr g (j * 4) [.int .i64 (m),.int .i64 (m+1),.int .i64 (m+1+1)]) [g] :=HA.I.2.2.trans (aI.set _ (by simp));simp only [bn,Nat.add_assoc,Nat.reduceAdd] at h6;have zy:Hid (aI w (((wr.setCell ⟨g,j * 4,none⟩ (.int .i64 (m))).setCell ⟨g,j * 4+1,none⟩ (.int .i64 (m+1))).setCell ⟨g,j * 4+2,none⟩ (.int .i64 (m+1+1))) [g]):=h6;clear h6;clear h5;go_wp2_with fail;refine (fh (m+1+1+1) (by omega) (by omega) _).mono ?_;rintro e v3 ⟨rfl,hb3⟩;have Fx:Hid (bl fk 234 v3 base g cap (aJ fj (fun _=>4) k (l.take j) ++ (m,m+1,m+1+1,x.2.2.2) :: l.drop (j+1))∧(aJ fj (fun _=>4) k (l.take j)).length=j):=⟨ES.I.1.same (hb3.block g ES.I.1.lt),ES.I.2⟩
   have HV3K:Hid (aI w v3 [g]):=zy.I.trans (aI.dI hb3);clear hb3;have q3:=bl.eO Fx.I.1 Fx.I.2 (r:=3) (by decide:3 < fk.n);obtain ⟨⟨u3,c3⟩,f3⟩:(∃ u,v3.cell? ⟨g,j * 4+3,none⟩=some u)∧v3.frozen? ⟨g,j * 4+3,none⟩=false:=q3;have h5:=bl.part (K:=fk) (x:=(m,m+1,m+1+1,x.2.2.2)) (y:=(m,m+1,m+1+1,cu (m+1+1+1))) (j:=3) (vs:= [.string (cu (m+1+1+1))]) Fx.I.1 (by show 3+1≤4; omega) (fun r hr=>by match r,hr with | 0,_=>rfl) (fun r hr hn=>by match r,hr,hn with | 0,_,_=>rfl | 1,_,_=>rfl | 2,_,_=>rfl | 3,_,hn=>exact absurd ⟨by omega,by show 3 < 3+1; omega⟩ hn );rw [Fx.I.2,show fk.n=4 from rfl] at h5;simp only [bn] at h5;have mH:Hid (bl fk 234 (v3.setCell ⟨g,j * 4+3,none⟩ (.string (cu (m+1+1+1)))) base g cap (aJ fj (fun _=>4) k (l.take j) ++ (m,m+1,m+1+1,cu (m+1+1+1)) :: l.drop (j+1))∧(aJ fj (fun _=>4) k (l.take j)).length=j):=⟨h5,Fx.I.2⟩
   have h6:aI w (bn v3 g (j * 4+3) [.string (cu (m+1+1+1))]) [g] :=HV3K.I.trans (aI.set _ (by simp));simp only [bn] at h6;have HS1K:Hid (aI w (v3.setCell ⟨g,j * 4+3,none⟩ (.string (cu (m+1+1+1)))) [g]):=h6;clear h6;clear h5;have HN:Hid (bl fk 234 (v3.setCell ⟨g,j * 4+3,none⟩ (.string (cu (m+1+1+1)))) base g cap (aJ fj (fun _=>4) k (l.take (j+1)) ++ l.drop (j+1))∧aI w (v3.setCell ⟨g,j * 4+3,none⟩ (.string (cu (m+1+1+1)))) [g]):=⟨by rw [kE HX.I.1,Lm,← HA.I.1]; exact mH.I.1,HS1K.I⟩
   go_wp2;go_roundw
   case rel=>exact ⟨j+1,m+4,by omega,by go_num,by go_num,by omega,by omega,⟨HX.I.2.2,HN.I.1,HN.I.2⟩⟩
   case measure=>simp [intOf]; omega
  ·have i1: ¬ (j:Int) < (l.length:Int):=by omega
   have ej:j=l.length:=by omega
   subst ej;have HE:Hid (bl fk 234 wr base g cap (aJ fj (fun _=>4) k l)∧m=k+(aF (fun _:dN=>4) l:Nat)):=by have h5:=HA.I.2.1; have h6:=HA.I.1; rw [LQ,List.drop_length,QO] at h5; rw [LQ] at h6; exact ⟨h5,h6⟩
   go_wp2;go_ret;refine ⟨ck HE.I.2,?_,HA.I.2.2.mono (by simp [blk])⟩;have h7:=HE.I.1.owns;rw [bE] at h7;exact h7
def dZ (k:Int) (_:az):az:=⟨k,(k+1) % 3 == 0,cu (k+1+1)⟩
theorem zB (a:Option Addr) (l:List az) (cap:Nat) (k:Int) (w:World) (base:Nat) (hl:l.length≤1048576) (h0:1≤k) (h1:k+(aF (fun _=>3) l:Nat)≤90000000) (ho:w.ownsRow base 190 3 (.slice a l.length cap) l.length (bG.flat l)):
  Calls J3 60 #[.slice a l.length cap,.int .i64 k] w fun e w'=>e= .returned (.int .i64 (k+(aF (fun _=>3) l:Nat)))∧w'.ownsRow base 190 3 (.slice a l.length cap) l.length (bG.flat (aJ dZ (fun _=>3) k l))∧aI w w' (blk a):=by
 by_cases hz:l.length=0
 ·have hl0:l= [] :=List.eq_nil_of_length_eq_zero hz
  subst hl0;have HO:Hid (w.ownsRow base 190 3 (.slice a 0 cap) 0 (bG.flat [])):=ho;clear ho
  go_enter Tryz.func60,Tryz.ntmps60
  go_wp2_with fail
  go_loopw [1,5] (fun q i wr=>q= .int .i64 k∧i= .int .i64 0∧wr=w) (fun _ _ _=>0)
  case atStart=>exact ⟨rfl,rfl,rfl⟩
  case round=>
   obtain ⟨rfl,rfl,rfl⟩:=hrel;go_wp2;go_ret;exact ⟨ck (by simp [aF]),HO.I,aI.refl _ _⟩
 obtain ⟨g,rfl,hrow⟩:=bl.fX (K:=bG) ho hz;have HR:Hid (bl bG 190 w base g cap l):=hrow;have HB:Hid (k+(aF (fun _:az=>3) l:Nat)≤90000000):=h1;clear ho hrow h1 hz
 go_enter Tryz.func60,Tryz.ntmps60
 go_wp2_with fail
 go_loopw [1,5] (fun q i wr=> ∃ (j:Nat) (m:Int),j≤l.length∧i= .int .i64 j∧q= .int .i64 m∧1≤m∧m≤90000000∧Hid (m=k+(aF (fun _:az=>3) (l.take j):Nat)∧bl bG 190 wr base g cap (aJ dZ (fun _=>3) k (l.take j) ++ l.drop j)∧aI w wr [g])) (fun _ i _=>l.length - (intOf i).toNat)
 case atStart=>exact ⟨0,k,Ky _,rfl,rfl,h0,by have:=HB.I; omega,⟨by simp [aF],HR.I,aI.refl _ _⟩⟩
 case round=>
  clear HR;obtain ⟨j,m,hj,rfl,rfl,m0,m1,HA⟩:=hrel;by_cases hlt:j < l.length
  ·have i0:(0:Int)≤(j:Int):=by omega
   have i1:(j:Int) < (l.length:Int):=by omega
   obtain ⟨x,hx⟩: ∃ x,l[j]? =some x:=⟨_,Kz hlt⟩
   have pI:l.drop j=x :: l.drop (j+1):=mz hx;have qw:=du (c:=fun _:az=>3) hx;have hup:=gK (c:=fun _:az=>3) hx;have HX:Hid (l[j]? =some x∧m+3≤90000000∧m+3=k+(aF (fun _:az=>3) (l.take (j+1)):Nat)):=⟨hx,by have:=HB.I; have:=HA.I.1; omega,by have:=HA.I.1; omega⟩
   have HW:Hid (bl bG 190 wr base g cap (aJ dZ (fun _=>3) k (l.take j) ++ x :: l.drop (j+1))∧(aJ dZ (fun _=>3) k (l.take j)).length=j):=⟨by have:=HA.I.2.1; rwa [pI] at this,by rw [bE,Lk]; omega⟩
   clear hx pI qw hup;have m2:m+3≤90000000:=HX.I.2.1;have hgl:g < wr.heap.size:=HW.I.1.lt;have q0:=bl.eO HW.I.1 HW.I.2 (r:=0) (by decide:0 < bG.n);obtain ⟨⟨u0,c0⟩,f0⟩:(∃ u,wr.cell? ⟨g,j * 3,none⟩=some u)∧wr.frozen? ⟨g,j * 3,none⟩=false:=q0;have q1:=bl.eO HW.I.1 HW.I.2 (r:=1) (by decide:1 < bG.n);obtain ⟨⟨u1,c1⟩,f1⟩:(∃ u,wr.cell? ⟨g,j * 3+1,none⟩=some u)∧wr.frozen? ⟨g,j * 3+1,none⟩=false:=q1;have h5:=bl.part (K:=bG) (x:=(⟨x.id,x.shown,x.text⟩:az)) (y:=(⟨m,(m+1) % 3 == 0,x.text⟩:az)) (j:=0) (vs:= [.int .i64 (m),.bool ((m+1) % 3 == 0)]) HW.I.1 (by show 0+2≤3; omega) (fun r hr=>by match r,hr with | 0,_=>rfl | 1,_=>rfl) (fun r hr hn=>by match r,hr,hn with | 0,_,hn=>exact absurd ⟨by omega,by show 0 < 0+2; omega⟩ hn | 1,_,hn=>exact absurd ⟨by omega,by show 1 < 0+2; omega⟩ hn | 2,_,_=>rfl );rw [HW.I.2,show bG.n=3 from rfl] at h5;simp only [bn,PT] at h5;have ES:Hid (bl bG 190 ((wr.setCell ⟨g,j * 3,none⟩ (.int .i64 (m))).setCell ⟨g,j * 3+1,none⟩ (.bool ((m+1) % 3 == 0))) base g cap (aJ dZ (fun _=>3) k (l.take j) ++ (⟨m,(m+1) % 3 == 0,x.text⟩:az) :: l.drop (j+1))∧(aJ dZ (fun _=>3) k (l.take j)).length=j):=⟨h5,HW.I.2⟩
   have h6:aI w (bn wr g (j * 3) [.int .i64 (m),.bool ((m+1) % 3 == 0)]) [g] :=HA.I.2.2.trans (aI.set _ (by simp));simp only [bn] at h6;have zy:Hid (aI w ((wr.setCell ⟨g,j * 3,none⟩ (.int .i64 (m))).setCell ⟨g,j * 3+1,none⟩ (.bool ((m+1) % 3 == 0))) [g]):=h6;clear h6;clear h5;go_wp2_with fail;refine (fh (m+1+1) (by omega) (by omega) _).mono ?_;rintro e v2 ⟨rfl,hb2⟩;have FD:Hid (bl bG 190 v2 base g cap (aJ dZ (fun _=>3) k (l.take j) ++ (⟨m,(m+1) % 3 == 0,x.text⟩:az) :: l.drop (j+1))∧(aJ dZ (fun _=>3) k (l.take j)).length=j):=⟨ES.I.1.same (hb2.block g ES.I.1.lt),ES.I.2⟩
   have HV2K:Hid (aI w v2 [g]):=zy.I.trans (aI.dI hb2);clear hb2;have q2:=bl.eO FD.I.1 FD.I.2 (r:=2) (by decide:2 < bG.n);obtain ⟨⟨u2,c2⟩,f2⟩:(∃ u,v2.cell? ⟨g,j * 3+2,none⟩=some u)∧v2.frozen? ⟨g,j * 3+2,none⟩=false:=q2;have h5:=bl.part (K:=bG) (x:=(⟨m,(m+1) % 3 == 0,x.text⟩:az)) (y:=(⟨m,(m+1) % 3 == 0,cu (m+1+1)⟩:az)) (j:=2) (vs:= [.string (cu (m+1+1))]) FD.I.1 (by show 2+1≤3; omega) (fun r hr=>by match r,hr with | 0,_=>rfl) (fun r hr hn=>by match r,hr,hn with | 0,_,_=>rfl | 1,_,_=>rfl | 2,_,hn=>exact absurd ⟨by omega,by show 2 < 2+1; omega⟩ hn );rw [FD.I.2,show bG.n=3 from rfl] at h5;simp only [bn] at h5;have mH:Hid (bl bG 190 (v2.setCell ⟨g,j * 3+2,none⟩ (.string (cu (m+1+1)))) base g cap (aJ dZ (fun _=>3) k (l.take j) ++ (⟨m,(m+1) % 3 == 0,cu (m+1+1)⟩:az) :: l.drop (j+1))∧(aJ dZ (fun _=>3) k (l.take j)).length=j):=⟨h5,FD.I.2⟩
   have h6:aI w (bn v2 g (j * 3+2) [.string (cu (m+1+1))]) [g] :=HV2K.I.trans (aI.set _ (by simp));simp only [bn] at h6;have HS1K:Hid (aI w (v2.setCell ⟨g,j * 3+2,none⟩ (.string (cu (m+1+1)))) [g]):=h6;clear h6;clear h5;have HN:Hid (bl bG 190 (v2.setCell ⟨g,j * 3+2,none⟩ (.string (cu (m+1+1)))) base g cap (aJ dZ (fun _=>3) k (l.take (j+1)) ++ l.drop (j+1))∧aI w (v2.setCell ⟨g,j * 3+2,none⟩ (.string (cu (m+1+1)))) [g]):=⟨by rw [kE HX.I.1,Lm,← HA.I.1]; exact mH.I.1,HS1K.I⟩
   go_wp2;go_roundw
   case rel=>exact ⟨j+1,m+3,by omega,by go_num,by go_num,by omega,by omega,⟨HX.I.2.2,HN.I.1,HN.I.2⟩⟩
   case measure=>simp [intOf]; omega
  ·have i1: ¬ (j:Int) < (l.length:Int):=by omega
   have ej:j=l.length:=by omega
   subst ej;have HE:Hid (bl bG 190 wr base g cap (aJ dZ (fun _=>3) k l)∧m=k+(aF (fun _:az=>3) l:Nat)):=by have h5:=HA.I.2.1; have h6:=HA.I.1; rw [LQ,List.drop_length,QO] at h5; rw [LQ] at h6; exact ⟨h5,h6⟩
   go_wp2;go_ret;refine ⟨ck HE.I.2,?_,HA.I.2.2.mono (by simp [blk])⟩;have h7:=HE.I.1.owns;rw [bE] at h7;exact h7
def Wa (k:Int) (_:eQ):eQ:=⟨k,k+1,k+1+1,k+1+1+1⟩
theorem WC (a:Option Addr) (l:List eQ) (cap:Nat) (k:Int) (w:World) (base:Nat) (hl:l.length≤1048576) (h0:1≤k) (h1:k+(aF (fun _=>4) l:Nat)≤90000000) (ho:w.ownsRow base 80 4 (.slice a l.length cap) l.length (hM.flat l)):
  Calls J3 56 #[.slice a l.length cap,.int .i64 k] w fun e w'=>e= .returned (.int .i64 (k+(aF (fun _=>4) l:Nat)))∧w'.ownsRow base 80 4 (.slice a l.length cap) l.length (hM.flat (aJ Wa (fun _=>4) k l))∧aI w w' (blk a):=by
 by_cases hz:l.length=0
 ·have hl0:l= [] :=List.eq_nil_of_length_eq_zero hz
  subst hl0;have HO:Hid (w.ownsRow base 80 4 (.slice a 0 cap) 0 (hM.flat [])):=ho;clear ho
  go_enter Tryz.func56,Tryz.ntmps56
  go_wp2_with fail
  go_loopw [1,5] (fun q i wr=>q= .int .i64 k∧i= .int .i64 0∧wr=w) (fun _ _ _=>0)
  case atStart=>exact ⟨rfl,rfl,rfl⟩
  case round=>
   obtain ⟨rfl,rfl,rfl⟩:=hrel;go_wp2;go_ret;exact ⟨ck (by simp [aF]),HO.I,aI.refl _ _⟩
 obtain ⟨g,rfl,hrow⟩:=bl.fX (K:=hM) ho hz;have HR:Hid (bl hM 80 w base g cap l):=hrow;have HB:Hid (k+(aF (fun _:eQ=>4) l:Nat)≤90000000):=h1;clear ho hrow h1 hz
 go_enter Tryz.func56,Tryz.ntmps56
 go_wp2_with fail
 go_loopw [1,5] (fun q i wr=> ∃ (j:Nat) (m:Int),j≤l.length∧i= .int .i64 j∧q= .int .i64 m∧1≤m∧m≤90000000∧Hid (m=k+(aF (fun _:eQ=>4) (l.take j):Nat)∧bl hM 80 wr base g cap (aJ Wa (fun _=>4) k (l.take j) ++ l.drop j)∧aI w wr [g])) (fun _ i _=>l.length - (intOf i).toNat)
 case atStart=>exact ⟨0,k,Ky _,rfl,rfl,h0,by have:=HB.I; omega,⟨by simp [aF],HR.I,aI.refl _ _⟩⟩
 case round=>
  clear HR;obtain ⟨j,m,hj,rfl,rfl,m0,m1,HA⟩:=hrel;by_cases hlt:j < l.length
  ·have i0:(0:Int)≤(j:Int):=by omega
   have i1:(j:Int) < (l.length:Int):=by omega
   obtain ⟨x,hx⟩: ∃ x,l[j]? =some x:=⟨_,Kz hlt⟩
   have pI:l.drop j=x :: l.drop (j+1):=mz hx;have qw:=du (c:=fun _:eQ=>4) hx;have hup:=gK (c:=fun _:eQ=>4) hx;have HX:Hid (l[j]? =some x∧m+4≤90000000∧m+4=k+(aF (fun _:eQ=>4) (l.take (j+1)):Nat)):=⟨hx,by have:=HB.I; have:=HA.I.1; omega,by have:=HA.I.1; omega⟩
   have HW:Hid (bl hM 80 wr base g cap (aJ Wa (fun _=>4) k (l.take j) ++ x :: l.drop (j+1))∧(aJ Wa (fun _=>4) k (l.take j)).length=j):=⟨by have:=HA.I.2.1; rwa [pI] at this,by rw [bE,Lk]; omega⟩
   clear hx pI qw hup;have m2:m+4≤90000000:=HX.I.2.1;have hgl:g < wr.heap.size:=HW.I.1.lt;have q0:=bl.eO HW.I.1 HW.I.2 (r:=0) (by decide:0 < hM.n);obtain ⟨⟨u0,c0⟩,f0⟩:(∃ u,wr.cell? ⟨g,j * 4,none⟩=some u)∧wr.frozen? ⟨g,j * 4,none⟩=false:=q0;have q1:=bl.eO HW.I.1 HW.I.2 (r:=1) (by decide:1 < hM.n);obtain ⟨⟨u1,c1⟩,f1⟩:(∃ u,wr.cell? ⟨g,j * 4+1,none⟩=some u)∧wr.frozen? ⟨g,j * 4+1,none⟩=false:=q1;have q2:=bl.eO HW.I.1 HW.I.2 (r:=2) (by decide:2 < hM.n);obtain ⟨⟨u2,c2⟩,f2⟩:(∃ u,wr.cell? ⟨g,j * 4+2,none⟩=some u)∧wr.frozen? ⟨g,j * 4+2,none⟩=false:=q2;have q3:=bl.eO HW.I.1 HW.I.2 (r:=3) (by decide:3 < hM.n);obtain ⟨⟨u3,c3⟩,f3⟩:(∃ u,wr.cell? ⟨g,j * 4+3,none⟩=some u)∧wr.frozen? ⟨g,j * 4+3,none⟩=false:=q3;have h5:=bl.part (K:=hM) (x:=(⟨x.src,x.ga,x.dst,x.hI⟩:eQ)) (y:=(⟨m,m+1,m+1+1,m+1+1+1⟩:eQ)) (j:=0) (vs:= [.int .i64 (m),.int .i64 (m+1),.int .i64 (m+1+1),.int .i64 (m+1+1+1)]) HW.I.1 (by show 0+4≤4; omega) (fun r hr=>by match r,hr with | 0,_=>rfl | 1,_=>rfl | 2,_=>rfl | 3,_=>rfl) (fun r hr hn=>by match r,hr,hn with | 0,_,hn=>exact absurd ⟨by omega,by show 0 < 0+4; omega⟩ hn | 1,_,hn=>exact absurd ⟨by omega,by show 1 < 0+4; omega⟩ hn | 2,_,hn=>exact absurd ⟨by omega,by show 2 < 0+4; omega⟩ hn | 3,_,hn=>exact absurd ⟨by omega,by show 3 < 0+4; omega⟩ hn );rw [HW.I.2,show hM.n=4 from rfl] at h5;simp only [bn,Nat.add_assoc,Nat.reduceAdd,PT] at h5;have ES:Hid (bl hM 80 ((((wr.setCell ⟨g,j * 4,none⟩ (.int .i64 (m))).setCell ⟨g,j * 4+1,none⟩ (.int .i64 (m+1))).setCell ⟨g,j * 4+2,none⟩ (.int .i64 (m+1+1))).setCell ⟨g,j * 4+3,none⟩ (.int .i64 (m+1+1+1))) base g cap (aJ Wa (fun _=>4) k (l.take j) ++ (⟨m,m+1,m+1+1,m+1+1+1⟩:eQ) :: l.drop (j+1))∧(aJ Wa (fun _=>4) k (l.take j)).length=j):=⟨h5,HW.I.2⟩
   have h6:aI w (bn wr g (j * 4) [.int .i64 (m),.int .i64 (m+1),.int .i64 (m+1+1),.int .i64 (m+1+1+1)]) [g] :=HA.I.2.2.trans (aI.set _ (by simp));simp only [bn,Nat.add_assoc,Nat.reduceAdd] at h6;have zy:Hid (aI w ((((wr.setCell ⟨g,j * 4,none⟩ (.int .i64 (m))).setCell ⟨g,j * 4+1,none⟩ (.int .i64 (m+1))).setCell ⟨g,j * 4+2,none⟩ (.int .i64 (m+1+1))).setCell ⟨g,j * 4+3,none⟩ (.int .i64 (m+1+1+1))) [g]):=h6;clear h6;clear h5;have HN:Hid (bl hM 80 ((((wr.setCell ⟨g,j * 4,none⟩ (.int .i64 (m))).setCell ⟨g,j * 4+1,none⟩ (.int .i64 (m+1))).setCell ⟨g,j * 4+2,none⟩ (.int .i64 (m+1+1))).setCell ⟨g,j * 4+3,none⟩ (.int .i64 (m+1+1+1))) base g cap (aJ Wa (fun _=>4) k (l.take (j+1)) ++ l.drop (j+1))∧aI w ((((wr.setCell ⟨g,j * 4,none⟩ (.int .i64 (m))).setCell ⟨g,j * 4+1,none⟩ (.int .i64 (m+1))).setCell ⟨g,j * 4+2,none⟩ (.int .i64 (m+1+1))).setCell ⟨g,j * 4+3,none⟩ (.int .i64 (m+1+1+1))) [g]):=⟨by rw [kE HX.I.1,Lm,← HA.I.1]; exact ES.I.1,zy.I⟩
   go_wp2;go_roundw
   case rel=>exact ⟨j+1,m+4,by omega,by go_num,by go_num,by omega,by omega,⟨HX.I.2.2,HN.I.1,HN.I.2⟩⟩
   case measure=>simp [intOf]; omega
  ·have i1: ¬ (j:Int) < (l.length:Int):=by omega
   have ej:j=l.length:=by omega
   subst ej;have HE:Hid (bl hM 80 wr base g cap (aJ Wa (fun _=>4) k l)∧m=k+(aF (fun _:eQ=>4) l:Nat)):=by have h5:=HA.I.2.1; have h6:=HA.I.1; rw [LQ,List.drop_length,QO] at h5; rw [LQ] at h6; exact ⟨h5,h6⟩
   go_wp2;go_ret;refine ⟨ck HE.I.2,?_,HA.I.2.2.mono (by simp [blk])⟩;have h7:=HE.I.1.owns;rw [bE] at h7;exact h7
def Wb (k:Int) (_:pA):pA:=⟨k,k+1,k+1+1⟩
theorem WE (a:Option Addr) (l:List pA) (cap:Nat) (k:Int) (w:World) (base:Nat) (hl:l.length≤1048576) (h0:1≤k) (h1:k+(aF (fun _=>3) l:Nat)≤90000000) (ho:w.ownsRow base 100 3 (.slice a l.length cap) l.length (jq.flat l)):
  Calls J3 116 #[.slice a l.length cap,.int .i64 k] w fun e w'=>e= .returned (.int .i64 (k+(aF (fun _=>3) l:Nat)))∧w'.ownsRow base 100 3 (.slice a l.length cap) l.length (jq.flat (aJ Wb (fun _=>3) k l))∧aI w w' (blk a):=by
 by_cases hz:l.length=0
 ·have hl0:l= [] :=List.eq_nil_of_length_eq_zero hz
  subst hl0;have HO:Hid (w.ownsRow base 100 3 (.slice a 0 cap) 0 (jq.flat [])):=ho;clear ho
  go_enter Tryz.func116,Tryz.ntmps116
  go_wp2_with fail
  go_loopw [1,5] (fun q i wr=>q= .int .i64 k∧i= .int .i64 0∧wr=w) (fun _ _ _=>0)
  case atStart=>exact ⟨rfl,rfl,rfl⟩
  case round=>
   obtain ⟨rfl,rfl,rfl⟩:=hrel;go_wp2;go_ret;exact ⟨ck (by simp [aF]),HO.I,aI.refl _ _⟩
 obtain ⟨g,rfl,hrow⟩:=bl.fX (K:=jq) ho hz;have HR:Hid (bl jq 100 w base g cap l):=hrow;have HB:Hid (k+(aF (fun _:pA=>3) l:Nat)≤90000000):=h1;clear ho hrow h1 hz
 go_enter Tryz.func116,Tryz.ntmps116
 go_wp2_with fail
 go_loopw [1,5] (fun q i wr=> ∃ (j:Nat) (m:Int),j≤l.length∧i= .int .i64 j∧q= .int .i64 m∧1≤m∧m≤90000000∧Hid (m=k+(aF (fun _:pA=>3) (l.take j):Nat)∧bl jq 100 wr base g cap (aJ Wb (fun _=>3) k (l.take j) ++ l.drop j)∧aI w wr [g])) (fun _ i _=>l.length - (intOf i).toNat)
 case atStart=>exact ⟨0,k,Ky _,rfl,rfl,h0,by have:=HB.I; omega,⟨by simp [aF],HR.I,aI.refl _ _⟩⟩
 case round=>
  clear HR;obtain ⟨j,m,hj,rfl,rfl,m0,m1,HA⟩:=hrel;by_cases hlt:j < l.length
  ·have i0:(0:Int)≤(j:Int):=by omega
   have i1:(j:Int) < (l.length:Int):=by omega
   obtain ⟨x,hx⟩: ∃ x,l[j]? =some x:=⟨_,Kz hlt⟩
   have pI:l.drop j=x :: l.drop (j+1):=mz hx;have qw:=du (c:=fun _:pA=>3) hx;have hup:=gK (c:=fun _:pA=>3) hx;have HX:Hid (l[j]? =some x∧m+3≤90000000∧m+3=k+(aF (fun _:pA=>3) (l.take (j+1)):Nat)):=⟨hx,by have:=HB.I; have:=HA.I.1; omega,by have:=HA.I.1; omega⟩
   have HW:Hid (bl jq 100 wr base g cap (aJ Wb (fun _=>3) k (l.take j) ++ x :: l.drop (j+1))∧(aJ Wb (fun _=>3) k (l.take j)).length=j):=⟨by have:=HA.I.2.1; rwa [pI] at this,by rw [bE,Lk]; omega⟩
   clear hx pI qw hup;have m2:m+3≤90000000:=HX.I.2.1;have hgl:g < wr.heap.size:=HW.I.1.lt;have q0:=bl.eO HW.I.1 HW.I.2 (r:=0) (by decide:0 < jq.n);obtain ⟨⟨u0,c0⟩,f0⟩:(∃ u,wr.cell? ⟨g,j * 3,none⟩=some u)∧wr.frozen? ⟨g,j * 3,none⟩=false:=q0;have q1:=bl.eO HW.I.1 HW.I.2 (r:=1) (by decide:1 < jq.n);obtain ⟨⟨u1,c1⟩,f1⟩:(∃ u,wr.cell? ⟨g,j * 3+1,none⟩=some u)∧wr.frozen? ⟨g,j * 3+1,none⟩=false:=q1;have q2:=bl.eO HW.I.1 HW.I.2 (r:=2) (by decide:2 < jq.n);obtain ⟨⟨u2,c2⟩,f2⟩:(∃ u,wr.cell? ⟨g,j * 3+2,none⟩=some u)∧wr.frozen? ⟨g,j * 3+2,none⟩=false:=q2;have h5:=bl.part (K:=jq) (x:=(⟨x.at_,x.len,x.part⟩:pA)) (y:=(⟨m,m+1,m+1+1⟩:pA)) (j:=0) (vs:= [.int .i64 (m),.int .i64 (m+1),.int .i64 (m+1+1)]) HW.I.1 (by show 0+3≤3; omega) (fun r hr=>by match r,hr with | 0,_=>rfl | 1,_=>rfl | 2,_=>rfl) (fun r hr hn=>by match r,hr,hn with | 0,_,hn=>exact absurd ⟨by omega,by show 0 < 0+3; omega⟩ hn | 1,_,hn=>exact absurd ⟨by omega,by show 1 < 0+3; omega⟩ hn | 2,_,hn=>exact absurd ⟨by omega,by show 2 < 0+3; omega⟩ hn );rw [HW.I.2,show jq.n=3 from rfl] at h5;simp only [bn,Nat.add_assoc,Nat.reduceAdd,PT] at h5;have ES:Hid (bl jq 100 (((wr.setCell ⟨g,j * 3,none⟩ (.int .i64 (m))).setCell ⟨g,j * 3+1,none⟩ (.int .i64 (m+1))).setCell ⟨g,j * 3+2,none⟩ (.int .i64 (m+1+1))) base g cap (aJ Wb (fun _=>3) k (l.take j) ++ (⟨m,m+1,m+1+1⟩:pA) :: l.drop (j+1))∧(aJ Wb (fun _=>3) k (l.take j)).length=j):=⟨h5,HW.I.2⟩
   have h6:aI w (bn wr g (j * 3) [.int .i64 (m),.int .i64 (m+1),.int .i64 (m+1+1)]) [g] :=HA.I.2.2.trans (aI.set _ (by simp));simp only [bn,Nat.add_assoc,Nat.reduceAdd] at h6;have zy:Hid (aI w (((wr.setCell ⟨g,j * 3,none⟩ (.int .i64 (m))).setCell ⟨g,j * 3+1,none⟩ (.int .i64 (m+1))).setCell ⟨g,j * 3+2,none⟩ (.int .i64 (m+1+1))) [g]):=h6;clear h6;clear h5;have HN:Hid (bl jq 100 (((wr.setCell ⟨g,j * 3,none⟩ (.int .i64 (m))).setCell ⟨g,j * 3+1,none⟩ (.int .i64 (m+1))).setCell ⟨g,j * 3+2,none⟩ (.int .i64 (m+1+1))) base g cap (aJ Wb (fun _=>3) k (l.take (j+1)) ++ l.drop (j+1))∧aI w (((wr.setCell ⟨g,j * 3,none⟩ (.int .i64 (m))).setCell ⟨g,j * 3+1,none⟩ (.int .i64 (m+1))).setCell ⟨g,j * 3+2,none⟩ (.int .i64 (m+1+1))) [g]):=⟨by rw [kE HX.I.1,Lm,← HA.I.1]; exact ES.I.1,zy.I⟩
   go_wp2;go_roundw
   case rel=>exact ⟨j+1,m+3,by omega,by go_num,by go_num,by omega,by omega,⟨HX.I.2.2,HN.I.1,HN.I.2⟩⟩
   case measure=>simp [intOf]; omega
  ·have i1: ¬ (j:Int) < (l.length:Int):=by omega
   have ej:j=l.length:=by omega
   subst ej;have HE:Hid (bl jq 100 wr base g cap (aJ Wb (fun _=>3) k l)∧m=k+(aF (fun _:pA=>3) l:Nat)):=by have h5:=HA.I.2.1; have h6:=HA.I.1; rw [LQ,List.drop_length,QO] at h5; rw [LQ] at h6; exact ⟨h5,h6⟩
   go_wp2;go_ret;refine ⟨ck HE.I.2,?_,HA.I.2.2.mono (by simp [blk])⟩;have h7:=HE.I.1.owns;rw [bE] at h7;exact h7
def hJ (k:Int) (_:bD):bD:=⟨k,k+1,k+1+1⟩
theorem CF (a:Option Addr) (l:List bD) (cap:Nat) (k:Int) (w:World) (base:Nat) (hl:l.length≤1048576) (h0:1≤k) (h1:k+(aF (fun _=>3) l:Nat)≤90000000) (ho:w.ownsRow base 184 3 (.slice a l.length cap) l.length (dm.flat l)):
  Calls J3 58 #[.slice a l.length cap,.int .i64 k] w fun e w'=>e= .returned (.int .i64 (k+(aF (fun _=>3) l:Nat)))∧w'.ownsRow base 184 3 (.slice a l.length cap) l.length (dm.flat (aJ hJ (fun _=>3) k l))∧aI w w' (blk a):=by
 by_cases hz:l.length=0
 ·have hl0:l= [] :=List.eq_nil_of_length_eq_zero hz
  subst hl0;have HO:Hid (w.ownsRow base 184 3 (.slice a 0 cap) 0 (dm.flat [])):=ho;clear ho
  go_enter Tryz.func58,Tryz.ntmps58
  go_wp2_with fail
  go_loopw [1,5] (fun q i wr=>q= .int .i64 k∧i= .int .i64 0∧wr=w) (fun _ _ _=>0)
  case atStart=>exact ⟨rfl,rfl,rfl⟩
  case round=>
   obtain ⟨rfl,rfl,rfl⟩:=hrel;go_wp2;go_ret;exact ⟨ck (by simp [aF]),HO.I,aI.refl _ _⟩
 obtain ⟨g,rfl,hrow⟩:=bl.fX (K:=dm) ho hz;have HR:Hid (bl dm 184 w base g cap l):=hrow;have HB:Hid (k+(aF (fun _:bD=>3) l:Nat)≤90000000):=h1;clear ho hrow h1 hz
 go_enter Tryz.func58,Tryz.ntmps58
 go_wp2_with fail
 go_loopw [1,5] (fun q i wr=> ∃ (j:Nat) (m:Int),j≤l.length∧i= .int .i64 j∧q= .int .i64 m∧1≤m∧m≤90000000∧Hid (m=k+(aF (fun _:bD=>3) (l.take j):Nat)∧bl dm 184 wr base g cap (aJ hJ (fun _=>3) k (l.take j) ++ l.drop j)∧aI w wr [g])) (fun _ i _=>l.length - (intOf i).toNat)
 case atStart=>exact ⟨0,k,Ky _,rfl,rfl,h0,by have:=HB.I; omega,⟨by simp [aF],HR.I,aI.refl _ _⟩⟩
 case round=>
  clear HR;obtain ⟨j,m,hj,rfl,rfl,m0,m1,HA⟩:=hrel;by_cases hlt:j < l.length
  ·have i0:(0:Int)≤(j:Int):=by omega
   have i1:(j:Int) < (l.length:Int):=by omega
   obtain ⟨x,hx⟩: ∃ x,l[j]? =some x:=⟨_,Kz hlt⟩
   have pI:l.drop j=x :: l.drop (j+1):=mz hx;have qw:=du (c:=fun _:bD=>3) hx;have hup:=gK (c:=fun _:bD=>3) hx;have HX:Hid (l[j]? =some x∧m+3≤90000000∧m+3=k+(aF (fun _:bD=>3) (l.take (j+1)):Nat)):=⟨hx,by have:=HB.I; have:=HA.I.1; omega,by have:=HA.I.1; omega⟩
   have HW:Hid (bl dm 184 wr base g cap (aJ hJ (fun _=>3) k (l.take j) ++ x :: l.drop (j+1))∧(aJ hJ (fun _=>3) k (l.take j)).length=j):=⟨by have:=HA.I.2.1; rwa [pI] at this,by rw [bE,Lk]; omega⟩
   clear hx pI qw hup;have m2:m+3≤90000000:=HX.I.2.1;have hgl:g < wr.heap.size:=HW.I.1.lt;have q0:=bl.eO HW.I.1 HW.I.2 (r:=0) (by decide:0 < dm.n);obtain ⟨⟨u0,c0⟩,f0⟩:(∃ u,wr.cell? ⟨g,j * 3,none⟩=some u)∧wr.frozen? ⟨g,j * 3,none⟩=false:=q0;have q1:=bl.eO HW.I.1 HW.I.2 (r:=1) (by decide:1 < dm.n);obtain ⟨⟨u1,c1⟩,f1⟩:(∃ u,wr.cell? ⟨g,j * 3+1,none⟩=some u)∧wr.frozen? ⟨g,j * 3+1,none⟩=false:=q1;have q2:=bl.eO HW.I.1 HW.I.2 (r:=2) (by decide:2 < dm.n);obtain ⟨⟨u2,c2⟩,f2⟩:(∃ u,wr.cell? ⟨g,j * 3+2,none⟩=some u)∧wr.frozen? ⟨g,j * 3+2,none⟩=false:=q2;have h5:=bl.part (K:=dm) (x:=(⟨x.id,x.n,x.max⟩:bD)) (y:=(⟨m,m+1,m+1+1⟩:bD)) (j:=0) (vs:= [.int .i64 (m),.int .i64 (m+1),.int .i64 (m+1+1)]) HW.I.1 (by show 0+3≤3; omega) (fun r hr=>by match r,hr with | 0,_=>rfl | 1,_=>rfl | 2,_=>rfl) (fun r hr hn=>by match r,hr,hn with | 0,_,hn=>exact absurd ⟨by omega,by show 0 < 0+3; omega⟩ hn | 1,_,hn=>exact absurd ⟨by omega,by show 1 < 0+3; omega⟩ hn | 2,_,hn=>exact absurd ⟨by omega,by show 2 < 0+3; omega⟩ hn );rw [HW.I.2,show dm.n=3 from rfl] at h5;simp only [bn,Nat.add_assoc,Nat.reduceAdd,PT] at h5;have ES:Hid (bl dm 184 (((wr.setCell ⟨g,j * 3,none⟩ (.int .i64 (m))).setCell ⟨g,j * 3+1,none⟩ (.int .i64 (m+1))).setCell ⟨g,j * 3+2,none⟩ (.int .i64 (m+1+1))) base g cap (aJ hJ (fun _=>3) k (l.take j) ++ (⟨m,m+1,m+1+1⟩:bD) :: l.drop (j+1))∧(aJ hJ (fun _=>3) k (l.take j)).length=j):=⟨h5,HW.I.2⟩
   have h6:aI w (bn wr g (j * 3) [.int .i64 (m),.int .i64 (m+1),.int .i64 (m+1+1)]) [g] :=HA.I.2.2.trans (aI.set _ (by simp));simp only [bn,Nat.add_assoc,Nat.reduceAdd] at h6;have zy:Hid (aI w (((wr.setCell ⟨g,j * 3,none⟩ (.int .i64 (m))).setCell ⟨g,j * 3+1,none⟩ (.int .i64 (m+1))).setCell ⟨g,j * 3+2,none⟩ (.int .i64 (m+1+1))) [g]):=h6;clear h6;clear h5;have HN:Hid (bl dm 184 (((wr.setCell ⟨g,j * 3,none⟩ (.int .i64 (m))).setCell ⟨g,j * 3+1,none⟩ (.int .i64 (m+1))).setCell ⟨g,j * 3+2,none⟩ (.int .i64 (m+1+1))) base g cap (aJ hJ (fun _=>3) k (l.take (j+1)) ++ l.drop (j+1))∧aI w (((wr.setCell ⟨g,j * 3,none⟩ (.int .i64 (m))).setCell ⟨g,j * 3+1,none⟩ (.int .i64 (m+1))).setCell ⟨g,j * 3+2,none⟩ (.int .i64 (m+1+1))) [g]):=⟨by rw [kE HX.I.1,Lm,← HA.I.1]; exact ES.I.1,zy.I⟩
   go_wp2;go_roundw
   case rel=>exact ⟨j+1,m+3,by omega,by go_num,by go_num,by omega,by omega,⟨HX.I.2.2,HN.I.1,HN.I.2⟩⟩
   case measure=>simp [intOf]; omega
  ·have i1: ¬ (j:Int) < (l.length:Int):=by omega
   have ej:j=l.length:=by omega
   subst ej;have HE:Hid (bl dm 184 wr base g cap (aJ hJ (fun _=>3) k l)∧m=k+(aF (fun _:bD=>3) l:Nat)):=by have h5:=HA.I.2.1; have h6:=HA.I.1; rw [LQ,List.drop_length,QO] at h5; rw [LQ] at h6; exact ⟨h5,h6⟩
   go_wp2;go_ret;refine ⟨ck HE.I.2,?_,HA.I.2.2.mono (by simp [blk])⟩;have h7:=HE.I.1.owns;rw [bE] at h7;exact h7
def eM (k:Int) (_:aB):aB:=⟨k,(k+1) % 3 == 0⟩
theorem zw (a:Option Addr) (l:List aB) (cap:Nat) (k:Int) (w:World) (base:Nat) (hl:l.length≤1048576) (h0:1≤k) (h1:k+(aF (fun _=>2) l:Nat)≤90000000) (ho:w.ownsRow base 187 2 (.slice a l.length cap) l.length (bJ.flat l)):
  Calls J3 59 #[.slice a l.length cap,.int .i64 k] w fun e w'=>e= .returned (.int .i64 (k+(aF (fun _=>2) l:Nat)))∧w'.ownsRow base 187 2 (.slice a l.length cap) l.length (bJ.flat (aJ eM (fun _=>2) k l))∧aI w w' (blk a):=by
 by_cases hz:l.length=0
 ·have hl0:l= [] :=List.eq_nil_of_length_eq_zero hz
  subst hl0;have HO:Hid (w.ownsRow base 187 2 (.slice a 0 cap) 0 (bJ.flat [])):=ho;clear ho
  go_enter Tryz.func59,Tryz.ntmps59
  go_wp2_with fail
  go_loopw [1,5] (fun q i wr=>q= .int .i64 k∧i= .int .i64 0∧wr=w) (fun _ _ _=>0)
  case atStart=>exact ⟨rfl,rfl,rfl⟩
  case round=>
   obtain ⟨rfl,rfl,rfl⟩:=hrel;go_wp2;go_ret;exact ⟨ck (by simp [aF]),HO.I,aI.refl _ _⟩
 obtain ⟨g,rfl,hrow⟩:=bl.fX (K:=bJ) ho hz;have HR:Hid (bl bJ 187 w base g cap l):=hrow;have HB:Hid (k+(aF (fun _:aB=>2) l:Nat)≤90000000):=h1;clear ho hrow h1 hz
 go_enter Tryz.func59,Tryz.ntmps59
 go_wp2_with fail
 go_loopw [1,5] (fun q i wr=> ∃ (j:Nat) (m:Int),j≤l.length∧i= .int .i64 j∧q= .int .i64 m∧1≤m∧m≤90000000∧Hid (m=k+(aF (fun _:aB=>2) (l.take j):Nat)∧bl bJ 187 wr base g cap (aJ eM (fun _=>2) k (l.take j) ++ l.drop j)∧aI w wr [g])) (fun _ i _=>l.length - (intOf i).toNat)
 case atStart=>exact ⟨0,k,Ky _,rfl,rfl,h0,by have:=HB.I; omega,⟨by simp [aF],HR.I,aI.refl _ _⟩⟩
 case round=>
  clear HR;obtain ⟨j,m,hj,rfl,rfl,m0,m1,HA⟩:=hrel;by_cases hlt:j < l.length
  ·have i0:(0:Int)≤(j:Int):=by omega
   have i1:(j:Int) < (l.length:Int):=by omega
   obtain ⟨x,hx⟩: ∃ x,l[j]? =some x:=⟨_,Kz hlt⟩
   have pI:l.drop j=x :: l.drop (j+1):=mz hx;have qw:=du (c:=fun _:aB=>2) hx;have hup:=gK (c:=fun _:aB=>2) hx;have HX:Hid (l[j]? =some x∧m+2≤90000000∧m+2=k+(aF (fun _:aB=>2) (l.take (j+1)):Nat)):=⟨hx,by have:=HB.I; have:=HA.I.1; omega,by have:=HA.I.1; omega⟩
   have HW:Hid (bl bJ 187 wr base g cap (aJ eM (fun _=>2) k (l.take j) ++ x :: l.drop (j+1))∧(aJ eM (fun _=>2) k (l.take j)).length=j):=⟨by have:=HA.I.2.1; rwa [pI] at this,by rw [bE,Lk]; omega⟩
   clear hx pI qw hup;have m2:m+2≤90000000:=HX.I.2.1;have hgl:g < wr.heap.size:=HW.I.1.lt;have q0:=bl.eO HW.I.1 HW.I.2 (r:=0) (by decide:0 < bJ.n);obtain ⟨⟨u0,c0⟩,f0⟩:(∃ u,wr.cell? ⟨g,j * 2,none⟩=some u)∧wr.frozen? ⟨g,j * 2,none⟩=false:=q0;have q1:=bl.eO HW.I.1 HW.I.2 (r:=1) (by decide:1 < bJ.n);obtain ⟨⟨u1,c1⟩,f1⟩:(∃ u,wr.cell? ⟨g,j * 2+1,none⟩=some u)∧wr.frozen? ⟨g,j * 2+1,none⟩=false:=q1;have h5:=bl.part (K:=bJ) (x:=(⟨x.id,x.up⟩:aB)) (y:=(⟨m,(m+1) % 3 == 0⟩:aB)) (j:=0) (vs:= [.int .i64 (m),.bool ((m+1) % 3 == 0)]) HW.I.1 (by show 0+2≤2; omega) (fun r hr=>by match r,hr with | 0,_=>rfl | 1,_=>rfl) (fun r hr hn=>by match r,hr,hn with | 0,_,hn=>exact absurd ⟨by omega,by show 0 < 0+2; omega⟩ hn | 1,_,hn=>exact absurd ⟨by omega,by show 1 < 0+2; omega⟩ hn );rw [HW.I.2,show bJ.n=2 from rfl] at h5;simp only [bn,PT] at h5;have ES:Hid (bl bJ 187 ((wr.setCell ⟨g,j * 2,none⟩ (.int .i64 (m))).setCell ⟨g,j * 2+1,none⟩ (.bool ((m+1) % 3 == 0))) base g cap (aJ eM (fun _=>2) k (l.take j) ++ (⟨m,(m+1) % 3 == 0⟩:aB) :: l.drop (j+1))∧(aJ eM (fun _=>2) k (l.take j)).length=j):=⟨h5,HW.I.2⟩
   have h6:aI w (bn wr g (j * 2) [.int .i64 (m),.bool ((m+1) % 3 == 0)]) [g] :=HA.I.2.2.trans (aI.set _ (by simp));simp only [bn] at h6;have zy:Hid (aI w ((wr.setCell ⟨g,j * 2,none⟩ (.int .i64 (m))).setCell ⟨g,j * 2+1,none⟩ (.bool ((m+1) % 3 == 0))) [g]):=h6;clear h6;clear h5;have HN:Hid (bl bJ 187 ((wr.setCell ⟨g,j * 2,none⟩ (.int .i64 (m))).setCell ⟨g,j * 2+1,none⟩ (.bool ((m+1) % 3 == 0))) base g cap (aJ eM (fun _=>2) k (l.take (j+1)) ++ l.drop (j+1))∧aI w ((wr.setCell ⟨g,j * 2,none⟩ (.int .i64 (m))).setCell ⟨g,j * 2+1,none⟩ (.bool ((m+1) % 3 == 0))) [g]):=⟨by rw [kE HX.I.1,Lm,← HA.I.1]; exact ES.I.1,zy.I⟩
   go_wp2;go_roundw
   case rel=>exact ⟨j+1,m+2,by omega,by go_num,by go_num,by omega,by omega,⟨HX.I.2.2,HN.I.1,HN.I.2⟩⟩
   case measure=>simp [intOf]; omega
  ·have i1: ¬ (j:Int) < (l.length:Int):=by omega
   have ej:j=l.length:=by omega
   subst ej;have HE:Hid (bl bJ 187 wr base g cap (aJ eM (fun _=>2) k l)∧m=k+(aF (fun _:aB=>2) l:Nat)):=by have h5:=HA.I.2.1; have h6:=HA.I.1; rw [LQ,List.drop_length,QO] at h5; rw [LQ] at h6; exact ⟨h5,h6⟩
   go_wp2;go_ret;refine ⟨ck HE.I.2,?_,HA.I.2.2.mono (by simp [blk])⟩;have h7:=HE.I.1.owns;rw [bE] at h7;exact h7
def mkStr (k:Int) (_:ByteArray):ByteArray:=cu (k)
theorem uu (a:Option Addr) (l:List ByteArray) (cap:Nat) (k:Int) (w:World) (base:Nat) (hl:l.length≤1048576) (h0:1≤k) (h1:k+(aF (fun _=>1) l:Nat)≤90000000) (ho:w.ownsRow base 9 1 (.slice a l.length cap) l.length (bT.flat l)):
  Calls J3 119 #[.slice a l.length cap,.int .i64 k] w fun e w'=>e= .returned (.int .i64 (k+(aF (fun _=>1) l:Nat)))∧w'.ownsRow base 9 1 (.slice a l.length cap) l.length (bT.flat (aJ mkStr (fun _=>1) k l))∧aI w w' (blk a):=by
 by_cases hz:l.length=0
 ·have hl0:l= [] :=List.eq_nil_of_length_eq_zero hz
  subst hl0;have HO:Hid (w.ownsRow base 9 1 (.slice a 0 cap) 0 (bT.flat [])):=ho;clear ho
  go_enter Tryz.func119,Tryz.ntmps119
  go_wp2_with fail
  go_loopw [1,5] (fun q i wr=>q= .int .i64 k∧i= .int .i64 0∧wr=w) (fun _ _ _=>0)
  case atStart=>exact ⟨rfl,rfl,rfl⟩
  case round=>
   obtain ⟨rfl,rfl,rfl⟩:=hrel;go_wp2;go_ret;exact ⟨ck (by simp [aF]),HO.I,aI.refl _ _⟩
 obtain ⟨g,rfl,hrow⟩:=bl.fX (K:=bT) ho hz;have HR:Hid (bl bT 9 w base g cap l):=hrow;have HB:Hid (k+(aF (fun _:ByteArray=>1) l:Nat)≤90000000):=h1;clear ho hrow h1 hz
 go_enter Tryz.func119,Tryz.ntmps119
 go_wp2_with fail
 go_loopw [1,5] (fun q i wr=> ∃ (j:Nat) (m:Int),j≤l.length∧i= .int .i64 j∧q= .int .i64 m∧1≤m∧m≤90000000∧Hid (m=k+(aF (fun _:ByteArray=>1) (l.take j):Nat)∧bl bT 9 wr base g cap (aJ mkStr (fun _=>1) k (l.take j) ++ l.drop j)∧aI w wr [g])) (fun _ i _=>l.length - (intOf i).toNat)
 case atStart=>exact ⟨0,k,Ky _,rfl,rfl,h0,by have:=HB.I; omega,⟨by simp [aF],HR.I,aI.refl _ _⟩⟩
 case round=>
  clear HR;obtain ⟨j,m,hj,rfl,rfl,m0,m1,HA⟩:=hrel;by_cases hlt:j < l.length
  ·have i0:(0:Int)≤(j:Int):=by omega
   have i1:(j:Int) < (l.length:Int):=by omega
   obtain ⟨x,hx⟩: ∃ x,l[j]? =some x:=⟨_,Kz hlt⟩
   have pI:l.drop j=x :: l.drop (j+1):=mz hx;have qw:=du (c:=fun _:ByteArray=>1) hx;have hup:=gK (c:=fun _:ByteArray=>1) hx;have HX:Hid (l[j]? =some x∧m+1≤90000000∧m+1=k+(aF (fun _:ByteArray=>1) (l.take (j+1)):Nat)):=⟨hx,by have:=HB.I; have:=HA.I.1; omega,by have:=HA.I.1; omega⟩
   have HW:Hid (bl bT 9 wr base g cap (aJ mkStr (fun _=>1) k (l.take j) ++ x :: l.drop (j+1))∧(aJ mkStr (fun _=>1) k (l.take j)).length=j):=⟨by have:=HA.I.2.1; rwa [pI] at this,by rw [bE,Lk]; omega⟩
   clear hx pI qw hup;have m2:m+1≤90000000:=HX.I.2.1;have hgl:g < wr.heap.size:=HW.I.1.lt;go_wp2_with fail;refine (fh (m) (by omega) (by omega) _).mono ?_;rintro e v0 ⟨rfl,hb0⟩;have HV0:Hid (bl bT 9 v0 base g cap (aJ mkStr (fun _=>1) k (l.take j) ++ (x) :: l.drop (j+1))∧(aJ mkStr (fun _=>1) k (l.take j)).length=j):=⟨HW.I.1.same (hb0.block g HW.I.1.lt),HW.I.2⟩
   have HV0K:Hid (aI w v0 [g]):=HA.I.2.2.trans (aI.dI hb0);clear hb0;have q0:=bl.eO HV0.I.1 HV0.I.2 (r:=0) (by decide:0 < bT.n);obtain ⟨⟨u0,c0⟩,f0⟩:(∃ u,v0.cell? ⟨g,j,none⟩=some u)∧v0.frozen? ⟨g,j,none⟩=false:=by have h5:=q0; rw [show j * bT.n+0=j by show j * 1+0=j; omega] at h5; exact h5
   have h5:=bl.part (K:=bT) (x:=x) (y:=(cu (m))) (j:=0) (vs:= [.string (cu (m))]) HV0.I.1 (by show 0+1≤1; omega) (fun r hr=>by match r,hr with | 0,_=>rfl) (fun r hr hn=>by match r,hr,hn with | 0,_,hn=>exact absurd ⟨by omega,by show 0 < 0+1; omega⟩ hn );rw [HV0.I.2,show bT.n=1 from rfl] at h5;simp only [bn,Nat.mul_one,PT] at h5;have ES:Hid (bl bT 9 (v0.setCell ⟨g,j,none⟩ (.string (cu (m)))) base g cap (aJ mkStr (fun _=>1) k (l.take j) ++ (cu (m)) :: l.drop (j+1))∧(aJ mkStr (fun _=>1) k (l.take j)).length=j):=⟨h5,HV0.I.2⟩
   have h6:aI w (bn v0 g (j) [.string (cu (m))]) [g] :=HV0K.I.trans (aI.set _ (by simp));simp only [bn] at h6;have zy:Hid (aI w (v0.setCell ⟨g,j,none⟩ (.string (cu (m)))) [g]):=h6;clear h6;clear h5;have HN:Hid (bl bT 9 (v0.setCell ⟨g,j,none⟩ (.string (cu (m)))) base g cap (aJ mkStr (fun _=>1) k (l.take (j+1)) ++ l.drop (j+1))∧aI w (v0.setCell ⟨g,j,none⟩ (.string (cu (m)))) [g]):=⟨by rw [kE HX.I.1,Lm,← HA.I.1]; exact ES.I.1,zy.I⟩
   go_wp2;go_roundw
   case rel=>exact ⟨j+1,m+1,by omega,by go_num,by go_num,by omega,by omega,⟨HX.I.2.2,HN.I.1,HN.I.2⟩⟩
   case measure=>simp [intOf]; omega
  ·have i1: ¬ (j:Int) < (l.length:Int):=by omega
   have ej:j=l.length:=by omega
   subst ej;have HE:Hid (bl bT 9 wr base g cap (aJ mkStr (fun _=>1) k l)∧m=k+(aF (fun _:ByteArray=>1) l:Nat)):=by have h5:=HA.I.2.1; have h6:=HA.I.1; rw [LQ,List.drop_length,QO] at h5; rw [LQ] at h6; exact ⟨h5,h6⟩
   go_wp2;go_ret;refine ⟨ck HE.I.2,?_,HA.I.2.2.mono (by simp [blk])⟩;have h7:=HE.I.1.owns;rw [bE] at h7;exact h7
end
end Go.Proofs.YteidkehoekbcaaaGreat
