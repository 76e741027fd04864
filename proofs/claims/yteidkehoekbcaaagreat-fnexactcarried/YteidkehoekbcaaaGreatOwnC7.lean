/- What the proof leans on, part 7. -/
import Derived.Test.YteidkehoekbcaaaGreatOwnC4
set_option maxRecDepth 100000
set_option maxHeartbeats 8000000
open Go renaming block_lt_of_cell->Le,wp_at_succ->Kd,wp_at_zero->Kc
open Go.Proofs.Tryz renaming prog->J3
open Go.RowKit.Below renaming refl->Kp
open Go.World renaming cell?_of_block->J1
open List renaming getElem?_eq_getElem->Kz,mem_of_getElem?->KA,mem_singleton->KB,take_of_length_le->KF
open Nat renaming zero_le->Ky

namespace Go.Proofs.YteidkehoekbcaaaGreat
section
open Go.RowKit
attribute [local go_sem ↓] Kc Kd
def DF (w:World) (a:Option Addr) (l:List ao) (g j:Nat) (VX:Int) (w':World):Prop:=(w'.cell? ⟨g,j * 12+8,none⟩=some (.string (cu (VX+1+1+1+1+1)))∧w'.cell? ⟨g,j * 12+9,none⟩=some (.string (cu (VX+1+1+1+1+1+1))))∧Hid (bg.bU w' a l∧Below w.heap.size w w')
theorem AZ (a:Option Addr) (l:List ao) (cap:Nat) (k:Int) (w:World) (hl:l.length≤1048576) (hk: ∀ x∈l,x.prog.length≤1048576) (h0:1≤k) (h1:k+(aF bj l:Nat)≤90000000) (hr:bg.bU w a (aJ cw bj k l)):
  Calls J3 63 #[.slice a l.length cap,.int .i64 k] w fun e w'=>e= .returned (.int .i64 (k+(aF bj l:Nat)))∧Below w.heap.size w w':=by
 have HR:Hid (bg.bU w a (aJ cw bj k l)∧k+(aF bj l:Nat)≤90000000∧ ∀ x∈l,x.prog.length≤1048576):=⟨hr,h1,hk⟩
 clear hr h1 hk
 go_enter Tryz.func63,Tryz.ntmps63
 go_wp2_with fail
 go_loopw [1,5] (fun q i wr=> ∃ (j:Nat) (m:Int),j≤l.length∧i= .int .i64 j∧q= .int .i64 m∧1≤m∧m≤90000000∧Hid (m=k+(aF bj (l.take j):Nat)∧Below w.heap.size w wr)) (fun _ i _=>l.length - (intOf i).toNat)
 case atStart=>exact ⟨0,k,Ky _,rfl,rfl,h0,by have:=HR.I.2.1; omega,⟨by simp [aF],Kp _ _⟩⟩
 case round=>
  obtain ⟨j,m,hj,rfl,rfl,m0,m1,HA⟩:=hrel;by_cases hlt:j < l.length
  ·have i0:(0:Int)≤(j:Int):=by omega
   have i1:(j:Int) < (l.length:Int):=by omega
   obtain ⟨x,hx⟩: ∃ x,l[j]? =some x:=⟨_,Kz hlt⟩
   have qw:=du (c:=bj) hx;have hup:=gK (c:=bj) hx;have hcx:bj x=2+aF (fun _:dN=>4) x.prog+9:=rfl;have hg:=jK (f:=cw) (c:=bj) (k:=k) hx;rw [← HA.I.1] at hg;have hls:bg.bU wr a (aJ cw bj k l):=HR.I.1.below HA.I.2;obtain ⟨g,ha,hat⟩:=hls.at hg;obtain ⟨m',hm'⟩: ∃ q:Int,q=m+1+1+(aF (fun _:dN=>4) x.prog:Nat):=⟨_,rfl⟩
   have hg2:(aJ cw bj k l)[j]? =some (rI m m' x):=by rw [hg,hm']; rfl
   have c0:wr.cell? ⟨g,j * 12,none⟩=some (.int .i64 (m)):=hat 0 _ rfl;have c1:wr.cell? ⟨g,j * 12+1,none⟩=some (.int .i64 (m+1)):=hat 1 _ rfl;have c2:wr.cell? ⟨g,j * 12+2,none⟩=some (.slice x.aY x.prog.length x.bH):=(hat 2 _ rfl).trans (show some (Value.slice x.aY (aJ fj (fun _=>4) (m+1+1) x.prog).length x.bH)=_ by rw [bE]);have HX:Hid (x.prog.length≤1048576∧m'+9≤90000000∧m'+9=k+(aF bj (l.take (j+1)):Nat)∧fk.bU wr x.aY (aJ fj (fun _=>4) (m+1+1) x.prog)∧(aJ cw bj k l)[j]? =some (rI m m' x)∧m'=m+1+1+(aF (fun _:dN=>4) x.prog:Nat)∧bg.bU wr (some ⟨g,0,none⟩) (aJ cw bj k l)):=⟨HR.I.2.2 x (KA hx),by have:=HR.I.2.1; have:=HA.I.1; omega,by have:=HA.I.1; omega,⟨hls.2 _ (KA hg) (x.aY,fk.flat (aJ fj (fun _=>4) (m+1+1) x.prog)) (KB.2 rfl),fun _ _ r hr=>by cases hr⟩,hg2,hm',ha ▸ hls⟩
   have p1:m'+9≤90000000:=HX.I.2.1;have p0:1≤m':=by omega
   have m2:m+1+1≤90000000:=by omega
   subst ha;clear hx qw hup hcx hg hat hls hg2 hm';go_wp2_with fail;refine (xg x.aY x.prog x.bH (m+1+1) wr HX.I.1 (by omega) (by have:=HX.I.2.1; have:=HX.I.2.2.2.2.2.1; omega) HX.I.2.2.2.1).mono ?_;rintro e v ⟨rfl,hb⟩;rw [← HX.I.2.2.2.2.2.1];have HV:Hid (bg.bU v (some ⟨g,0,none⟩) (aJ cw bj k l)∧Below w.heap.size w v):=⟨HX.I.2.2.2.2.2.2.below hb,HA.I.2.trans (hb.mono HA.I.2.size)⟩
   clear hb c0 c1 c2;obtain ⟨g2,hg2,hat⟩:=HV.I.1.at HX.I.2.2.2.2.1;cases hg2;have c3:v.cell? ⟨g,j * 12+3,none⟩=some (.int .i64 (m')):=hat 3 _ rfl;have c4:v.cell? ⟨g,j * 12+4,none⟩=some (.int .i64 (m'+1)):=hat 4 _ rfl;have c5:v.cell? ⟨g,j * 12+5,none⟩=some (.int .i64 (m'+1+1)):=hat 5 _ rfl;have c6:v.cell? ⟨g,j * 12+6,none⟩=some (.int .i64 (m'+1+1+1)):=hat 6 _ rfl;have c7:v.cell? ⟨g,j * 12+7,none⟩=some (.int .i64 (m'+1+1+1+1)):=hat 7 _ rfl;have c8:v.cell? ⟨g,j * 12+8,none⟩=some (.string (cu (m'+1+1+1+1+1))):=hat 8 _ rfl;have c9:v.cell? ⟨g,j * 12+9,none⟩=some (.string (cu (m'+1+1+1+1+1+1))):=hat 9 _ rfl;have qF:v.cell? ⟨g,j * 12+10,none⟩=some (.int .i64 (m'+1+1+1+1+1+1+1)):=hat 10 _ rfl;have pe:v.cell? ⟨g,j * 12+11,none⟩=some (.int .i64 (m'+1+1+1+1+1+1+1+1)):=hat 11 _ rfl;clear hat;go_wp2_with fail;have HT:Hid (DF w (some ⟨g,0,none⟩) (aJ cw bj k l) g j m' v.drew):=⟨⟨c8,c9⟩,HV.I.1.below (Kp _ _).drew,HV.I.2.drew⟩
   clear c3 c4 c5 c6 c7 c8 c9 qF pe;refine aT (DF w (some ⟨g,0,none⟩) (aJ cw bj k l) g j m') (by kernel_rfl) HT.I ?_
   iterate 6 (refine PI ?_ (hy:=fun w0 hS0=>by obtain ⟨⟨q8,q9⟩,hH⟩:=hS0; go_simp; try with_reducible rfl))
   refine cl (.string (cu (m'+1+1+1+1+1))) 118 #[.int .i64 (m'+1+1+1+1+1)] ?_ ?_ ?_
   ·intro w0 hS0
    obtain ⟨⟨q8,q9⟩,hH⟩:=hS0
    go_simp
    try with_reducible rfl
   ·intro w0 hS0
    refine (fh (m'+1+1+1+1+1) (by omega) (by omega) w0).mono ?_;rintro e w2 ⟨rfl,hb2⟩;exact ⟨rfl,⟨(J1 (hb2.block g (Le hS0.1.1))).trans hS0.1.1,(J1 (hb2.block g (Le hS0.1.1))).trans hS0.1.2⟩,hS0.2.I.1.below hb2,hS0.2.I.2.trans (hb2.mono hS0.2.I.2.size)⟩
   simp only [pt,sb,s0,s1]
   (refine PI ?_ (hy:=fun w0 hS0=>by obtain ⟨⟨q8,q9⟩,hH⟩:=hS0; go_simp; try with_reducible rfl))
   refine bk (by kernel_rfl) ?_ _;intro w1 cm;have wm:Hid (DF w (some ⟨g,0,none⟩) (aJ cw bj k l) g j m' w1.drew):=⟨cm.1,cm.2.I.1.below (Kp _ _).drew,cm.2.I.2.drew⟩
   clear cm HT;have HT:=wm;clear wm;go_wp2_with fail;refine aT (DF w (some ⟨g,0,none⟩) (aJ cw bj k l) g j m') (by kernel_rfl) HT.I ?_
   iterate 6 (refine PI ?_ (hy:=fun w0 hS0=>by obtain ⟨⟨q8,q9⟩,hH⟩:=hS0; go_simp; try with_reducible rfl))
   refine cl (.string (cu (m'+1+1+1+1+1+1))) 118 #[.int .i64 (m'+1+1+1+1+1+1)] ?_ ?_ ?_
   ·intro w0 hS0
    obtain ⟨⟨q8,q9⟩,hH⟩:=hS0
    go_simp
    try with_reducible rfl
   ·intro w0 hS0
    refine (fh (m'+1+1+1+1+1+1) (by omega) (by omega) w0).mono ?_;rintro e w2 ⟨rfl,hb2⟩;exact ⟨rfl,⟨(J1 (hb2.block g (Le hS0.1.1))).trans hS0.1.1,(J1 (hb2.block g (Le hS0.1.1))).trans hS0.1.2⟩,hS0.2.I.1.below hb2,hS0.2.I.2.trans (hb2.mono hS0.2.I.2.size)⟩
   simp only [pt,sb,s0,s1]
   (refine PI ?_ (hy:=fun w0 hS0=>by obtain ⟨⟨q8,q9⟩,hH⟩:=hS0; go_simp; try with_reducible rfl))
   refine bk (by kernel_rfl) ?_ _;intro w1 cm;obtain ⟨g2,hg2,hat⟩:=cm.2.I.1.at HX.I.2.2.2.2.1;cases hg2;have qF:w1.cell? ⟨g,j * 12+10,none⟩=some (.int .i64 (m'+1+1+1+1+1+1+1)):=hat 10 _ rfl;have pe:w1.cell? ⟨g,j * 12+11,none⟩=some (.int .i64 (m'+1+1+1+1+1+1+1+1)):=hat 11 _ rfl;have HZ:Hid (Below w.heap.size w w1):=cm.2.I.2;clear cm hat HT;go_wp2;go_roundw
   case rel=>exact ⟨j+1,m'+9,by omega,by go_num,by go_num,by omega,by omega,⟨HX.I.2.2.1,HZ.I⟩⟩
   case measure=>simp [intOf]; omega
  ·have i1: ¬ (j:Int) < (l.length:Int):=by omega
   have HE:Hid (m=k+(aF bj l:Nat)):=by have h6:=HA.I.1; rw [KF (by omega)] at h6; exact h6
   go_wp2;go_ret;exact ⟨ck HE.I,HA.I.2⟩
end
section
open Go.RowKit Go.Maps
attribute [local go_sem ↓] Kc Kd
def UW (w:World) (K b:Nat) (now:Int) (tab:Array Value) (l:List (aZ × Nat)) (ps:List aE) (cs:List eQ) (e:Ending) (W:World):Prop:=
 aI w W [K] ∧(((decide (cs.length≤10) && fA ps [] cs)=false∧e= .returned (.bool false))∨((decide (cs.length≤10) && fA ps [] cs)=true∧e= .returned (.bool true)∧ ∃ ls a cap,ls.map (·.c)=cs∧(∀ o∈ls,Joins l o)∧T1 w K b now tab a cap ls W))
theorem T3 (w0 w:World) (K b:Nat) (now:Int) (tab:Array Value) (l:List (aZ × Nat)) (ps:List aE) (cs:List eQ) (a:Option Addr) (cap:Nat) (hp:VK w K b l) (hl:l.map (·.1.pure)=ps) (hk:w.rowIs K 107 65 (B3 now tab b none 0 0)) (hb:Below w0.heap.size w0 w) (hK:w0.heap.size≤K) (hc:hM.bU w0 a cs) (hw: ∀ c∈cs,c.Wf) (hn:cs.length≤1048576):
  Calls J3 101 #[.pointer (some ⟨K,0,none⟩),.slice a cs.length cap] w fun e W=>UW w K b now tab l ps cs e W:=by
 have S:Hid (T1 w K b now tab none 0 [] w):=⟨aI.refl _ _,hk,World.ownsRow_nil _ _ _ _⟩
 have HP:=aA (And.intro hp (And.intro hl (And.intro hb (And.intro hK (And.intro hc hw)))));clear hp hl hk hb hK hc hw
 go_enter Tryz.func101,Tryz.ntmps101
 by_cases h10:10 < cs.length
 ·have i1:(10:Int) < (cs.length:Int):=by omega
  have HN:Hid ((decide (cs.length≤10) && fA ps [] cs)=false):=by show _=_; rw [decide_eq_false (by omega)]; rfl
  clear h10;go_wp2;go_ret;exact ⟨S.I.kept,.inl ⟨HN.I,rfl⟩⟩
 have i1: ¬ (10:Int) < (cs.length:Int):=by omega
 have eX:Hid (cs.length≤10):=by show _≤_; omega
 clear h10;go_wp2_with fail;clear i1
 go_loopw [12] (fun i wr=> ∃ (n:Nat) (ls:List gi) (a2:Option Addr) (Ta:Nat),n≤cs.length∧i= .int .i64 n∧Hid (T1 w K b now tab a2 Ta ls wr∧ls.map (·.c)=cs.take n∧(∀ o∈ls,Joins l o)∧fA ps [] (cs.take n)=true)) (fun i _=>cs.length - (Go.RowKit.intOf i).toNat)
 case atStart=>exact ⟨0,[],none,0,Ky _,rfl,S.I,rfl,(fun o ho=>by cases ho),rfl⟩
 case round=>
  clear S;obtain ⟨n,ls,a2,Ta,hn2,rfl,S⟩:=hrel;by_cases hlt:n < cs.length
  ·have i0:(0:Int)≤(n:Int):=by omega
   have i1:(n:Int) < (cs.length:Int):=by omega
   obtain ⟨c,hc⟩: ∃ c,cs[n]? =some c:=⟨_,Kz hlt⟩
   have DM:Hid (ls.length≤10):=by show ls.length≤10; have h:=congrArg List.length S.I.2.1; simp at h; have:=eX.I; omega
   have hbl:Below w0.heap.size w0 wr:=HP.I.2.2.1.trans (S.I.1.kept.below (by have h1:=HP.I.2.2.1.size; omega) (fun g hg=>by rw [KB.1 hg]; exact HP.I.2.2.2.1));obtain ⟨gs,rfl,c0,c1,c2,c3⟩:=TH (HP.I.2.2.2.2.1.below hbl) hc;have HC:=aA hc;clear hbl hc;go_upto_region 6 with fail;clear c0 c1 c2 c3;have hz:Below wr.heap.size wr (wr.alloc (.cells (nx c) 80)):=(Kp _ _).alloc (Nat.le_refl _) _;have Uc:Hid (P1 (wr.alloc (.cells (nx c) 80)) wr.heap.size c):=heap_alloc_new _ _;have mO:=aA S.I.2;replace S:=aA (S.I.1.below hz);clear hz;generalize wr.alloc (.cells (nx c) 80)=W1 at *;generalize wr.heap.size=X at *;have Mb:=Vm w K b now tab a2 Ta ls l ps c W1 HP.I.1 HP.I.2.1 mO.I.2.1 DM.I (HP.I.2.2.2.2.2 c (KA HC.I)) S.I;obtain ⟨m0,m1,m2,m3⟩:=Uc.I.cells;go_wp2_with fail;clear m0 m1 m2 m3 Uc;refine Mb.mono ?_;clear Mb S;rintro e W2 (⟨hno,rfl,hk2⟩ | ⟨fm,rfl,s,t,a3,UY,hj,hk3⟩)
   ·have HE:Hid (aI w W2 [K] ∧(decide (cs.length≤10) && fA ps [] cs)=false):=⟨hk2,by
     rw [kq HC.I,Bool.and_false];simp only [ko,Bool.and_eq_false_iff,Bool.not_eq_false',mO.I.1] at hno;exact hno⟩
    clear hno hk2;go_wp2;go_ret;exact ⟨HE.I.1,.inl ⟨HE.I.2,rfl⟩⟩
   ·have HE:Hid (T1 w K b now tab a3 UY (ls ++ [⟨c,s,t⟩]) W2∧(ls ++ [(⟨c,s,t⟩:gi)]).map (·.c)=cs.take (n+1)∧(∀ o∈ls ++ [(⟨c,s,t⟩:gi)],Joins l o)∧fA ps [] (cs.take (n+1))=true):=by
     refine ⟨hk3,by rw [cj HC.I,List.map_append,mO.I.1]; rfl,fun o ho=> ?_,?_⟩
     ·rcases List.mem_append.1 ho with ho | ho
      ·exact mO.I.2.1 o ho
      ·rw [KB.1 ho]; exact hj
     ·simp only [ko,Bool.and_eq_true,Bool.not_eq_true',mO.I.1] at fm
      exact Tz mO.I.2.2 HC.I fm.1 fm.2
    clear fm hj hk3;go_wp2;go_roundw
    case rel=>exact ⟨n+1,ls ++ [⟨c,s,t⟩],a3,UY,by omega,by go_num,HE.I.1,HE.I.2⟩
    case measure=>simp [Go.RowKit.intOf]; omega
  ·have i1: ¬ (n:Int) < (cs.length:Int):=by omega
   go_wp2;go_ret;have h:=S.I;rw [KF (by omega)] at h;exact ⟨h.1.kept,.inr ⟨by rw [decide_eq_true eX.I,h.2.2.2]; rfl,rfl,ls,a2,Ta,h.2.1,h.2.2.1,h.1⟩⟩
end
end Go.Proofs.YteidkehoekbcaaaGreat
