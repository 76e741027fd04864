/- What the proof leans on, part 11. -/
import Derived.Test.YteidkehoekbcaaaGreatOwnC6
import Derived.Test.YteidkehoekbcaaaGreatOwnC7
set_option maxRecDepth 100000
set_option maxHeartbeats 8000000
open Array renaming getElem?_eq_some_iff->J2
open Go renaming block_lt_of_cell->Le,wp_at_succ->Kd,wp_at_zero->Kc
open Go.Proofs.Tryz renaming prog->J3
open Go.RowKit.Below renaming refl->Kp
open Go.World renaming cell?_of_block->J1
open List renaming getElem?_eq_getElem->Kz,mem_of_getElem?->KA

namespace Go.Proofs.YteidkehoekbcaaaGreat
section
open Go.RowKit Go.Maps
attribute [local go_sem ↓] Kc Kd
def aby (w:World) (Z:Nat→Int) (len:Nat) (e:Ending) (w':World):Prop:= ∃ (a:Option Addr) (cap:Nat),e= .returned (.slice a len cap)∧w'.ownsRow (w.heap.size+1) 100 3 (.slice a len cap) len (Zr Z len)∧Below w.heap.size w w'
theorem aar (cs:Array Value) (major:Int) (len:Nat) (Z:Nat→Int) (w:World) (h:P2 major len Z cs) (hn:len≤20):
  Calls J3 159 #[.func (.func 160) #[.agg cs] #[]] w fun e w'=>aby w Z len e w':=by
 have Mb:=callsIn_wide.1 (appendSeq_in cs major len Z w h hn);clear h
 go_enter Tryz.func159,Tryz.ntmps159
 go_wp2_with fail;refine Mb.mono ?_;clear Mb;rintro e W1 ⟨a,cap,rfl,h1,h2⟩;go_wp2;go_ret;exact ⟨a,cap,rfl,h1,h2⟩
theorem abe {P:Program} {md:Region.Mode} {ops:Array Oper} {Q:Exit→Act→World→Prop} {S:World→Prop} (i:Nat) {oi:Oper} {v:Value} {fuel:Nat} {RV:Array Bool} {a:Act} {w:World} {d:Tmp} (hi:ops[i]? =some oi) (hy:YieldsIf P ops S oi v a) (hS:S w)
  (h:wpAnyH P md ops Q S fuel (RV.setIfInBounds i true) (a.put (some d) v) w) (hd:oi.dst=some d:=by rfl) (h1:Region.noSelect ops=true:=by kernel_rfl) (h2:Region.free md ops RV i=true:=by kernel_rfl) (h3:(Region.ready md ops RV).contains i=true:=by kernel_rfl)
  (hQ: ∀ c a w,Q (.panic c) (a.put (some d) v) w→Q (.panic c) a w:=by exact fun _ _ _ h=>h):wpAnyH P md ops Q S (fuel+1) RV a w:=by
 rw [← hd] at h hQ;exact wpAnyH_take (i:=i) hi h1 h2 h3 hQ hy hS h
def abp (w:World) (major:Int) (Z:Nat→Int) (len:Nat) (e:Ending) (w':World):Prop:= ∃ (a:Option Addr) (cap:Nat),e= .returned (.agg #[.int .i64 major,.slice a len cap])∧w'.ownsRow w.heap.size 100 3 (.slice a len cap) len (Zr Z len)∧Below w.heap.size w w'
theorem ZE (cs:Array Value) (major:Int) (len:Nat) (Z:Nat→Int) (w:World) (h:P2 major len Z cs) (hn:len≤20):
  Calls J3 123 #[.agg cs] w fun e w'=>abp w major Z len e w':=by
 have HC:=aA h;have hsz:cs.size=62:=h.1;have S:Hid (((w.alloc (.cells cs 103)).alloc (.cells #[.int .i64 0,.slice none 0 0] 33)).heap[w.heap.size]? =some (.cells cs 103 (0,0))∧((w.alloc (.cells cs 103)).alloc (.cells #[.int .i64 0,.slice none 0 0] 33)).heap[w.heap.size+1]? =some (.cells #[.int .i64 0,.slice none 0 0] 33 (0,0))∧Below w.heap.size w ((w.alloc (.cells cs 103)).alloc (.cells #[.int .i64 0,.slice none 0 0] 33))):=⟨(PU (by simp)).trans (heap_alloc_new _ _),heap_alloc2_new _ _ _,((Kp _ _).alloc (Nat.le_refl _) _).alloc (by simp) _⟩
 have HM:Hid (∀ W:World,W.heap[w.heap.size]? =some (.cells cs 103 (0,0))→W.cell? ⟨w.heap.size,0,none⟩=some (.int .i64 major)):=fun W hW=>by rw [cell_of_row W _ _ cs 103 _ hW]; exact HC.I.major
 clear h
 go_enter Tryz.func123,Tryz.ntmps123
 go_upto_region 1 with fail;generalize (w.alloc (.cells cs 103)).alloc (.cells #[.int .i64 0,.slice none 0 0] 33)=W0 at *;refine wp_region_held_drew (S:=fun W=>W.heap[w.heap.size]? =some (.cells cs 103 (0,0))) (by kernel_rfl) S.I.1 (fun _=> ?_);replace S:Hid (W0.drew.heap[w.heap.size]? =some (.cells cs 103 (0,0))∧W0.drew.heap[w.heap.size+1]? =some (.cells #[.int .i64 0,.slice none 0 0] 33 (0,0))∧Below w.heap.size w W0.drew):=⟨S.I.1,S.I.2.1,S.I.2.2.drew⟩
 generalize World.drew _=V at *;refine tt 0 S.I.1 ?_;refine tt 1 S.I.1 ?_ (hy:=fun w0 hS0=>by have q0:=HM.I w0 hS0; go_simp; try with_reducible rfl);refine abe 2 (v:= .agg cs) rfl (Ib (by rfl) 103 _ rfl w.heap.size (by rfl) 103 _ _ (fun _ h=>h) Tryz.underlying103 rfl (by rw [Dw,hsz])) S.I.1 ?_
 try simp only [pt,sb,s0,s1]
 refine tt 3 S.I.1 ?_;refine L7 4 (fun Q hQ=> ?_);go_wp2_with fail;refine (aar cs major len Z V HC.I hn).mono ?_;rintro e W5 ⟨a,cap,rfl,ho,hb⟩;have HO:=aA (And.intro ho (J2.1 S.I.2.1).1);replace S:Hid (W5.heap[w.heap.size]? =some (.cells cs 103 (0,0))∧W5.heap[w.heap.size+1]? =some (.cells #[.int .i64 0,.slice none 0 0] 33 (0,0))∧Below w.heap.size w W5):=⟨(hb.block _ (J2.1 S.I.1).1).trans S.I.1,(hb.block _ (J2.1 S.I.2.1).1).trans S.I.2.1,S.I.2.2.trans (hb.mono S.I.2.2.size)⟩
 clear ho hb;refine hQ.out _ _ S.I.1 (fun _=> ?_);clear hQ Q
 try simp only [pt,sb,s0,s1]
 refine tt 5 S.I.1 ?_;refine L7 6 (fun Q hQ=> ?_);have d0:W5.cell? ⟨w.heap.size+1,0,none⟩=some (.int .i64 0):=by simp [World.cell?,S.I.2.1]
 have d1:W5.cell? ⟨w.heap.size+1,1,none⟩=some (.slice none 0 0):=by simp [World.cell?,S.I.2.1]
 have f0:W5.frozen? ⟨w.heap.size+1,0,none⟩=false:=by simp [World.frozen?,S.I.2.1]
 have f1:W5.frozen? ⟨w.heap.size+1,1,none⟩=false:=by simp [World.frozen?,S.I.2.1]
 go_wp2_with fail;clear d0 d1 f0 f1;have HW:Hid (((W5.setCell ⟨w.heap.size+1,0,none⟩ (.int .i64 major)).setCell ⟨w.heap.size+1,1,none⟩ (.slice a len cap)).heap[w.heap.size+1]? =some (.cells #[.int .i64 major,.slice a len cap] 33 (0,0))∧((W5.setCell ⟨w.heap.size+1,0,none⟩ (.int .i64 major)).setCell ⟨w.heap.size+1,1,none⟩ (.slice a len cap)).ownsRow w.heap.size 100 3 (.slice a len cap) len (Zr Z len)∧Below w.heap.size w ((W5.setCell ⟨w.heap.size+1,0,none⟩ (.int .i64 major)).setCell ⟨w.heap.size+1,1,none⟩ (.slice a len cap))∧((W5.setCell ⟨w.heap.size+1,0,none⟩ (.int .i64 major)).setCell ⟨w.heap.size+1,1,none⟩ (.slice a len cap)).heap[w.heap.size]? =some (.cells cs 103 (0,0))):=by
  have hs: ∀ g,g≠w.heap.size+1→((W5.setCell ⟨w.heap.size+1,0,none⟩ (.int .i64 major)).setCell ⟨w.heap.size+1,1,none⟩ (.slice a len cap)).heap[g]? =W5.heap[g]? :=fun g hg=>(Go.Deep.blk_setCell_other _ _ _ _ hg).trans (Go.Deep.blk_setCell_other _ _ _ _ hg)
  refine ⟨by have h5:=S.I.2.1; simp [World.setCell,Array.getElem?_modify,h5],cq (aL HO.I.1 fun g hg=>hs g (by have:=(cf HO.I.1 hg).1; have:=HO.I.2; omega)) (by have:=HO.I.2; omega),(S.I.2.2.setCell (by show _≤w.heap.size+1; omega) _).setCell (by show _≤w.heap.size+1; omega) _,(hs _ (by omega)).trans S.I.1⟩
 refine hQ.out _ _ HW.I.2.2.2 (fun _=> ?_);clear hQ Q S HO;refine wpAnyH_done (by kernel_rfl) ?_ _;generalize (W5.setCell ⟨w.heap.size+1,0,none⟩ (.int .i64 major)).setCell ⟨w.heap.size+1,1,none⟩ (.slice a len cap)=W6 at *;have r0:W6.cell? ⟨w.heap.size+1,0,none⟩=some (.int .i64 major):=by simp [World.cell?,HW.I.1]
 have r1:W6.cell? ⟨w.heap.size+1,1,none⟩=some (.slice a len cap):=by simp [World.cell?,HW.I.1]
 go_wp2;refine bodyPost_ret (v:= .agg #[.int .i64 major,.slice a len cap]) (by simp [results,Tryz.results123,go_sem, *]) rfl ?_;exact ⟨a,cap,rfl,HW.I.2.1,HW.I.2.2.1⟩
theorem Z8: ∀ (l:List pA) (k:Nat),k≤l.length→Zr (sz l) k=jq.flat (l.take k)
 | l,0,_=>by simp [Zr,Kind.flat]
 | l,k+1,h=>by
  obtain ⟨x,hx⟩: ∃ x,l[k]? =some x:=⟨_,Kz (by omega)⟩
  rw [Zr,Z8 l k (by omega),cj hx];have e0:sz l (k * 3)=x.at_:=by unfold sz; rw [show k * 3 / 3=k by omega,hx]; simp
  have e1:sz l (k * 3+1)=x.len:=by unfold sz; rw [show (k * 3+1) / 3=k by omega,hx]; simp [show (k * 3+1) % 3=1 by omega]
  have e2:sz l (k * 3+2)=x.part:=by unfold sz; rw [show (k * 3+2) / 3=k by omega,hx]; simp [show (k * 3+2) % 3=2 by omega]
  rw [e0,e1,e2];simp [Kind.flat,jq,VE]
end
section
open Go.RowKit
attribute [local go_sem ↓] Kc Kd
def DF (w:World) (a:Option Addr) (l:List ao) (g j:Nat) (VX:Int) (w':World):Prop:=(w'.cell? ⟨g,j * 12+8,none⟩=some (.string (cu (VX+1+1+1+1+1)))∧w'.cell? ⟨g,j * 12+9,none⟩=some (.string (cu (VX+1+1+1+1+1+1))))∧Hid (bg.bU w' a l∧Below w.heap.size w w')
theorem AZ (a:Option Addr) (l:List ao) (cap:Nat) (k:Int) (w:World) (hl:l.length≤1048576) (hk: ∀ x∈l,x.prog.length≤1048576) (h0:1≤k) (h1:k+(aF bj l:Nat)≤90000000) (hr:bg.bU w a (aJ cw bj k l)):
  Calls J3 63 #[.slice a l.length cap,.int .i64 k] w fun e w'=>e= .returned (.int .i64 (k+(aF bj l:Nat)))∧Below w.heap.size w w':=by
 have HR:Hid (bg.bU w a (aJ cw bj k l)∧k+(aF bj l:Nat)≤90000000∧ ∀ x∈l,x.prog.length≤1048576):=⟨hr,h1,hk⟩
 clear hr h1 hk
 go_enter Tryz.func63,Tryz.ntmps63
 go_wp2_with fail
 go_loopw [1,5] (fun q i wr=> ∃ (j:Nat) (m:Int),j≤l.length∧i= .int .i64 j∧q= .int .i64 m∧1≤m∧m≤90000000∧Hid (m=k+(aF bj (l.take j):Nat)∧Below w.heap.size w wr)) (fun _ i _=>l.length - (intOf i).toNat)
 case atStart=>exact ⟨0,k,Nat.zero_le _,rfl,rfl,h0,by have:=HR.I.2.1; omega,⟨by simp [aF],Kp _ _⟩⟩
 case round=>
  obtain ⟨j,m,hj,rfl,rfl,m0,m1,HA⟩:=hrel;by_cases hlt:j < l.length
  ·have i0:(0:Int)≤(j:Int):=by omega
   have i1:(j:Int) < (l.length:Int):=by omega
   obtain ⟨x,hx⟩: ∃ x,l[j]? =some x:=⟨_,Kz hlt⟩
   have qw:=du (c:=bj) hx;have hup:=gK (c:=bj) hx;have hcx:bj x=2+aF (fun _:dN=>4) x.prog+9:=rfl;have hg:=jK (f:=cw) (c:=bj) (k:=k) hx;rw [← HA.I.1] at hg;have hls:bg.bU wr a (aJ cw bj k l):=HR.I.1.below HA.I.2;obtain ⟨g,ha,hat⟩:=hls.at hg;obtain ⟨m',hm'⟩: ∃ q:Int,q=m+1+1+(aF (fun _:dN=>4) x.prog:Nat):=⟨_,rfl⟩
   have hg2:(aJ cw bj k l)[j]? =some (rI m m' x):=by rw [hg,hm']; rfl
   have c0:wr.cell? ⟨g,j * 12,none⟩=some (.int .i64 (m)):=hat 0 _ rfl;have c1:wr.cell? ⟨g,j * 12+1,none⟩=some (.int .i64 (m+1)):=hat 1 _ rfl;have c2:wr.cell? ⟨g,j * 12+2,none⟩=some (.slice x.aY x.prog.length x.bH):=(hat 2 _ rfl).trans (show some (Value.slice x.aY (aJ fj (fun _=>4) (m+1+1) x.prog).length x.bH)=_ by rw [bE]);have HX:Hid (x.prog.length≤1048576∧m'+9≤90000000∧m'+9=k+(aF bj (l.take (j+1)):Nat)∧fk.bU wr x.aY (aJ fj (fun _=>4) (m+1+1) x.prog)∧(aJ cw bj k l)[j]? =some (rI m m' x)∧m'=m+1+1+(aF (fun _:dN=>4) x.prog:Nat)∧bg.bU wr (some ⟨g,0,none⟩) (aJ cw bj k l)):=⟨HR.I.2.2 x (KA hx),by have:=HR.I.2.1; have:=HA.I.1; omega,by have:=HA.I.1; omega,⟨hls.2 _ (KA hg) (x.aY,fk.flat (aJ fj (fun _=>4) (m+1+1) x.prog)) (List.mem_singleton.2 rfl),fun _ _ r hr=>by cases hr⟩,hg2,hm',ha ▸ hls⟩
   have p1:m'+9≤90000000:=HX.I.2.1;have p0:1≤m':=by omega
   have m2:m+1+1≤90000000:=by omega
   subst ha;clear hx qw hup hcx hg hat hls hg2 hm';go_wp2_with fail;refine (xg x.aY x.prog x.bH (m+1+1) wr HX.I.1 (by omega) (by have:=HX.I.2.1; have:=HX.I.2.2.2.2.2.1; omega) HX.I.2.2.2.1).mono ?_;rintro e v ⟨rfl,hb⟩;rw [← HX.I.2.2.2.2.2.1];have HV:Hid (bg.bU v (some ⟨g,0,none⟩) (aJ cw bj k l)∧Below w.heap.size w v):=⟨HX.I.2.2.2.2.2.2.below hb,HA.I.2.trans (hb.mono HA.I.2.size)⟩
   clear hb c0 c1 c2;obtain ⟨g2,hg2,hat⟩:=HV.I.1.at HX.I.2.2.2.2.1;cases hg2;have c3:v.cell? ⟨g,j * 12+3,none⟩=some (.int .i64 (m')):=hat 3 _ rfl;have c4:v.cell? ⟨g,j * 12+4,none⟩=some (.int .i64 (m'+1)):=hat 4 _ rfl;have c5:v.cell? ⟨g,j * 12+5,none⟩=some (.int .i64 (m'+1+1)):=hat 5 _ rfl;have c6:v.cell? ⟨g,j * 12+6,none⟩=some (.int .i64 (m'+1+1+1)):=hat 6 _ rfl;have c7:v.cell? ⟨g,j * 12+7,none⟩=some (.int .i64 (m'+1+1+1+1)):=hat 7 _ rfl;have c8:v.cell? ⟨g,j * 12+8,none⟩=some (.string (cu (m'+1+1+1+1+1))):=hat 8 _ rfl;have c9:v.cell? ⟨g,j * 12+9,none⟩=some (.string (cu (m'+1+1+1+1+1+1))):=hat 9 _ rfl;have qF:v.cell? ⟨g,j * 12+10,none⟩=some (.int .i64 (m'+1+1+1+1+1+1+1)):=hat 10 _ rfl;have pe:v.cell? ⟨g,j * 12+11,none⟩=some (.int .i64 (m'+1+1+1+1+1+1+1+1)):=hat 11 _ rfl;clear hat;go_wp2_with fail;have HT:Hid (DF w (some ⟨g,0,none⟩) (aJ cw bj k l) g j m' v.drew):=⟨⟨c8,c9⟩,HV.I.1.below (Kp _ _).drew,HV.I.2.drew⟩
   clear c3 c4 c5 c6 c7 c8 c9 qF pe;refine aT (DF w (some ⟨g,0,none⟩) (aJ cw bj k l) g j m') (by kernel_rfl) HT.I ?_
   iterate 6 (refine PI ?_ (hy:=fun w0 hS0=>by obtain ⟨⟨q8,q9⟩,hH⟩:=hS0; go_simp; try with_reducible rfl))
   refine cl (.string (cu (m'+1+1+1+1+1))) 118 #[.int .i64 (m'+1+1+1+1+1)] ?_ ?_ ?_
   ·intro w0 hS0
    obtain ⟨⟨q8,q9⟩,hH⟩:=hS0
    go_simp
    try with_reducible rfl
   ·intro w0 hS0
    refine (fh (m'+1+1+1+1+1) (by omega) (by omega) w0).mono ?_;rintro e w2 ⟨rfl,hb2⟩;exact ⟨rfl,⟨(J1 (hb2.block g (Le hS0.1.1))).trans hS0.1.1,(J1 (hb2.block g (Le hS0.1.1))).trans hS0.1.2⟩,hS0.2.I.1.below hb2,hS0.2.I.2.trans (hb2.mono hS0.2.I.2.size)⟩
   simp only [pt,sb,s0,s1]
   (refine PI ?_ (hy:=fun w0 hS0=>by obtain ⟨⟨q8,q9⟩,hH⟩:=hS0; go_simp; try with_reducible rfl))
   refine bk (by kernel_rfl) ?_ _;intro w1 cm;have wm:Hid (DF w (some ⟨g,0,none⟩) (aJ cw bj k l) g j m' w1.drew):=⟨cm.1,cm.2.I.1.below (Kp _ _).drew,cm.2.I.2.drew⟩
   clear cm HT;have HT:=wm;clear wm;go_wp2_with fail;refine aT (DF w (some ⟨g,0,none⟩) (aJ cw bj k l) g j m') (by kernel_rfl) HT.I ?_
   iterate 6 (refine PI ?_ (hy:=fun w0 hS0=>by obtain ⟨⟨q8,q9⟩,hH⟩:=hS0; go_simp; try with_reducible rfl))
   refine cl (.string (cu (m'+1+1+1+1+1+1))) 118 #[.int .i64 (m'+1+1+1+1+1+1)] ?_ ?_ ?_
   ·intro w0 hS0
    obtain ⟨⟨q8,q9⟩,hH⟩:=hS0
    go_simp
    try with_reducible rfl
   ·intro w0 hS0
    refine (fh (m'+1+1+1+1+1+1) (by omega) (by omega) w0).mono ?_;rintro e w2 ⟨rfl,hb2⟩;exact ⟨rfl,⟨(J1 (hb2.block g (Le hS0.1.1))).trans hS0.1.1,(J1 (hb2.block g (Le hS0.1.1))).trans hS0.1.2⟩,hS0.2.I.1.below hb2,hS0.2.I.2.trans (hb2.mono hS0.2.I.2.size)⟩
   simp only [pt,sb,s0,s1]
   (refine PI ?_ (hy:=fun w0 hS0=>by obtain ⟨⟨q8,q9⟩,hH⟩:=hS0; go_simp; try with_reducible rfl))
   refine bk (by kernel_rfl) ?_ _;intro w1 cm;obtain ⟨g2,hg2,hat⟩:=cm.2.I.1.at HX.I.2.2.2.2.1;cases hg2;have qF:w1.cell? ⟨g,j * 12+10,none⟩=some (.int .i64 (m'+1+1+1+1+1+1+1)):=hat 10 _ rfl;have pe:w1.cell? ⟨g,j * 12+11,none⟩=some (.int .i64 (m'+1+1+1+1+1+1+1+1)):=hat 11 _ rfl;have HZ:Hid (Below w.heap.size w w1):=cm.2.I.2;clear cm hat HT;go_wp2;go_roundw
   case rel=>exact ⟨j+1,m'+9,by omega,by go_num,by go_num,by omega,by omega,⟨HX.I.2.2.1,HZ.I⟩⟩
   case measure=>simp [intOf]; omega
  ·have i1: ¬ (j:Int) < (l.length:Int):=by omega
   have HE:Hid (m=k+(aF bj l:Nat)):=by have h6:=HA.I.1; rw [List.take_of_length_le (by omega)] at h6; exact h6
   go_wp2;go_ret;exact ⟨ck HE.I,HA.I.2⟩
end
end Go.Proofs.YteidkehoekbcaaaGreat
