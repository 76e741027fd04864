/- What the proof leans on, part 33. -/
import Derived.Test.YtkbcplnlehdjfaaGreatOwnP31
set_option maxRecDepth 100000
set_option maxHeartbeats 8000000
open Array renaming getElem?_eq_some_iff->J2
open Go renaming cell_of_row->K5,frozen_of_row->Ko,heap_alloc2_new->Kq,heap_alloc_new->Kj,setRow_other->KH
open Go.Proofs.Tryz renaming prog->J3
open Go.RowKit.Below renaming refl->Kp
open Go.World renaming cell?_of_block->J1
open List renaming cons_append->Qw,getElem?_eq_some_iff->Lj,length_append->Lf,length_nil->K4,length_take->Lk,mem_append->Kg,mem_cons->Kt,mem_filterMap->Lq,not_mem_nil->Ku,take_of_length_le->KF
open List.Perm renaming refl->RA
open Nat renaming le_refl->Ki,zero_add->Li,zero_le->Ky

namespace Go.Proofs.YtkbcplnlehdjfaaGreat
section
open Go.RowKit Go.Maps
attribute [local go_sem ↓] Go.wp_at_zero Go.wp_at_succ
def fE (code:Int) (x:ao):ao:=⟨jT code x.toaD,x.aY,x.bH⟩
abbrev CB (W w:World) (base:Nat) (q:af) (v:Array Value):Prop:=av W w.heap.size q∧W.heap[w.heap.size+1]? =some (.cells ar 32 (0,0))∧W.heap[w.heap.size+1+1]? =some (.cells v 43 (0,0))∧ap W base q∧Below w.heap.size w W
theorem aI.more {w w1 w2:World} {bs:List Nat} (h:aI w w1 bs) (hb:Below w.heap.size w1 w2):aI w w2 bs:=⟨hb.os.trans h.os,hb.tape.trans h.tape,hb.output.trans h.output,Nat.le_trans h.size hb.size,fun g hg hn=>(hb.block g hg).trans (h.same g hg hn)⟩
theorem ug {W w:World} {base gs n:Nat} {q:af} {x y:ao} {vs:List Value} (h1:av W w.heap.size q) (h2:W.heap[w.heap.size+1]? =some (.cells ar 32 (0,0))) (h3:w.heap.size+1+1 < W.heap.size) (h4:ap W base q) (h5:Below w.heap.size w W)
  (hx:q.L8[n]? =some x) (ha:q.aN=some ⟨gs,0,none⟩) (hb:base≤w.heap.size) (CT:base≤gs) (hg2:gs < w.heap.size) (yD: ∀ g∈q.Mc,g < w.heap.size) (hv:vs=bg.vals y) (hy:y.prog=x.prog∧y.aY=x.aY∧y.bH=x.bH):
  W.there gs (n * 12) 12∧ap (W.setCells gs (n * 12) vs) base ({ q with L8:=q.L8.set n y } :af)∧av (W.setCells gs (n * 12) vs) w.heap.size q∧(W.setCells gs (n * 12) vs).heap[w.heap.size+1]? =some (.cells ar 32 (0,0))∧Below base w (W.setCells gs (n * 12) vs)∧(∀ g∈({ q with L8:=q.L8.set n y } :af).Mc,g≠w.heap.size+1)∧aI w (W.setCells gs (n * 12) vs) [gs] :=by
 have hn:n < q.L8.length:=(Lj.1 hx).1;have hl:vs.length=12:=by rw [hv]; exact bg.len y
 have oC:W.there gs (n * 12) 12:=by
  obtain ⟨g,hg,hrow⟩:=bl.fX (K:=bg) h4.L8 (by omega);rw [ha] at hg;cases hg;exact fun j hj=>⟨by have h7:=(hrow.cell hx (r:=j) hj).1; rw [show bg.n=12 from rfl] at h7; rw [h7,List.getElem?_eq_getElem (by rw [bg.len]; exact hj)]; rfl,(hrow.cell hx (r:=j) hj).2⟩
 have h7:=h4.kB (n:=n) (j:=0) (x:=x) (y:=y) (vs:=vs) hx ha hy (by omega) (fun r _=>by rw [Li,hv]) (fun r hr hn=>absurd ⟨Ky _,by omega⟩ hn);rw [Nat.add_zero,← iL] at h7;have hs: ∀ g,g≠gs→g < W.heap.size→(W.setCells gs (n * 12) vs).heap[g]? =W.heap[g]? :=fun g hg hl=>h7.2.1.same g hl (by simpa using hg)
 refine ⟨oC,h7.1,(hs _ (by omega) (by omega)).trans h1,(hs _ (by omega) (by omega)).trans h2,(h5.mono hb).trans (h7.2.1.below (by omega) (by simp; omega)),fun g hg e=> ?_,(aI.dI h5).trans h7.2.1⟩;have h8:=yD g (h7.2.2 ▸ hg);omega
theorem ve (q:af) (n base:Nat) (x:ao) (code:Int) (w:World) (h:ap w base q) (hb:base≤w.heap.size) (hx:q.L8[n]? =some x) (hpc:0≤x.pc∧x.pc < x.prog.length) (hl:x.prog.length≤1048576):
  Calls J3 219 #[.agg q.cells,.int .i64 n,.int .i64 code] w fun e w'=>e= .returned (.agg q.cells)∧ap w' base ({ q with L8:=q.L8.set n (fE code x) } :af)∧Below base w w'∧aI w w' (blk q.aN):=by
 obtain ⟨gs,ha,hat⟩:=cn h.at.1 hx;have hgs:=cf h.L8 (g:=gs) (by rw [ha]; simp [blk]);have hnl:n < q.L8.length:=(Lj.1 hx).1;obtain ⟨qi,qn,ps,pA,pC,ss,sA,sC,es,eA,eC,bs,bA,bC,fs,fA,fC,ts,tA,tC⟩:=q;simp only at ha;subst ha;obtain ⟨C,hC⟩: ∃ C:Array Value,C= #[.int .i64 qi,.int .i64 qn,.slice (some ⟨gs,0,none⟩) ps.length pC,.slice sA ss.length sC,.slice eA es.length eC,.slice bA bs.length bC,.slice fA fs.length fC,.slice tA ts.length tC] :=⟨_,rfl⟩
 obtain ⟨G,hG⟩: ∃ G:Array Value,G= #[.int .i64 x.id,.int .i64 x.RX,.slice x.aY x.prog.length x.bH,.int .i64 1,.int .i64 (x.pc+1),.int .i64 0,.int .i64 0,.int .i64 0,.string ⟨#[]⟩,.string x.got,.int .i64 code,.int .i64 x.RU] :=⟨_,rfl⟩
 obtain ⟨D,hD⟩: ∃ D:af,D=(⟨qi,qn,ps,some ⟨gs,0,none⟩,pC,ss,sA,sC,es,eA,eC,bs,bA,bC,fs,fA,fC,ts,tA,tC⟩:af):=⟨_,rfl⟩
 obtain ⟨A,hA⟩: ∃ A:World,A=(w.alloc (.cells C 32)).alloc (.cells ar 32):=⟨_,rfl⟩
 obtain ⟨B,hB⟩: ∃ B:World,B=A.alloc (.cells G 43):=⟨_,rfl⟩
 have b1:Below w.heap.size w A:=by rw [hA]; exact dT _ _ _
 have b2:Below w.heap.size w B:=by rw [hB,hA]; exact fg _ _ _ _
 have h3:=dR w (.cells C 32) (.cells ar 32) (.cells G 43);have H6:Hid (CB B w base D G):=by subst hB hA hG hD hC; exact ⟨h3.1,h3.2.1,h3.2.2.1,h.below b2,b2⟩
 have HC:Hid (ps[n]? =some x∧base≤gs∧gs < w.heap.size∧base≤w.heap.size∧n < ps.length):=⟨hx,hgs.1,hgs.2,hb,hnl⟩
 obtain ⟨d0,d1,d2,d3,d4,d5,d6,d7,d8,d9,tH,tS⟩:ao.At A gs n x:=by
  obtain ⟨g,e,h5⟩:=cn (h.below b1).at.1 hx;cases e;exact h5
 have PBK:Hid (∀ g∈D.Mc,g < w.heap.size):=fun g hg=>(h.lt g (hD ▸ hg)).2
 obtain ⟨n0,n1⟩:=hpc;have n2:x.pc≤1048576:=by omega
 have j0:(0:Int)≤(n:Int):=by omega
 have j1:(n:Int) < (ps.length:Int):=by have:n < ps.length:=hnl; omega
 clear h hb hx hgs hat b1 b2 h3 hnl hl;subst hB hA hG hD hC;unfold af.cells;simp only
 go_enter Tryz.func219,Tryz.ntmps219
 by_cases hlen:x.pc+1=x.prog.length
 ·have PE:Hid (fE code x=(⟨j7 (jM code x.toaD),x.aY,x.bH⟩:ao)):=by show fE code x=_; unfold fE jT; rw [if_pos hlen]
  have e1:(x.pc+1 == (x.prog.length:Int))=true:=by simp [hlen]
  clear hlen n1;have Mb:=mN (⟨jM code x.toaD,x.aY,x.bH⟩:ao);simp only [jM,rM] at Mb;go_wp2_with fail;clear d0 d1 d2 d3 d4 d5 d6 d7 d8 d9 tH tS e1;refine (Mb _).mono ?_;clear Mb;rintro e w5 ⟨rfl,iJ⟩;have H5:Hid (CB w5 w base (⟨qi,qn,ps,some ⟨gs,0,none⟩,pC,ss,sA,sC,es,eA,eC,bs,bA,bC,fs,fA,fC,ts,tA,tC⟩:af) #[.int .i64 x.id,.int .i64 x.RX,.slice x.aY x.prog.length x.bH,.int .i64 1,.int .i64 (x.pc+1),.int .i64 0,.int .i64 0,.int .i64 0,.string ⟨#[]⟩,.string x.got,.int .i64 code,.int .i64 x.RU]):=⟨H6.I.1.below iJ,(iJ.block _ (J2.1 H6.I.2.1).1).trans H6.I.2.1,(iJ.block _ (J2.1 H6.I.2.2.1).1).trans H6.I.2.2.1,H6.I.2.2.2.1.below iJ,H6.I.2.2.2.2.trans (iJ.mono H6.I.2.2.2.2.size)⟩
  have H8:Hid (CB (w5.setRow (w.heap.size+1+1) #[.int .i64 x.id,.int .i64 x.RX,.slice x.aY x.prog.length x.bH,.int .i64 0,.int .i64 0,.int .i64 0,.int .i64 0,.int .i64 0,.string ⟨#[]⟩,.string x.got,.int .i64 code,.int .i64 0]) w base (⟨qi,qn,ps,some ⟨gs,0,none⟩,pC,ss,sA,sC,es,eA,eC,bs,bA,bC,fs,fA,fC,ts,tA,tC⟩:af) #[.int .i64 x.id,.int .i64 x.RX,.slice x.aY x.prog.length x.bH,.int .i64 0,.int .i64 0,.int .i64 0,.int .i64 0,.int .i64 0,.string ⟨#[]⟩,.string x.got,.int .i64 code,.int .i64 0]):=by
   refine ⟨(KH _ _ _ _ (by omega)).trans H5.I.1,(KH _ _ _ _ (by omega)).trans H5.I.2.1,setRow_heap _ _ _ _ _ _ H5.I.2.2.1,H5.I.2.2.2.1.same fun g hg=>KH _ _ _ _ (by have:=PBK.I g hg; omega),below_setRow H5.I.2.2.2.2 (by omega) _⟩
  clear iJ H6;obtain ⟨m0,m1,m2,m3,m4,m5,m6,m7⟩:=H8.I.1.cells;obtain ⟨r0,r1,r2,r3,r4,r5,r6,r7,r8,r9,Ju,Jq⟩:=bo (x:=(⟨j7 (jM code x.toaD),x.aY,x.bH⟩:ao)) H8.I.2.2.1;have hz:=ug (y:=(⟨j7 (jM code x.toaD),x.aY,x.bH⟩:ao)) (vs:=(#[.int .i64 x.id,.int .i64 x.RX,.slice x.aY x.prog.length x.bH,.int .i64 0,.int .i64 0,.int .i64 0,.int .i64 0,.int .i64 0,.string ⟨#[]⟩,.string x.got,.int .i64 code,.int .i64 0] :Array Value).toList) H8.I.1 H8.I.2.1 (J2.1 H8.I.2.2.1).1 H8.I.2.2.2.1 H8.I.2.2.2.2 HC.I.1 rfl HC.I.2.2.2.1 HC.I.2.1 HC.I.2.2.1 PBK.I rfl ⟨rfl,rfl,rfl⟩;have oC:=hz.1;have HZ:Hid (_):=hz.2;clear hz;simp only [j7,jM] at r0 r1 r2 r3 r4 r5 r6 r7 r8 r9 Ju Jq
  dsimp only
  repeat (first | (go_big_may; first | (refine wpList_store_row rfl 43 (Operand.tmp 7) (Operand.tmp 31) rfl (w.heap.size+1+1) _ _ #[.int .i64 x.id,.int .i64 x.RX,.slice x.aY x.prog.length x.bH,.int .i64 0,.int .i64 0,.int .i64 0,.int .i64 0,.int .i64 0,.string ⟨#[]⟩,.string x.got,.int .i64 code,.int .i64 0] rfl rfl H5.I.2.2.1 (by kernel_rfl) rfl (by kernel_rfl) ?_) | (refine wpList_store_mid rfl 43 (Operand.tmp 36) (Operand.tmp 35) rfl gs (n * 12) #[.int .i64 x.id,.int .i64 x.RX,.slice x.aY x.prog.length x.bH,.int .i64 0,.int .i64 0,.int .i64 0,.int .i64 0,.int .i64 0,.string ⟨#[]⟩,.string x.got,.int .i64 code,.int .i64 0] rfl rfl ?ht (by kernel_rfl) (by kernel_rfl) ?_)) | go_values | go_skip | go_guarded | go_step | go_upon)
  case ht=>exact oC
  clear oC m0 m1 m2 m3 m4 m5 m6 m7 r0 r1 r2 r3 r4 r5 r6 r7 r8 r9 Ju Jq;generalize World.setCells (w5.setRow (w.heap.size+1+1) #[.int .i64 x.id,.int .i64 x.RX,.slice x.aY x.prog.length x.bH,.int .i64 0,.int .i64 0,.int .i64 0,.int .i64 0,.int .i64 0,.string ⟨#[]⟩,.string x.got,.int .i64 code,.int .i64 0]) gs (n * 12) (#[.int .i64 x.id,.int .i64 x.RX,.slice x.aY x.prog.length x.bH,.int .i64 0,.int .i64 0,.int .i64 0,.int .i64 0,.int .i64 0,.string ⟨#[]⟩,.string x.got,.int .i64 code,.int .i64 0] :Array Value).toList=WZ at *;obtain ⟨k0,k1,k2,k3,k4,k5,k6,k7⟩:=HZ.I.2.1.cells;go_wp2_with (refine ec 6 37 #[.int .i64 qi,.int .i64 qn,.slice (some ⟨gs,0,none⟩) ps.length pC,.slice sA ss.length sC,.slice eA es.length eC,.slice bA bs.length bC,.slice fA fs.length fC,.slice tA ts.length tC] HZ.I.2.2.1 ?_);refine gZ Tryz.results219 HZ.I.2.2.1 ?_;rw [PE.I];exact ⟨rfl,HZ.I.1.same fun g hg=>KH _ _ _ _ (HZ.I.2.2.2.2.1 g hg),below_setRow HZ.I.2.2.2.1 (by have:=HC.I.2.2.2.1; omega) _,HZ.I.2.2.2.2.2.more (below_setRow (Kp _ _) (by omega) _)⟩
 ·have PE:Hid (fE code x=(⟨jM code x.toaD,x.aY,x.bH⟩:ao)):=by show fE code x=_; unfold fE jT; rw [if_neg hlen]
  have e1:(x.pc+1 == (x.prog.length:Int))=false:=by simp [hlen]
  clear hlen n1;obtain ⟨m0,m1,m2,m3,m4,m5,m6,m7⟩:=H6.I.1.cells;obtain ⟨r0,r1,r2,r3,r4,r5,r6,r7,r8,r9,Ju,Jq⟩:=bo (x:=(⟨jM code x.toaD,x.aY,x.bH⟩:ao)) H6.I.2.2.1;have hz:=ug (y:=(⟨jM code x.toaD,x.aY,x.bH⟩:ao)) (vs:=(#[.int .i64 x.id,.int .i64 x.RX,.slice x.aY x.prog.length x.bH,.int .i64 1,.int .i64 (x.pc+1),.int .i64 0,.int .i64 0,.int .i64 0,.string ⟨#[]⟩,.string x.got,.int .i64 code,.int .i64 x.RU] :Array Value).toList) H6.I.1 H6.I.2.1 (J2.1 H6.I.2.2.1).1 H6.I.2.2.2.1 H6.I.2.2.2.2 HC.I.1 rfl HC.I.2.2.2.1 HC.I.2.1 HC.I.2.2.1 PBK.I rfl ⟨rfl,rfl,rfl⟩;have oC:=hz.1;have HZ:Hid (_):=hz.2;clear hz;simp only [jM] at r0 r1 r2 r3 r4 r5 r6 r7 r8 r9 Ju Jq
  repeat (first | (go_big_may; first | (refine wpList_store_mid rfl 43 (Operand.tmp 36) (Operand.tmp 35) rfl gs (n * 12) #[.int .i64 x.id,.int .i64 x.RX,.slice x.aY x.prog.length x.bH,.int .i64 1,.int .i64 (x.pc+1),.int .i64 0,.int .i64 0,.int .i64 0,.string ⟨#[]⟩,.string x.got,.int .i64 code,.int .i64 x.RU] rfl rfl ?ht (by kernel_rfl) (by kernel_rfl) ?_)) | go_values | go_skip | go_guarded | go_step | go_upon)
  case ht=>exact oC
  clear oC m0 m1 m2 m3 m4 m5 m6 m7 r0 r1 r2 r3 r4 r5 r6 r7 r8 r9 Ju Jq;generalize World.setCells _ gs (n * 12) (#[.int .i64 x.id,.int .i64 x.RX,.slice x.aY x.prog.length x.bH,.int .i64 1,.int .i64 (x.pc+1),.int .i64 0,.int .i64 0,.int .i64 0,.string ⟨#[]⟩,.string x.got,.int .i64 code,.int .i64 x.RU] :Array Value).toList=WZ at *;obtain ⟨k0,k1,k2,k3,k4,k5,k6,k7⟩:=HZ.I.2.1.cells;go_wp2_with (refine ec 6 37 #[.int .i64 qi,.int .i64 qn,.slice (some ⟨gs,0,none⟩) ps.length pC,.slice sA ss.length sC,.slice eA es.length eC,.slice bA bs.length bC,.slice fA fs.length fC,.slice tA ts.length tC] HZ.I.2.2.1 ?_);refine gZ Tryz.results219 HZ.I.2.2.1 ?_;rw [PE.I];exact ⟨rfl,HZ.I.1.same fun g hg=>KH _ _ _ _ (HZ.I.2.2.2.2.1 g hg),below_setRow HZ.I.2.2.2.1 (by have:=HC.I.2.2.2.1; omega) _,HZ.I.2.2.2.2.2.more (below_setRow (Kp _ _) (by omega) _)⟩
theorem Bt {W w:World} {base gs n:Nat} {q:af} {x:ao} {nx:Int} (h1:av W w.heap.size q) (h2:W.heap[w.heap.size+1]? =some (.cells ar 32 (0,0))) (h4:ap W base q) (h5:Below w.heap.size w W)
  (hx:q.L8[n]? =some x) (ha:q.aN=some ⟨gs,0,none⟩) (hb:base≤w.heap.size) (CT:base≤gs) (hg2:gs < w.heap.size) (yD: ∀ g∈q.Mc,g < w.heap.size):
  ((∃ u,W.cell? ⟨gs,n * 12+11,none⟩=some u)∧W.frozen? ⟨gs,n * 12+11,none⟩=false)∧ap (W.setCell ⟨gs,n * 12+11,none⟩ (.int .i64 nx)) base ({ q with L8:=q.L8.set n { x with RU:=nx } } :af)∧av (W.setCell ⟨gs,n * 12+11,none⟩ (.int .i64 nx)) w.heap.size q∧(W.setCell ⟨gs,n * 12+11,none⟩ (.int .i64 nx)).heap[w.heap.size+1]? =some (.cells ar 32 (0,0))∧Below base w (W.setCell ⟨gs,n * 12+11,none⟩ (.int .i64 nx))∧(∀ g∈({ q with L8:=q.L8.set n { x with RU:=nx } } :af).Mc,g < w.heap.size)∧aI w (W.setCell ⟨gs,n * 12+11,none⟩ (.int .i64 nx)) [gs] :=by
 have hn:n < q.L8.length:=(Lj.1 hx).1;have hc:(∃ u,W.cell? ⟨gs,n * 12+11,none⟩=some u)∧W.frozen? ⟨gs,n * 12+11,none⟩=false:=by
  obtain ⟨g,hg,hrow⟩:=bl.fX (K:=bg) h4.L8 (by omega);rw [ha] at hg;cases hg;exact ⟨⟨_,(hrow.cell hx (r:=11) (by decide)).1⟩,(hrow.cell hx (r:=11) (by decide)).2⟩
 have h7:=h4.kB (n:=n) (j:=11) (x:=x) (y:= { x with RU:=nx }) (vs:= [.int .i64 nx]) hx ha ⟨rfl,rfl,rfl⟩ (by show 11+1≤12; omega) (fun r hr=>by match r,hr with | 0,_=>rfl) (fun r hr hn=>by
  have hne:r≠11:=fun e=>hn ⟨by omega,by show r < 11+1; omega⟩
  match r,hr,hne with | 0,_,_=>rfl | 1,_,_=>rfl | 2,_,_=>rfl | 3,_,_=>rfl | 4,_,_=>rfl | 5,_,_=>rfl | 6,_,_=>rfl | 7,_,_=>rfl | 8,_,_=>rfl | 9,_,_=>rfl | 10,_,_=>rfl | 11,_,hne=>exact absurd rfl hne)
 simp only [bn] at h7;have l1:=(J2.1 h2).1;have hs: ∀ g,g≠gs→(W.setCell ⟨gs,n * 12+11,none⟩ (.int .i64 nx)).heap[g]? =W.heap[g]? :=fun g hg=>aH hg
 exact ⟨hc,h7.1,(hs _ (by omega)).trans h1,(hs _ (by omega)).trans h2,(h5.mono hb).trans (h7.2.1.below (by have:=h5.size; omega) (by simp; omega)),fun g hg=>yD g (h7.2.2 ▸ hg),(aI.dI h5).trans h7.2.1⟩
theorem qG (q:af) (n base:Nat) (x:ao) (w:World) (h:ap w base q) (hb:base≤w.heap.size) (hx:q.L8[n]? =some x) (hn:0≤q.next∧q.next≤1000000000):
  Calls J3 98 #[.agg q.cells,.int .i64 n] w fun e w'=> ∃ q2:af,e= .returned (.agg q2.cells)∧q2= { q with next:=q.next+1,L8:=q.L8.set n { x with RU:=q.next } } ∧ap w' base q2∧Below base w w'∧aI w w' (blk q.aN):=by
 obtain ⟨gs,ha,-⟩:=cn h.at.1 hx;have hgs:=cf h.L8 (g:=gs) (by rw [ha]; simp [blk]);have hnl:n < q.L8.length:=(Lj.1 hx).1;have b1:Below w.heap.size w ((w.alloc (.cells q.cells 32)).alloc (.cells ar 32)):=dT _ _ _;have h2:=cZ w (.cells q.cells 32) (.cells ar 32);have hz:=Bt (nx:=q.next) h2.1 h2.2 (h.below b1) b1 hx ha hb hgs.1 hgs.2 fun g hg=>(h.lt g hg).2
 obtain ⟨⟨⟨u,pe⟩,f11⟩,hz⟩:=hz;have H2:Hid (_):=hz;have HB:Hid (av ((w.alloc (.cells q.cells 32)).alloc (.cells ar 32)) w.heap.size q∧base≤w.heap.size∧q.aN=some ⟨gs,0,none⟩):=⟨h2.1,hb,ha⟩
 have H3:Hid ((((w.alloc (.cells q.cells 32)).alloc (.cells ar 32)).setCell ⟨gs,n * 12+11,none⟩ (.int .i64 q.next)).setCell ⟨w.heap.size,1,none⟩ (.int .i64 (q.next+1)) |> fun W=>av W w.heap.size { q with next:=q.next+1 } ∧W.heap[w.heap.size+1]? =some (.cells ar 32 (0,0))∧ap W base { q with next:=q.next+1,L8:=q.L8.set n { x with RU:=q.next } } ∧Below base w W∧(∀ g∈({ q with L8:=q.L8.set n { x with RU:=q.next } } :af).Mc,g < w.heap.size)∧aI w W [gs]):=by
  have ho:=hz.1.same (w':=(((w.alloc (.cells q.cells 32)).alloc (.cells ar 32)).setCell ⟨gs,n * 12+11,none⟩ (.int .i64 q.next)).setCell ⟨w.heap.size,1,none⟩ (.int .i64 (q.next+1))) fun g hg=>aH (by have:=hz.2.2.2.2.1 g hg; omega)
  exact ⟨cx (i:=1) (v:= .int .i64 (q.next+1)) hz.2.1,(aH (by omega)).trans hz.2.2.1,⟨ho.L8,ho.aj,ho.L9,ho.ag,ho.ae,ho.ai,ho.eI,ho.eE,ho.eR,ho.nodup⟩,bP hz.2.2.2.1 hb,hz.2.2.2.2.1,hz.2.2.2.2.2.more (bP (Kp _ _) (Ki _))⟩
 have k1f:(((w.alloc (.cells q.cells 32)).alloc (.cells ar 32)).setCell ⟨gs,n * 12+11,none⟩ (.int .i64 q.next)).frozen? ⟨w.heap.size,1,none⟩=false:=Ko _ _ _ _ _ hz.2.1;have k1:=hz.2.1.cells.2.1;obtain ⟨-,m1,m2,-⟩:=h2.1 |> av.cells (p:=q)
 obtain ⟨r0,r1,r2,r3,r4,r5,r6,r7⟩:=H3.I.1.cells;have j0:(0:Int)≤(n:Int):=by omega
 have j1:(n:Int) < (q.L8.length:Int):=by omega
 obtain ⟨n0,n1⟩:=hn;clear h hb hx b1 h2 hz hgs hnl;rw [ha] at m2;unfold af.cells at *;simp only [HB.I.2.2] at *
 go_enter Tryz.func98,Tryz.ntmps98
 go_wp2_with (refine ec 4 16 #[.int .i64 q.id,.int .i64 (q.next+1),.slice (some ⟨gs,0,none⟩) q.L8.length q.aW,.slice q.bc q.aj.length q.bF,.slice q.ay q.L9.length q.aO,.slice q.ax q.ag.length q.aP,.slice q.am q.ae.length q.aG,.slice q.aK q.ai.length q.aV] H3.I.2.1 ?_);refine gZ Tryz.results98 H3.I.2.1 ?_;have hb:=HB.I.2.1;refine ⟨_,?_,rfl,H3.I.2.2.1.same fun g hg=>KH _ _ _ _ (by have:=H3.I.2.2.2.2.1 g hg; omega),below_setRow H3.I.2.2.2.1 (by omega) _,?_⟩
 ·simp only [List.length_set]
 ·exact H3.I.2.2.2.2.2.more (below_setRow (Kp _ _) (by omega) _)
theorem rz (p:af) (id:Int) (w:World) (b0:Nat) (hwf:(Lit.int .i64 id).wf=true) (qY:p.pure.Small) (h:ap w b0 p):
  Calls J3 38 #[.agg p.cells,.int .i64 id] w fun e w'=>gI w (cB p.pure { p.pure with L9:=cA (·.id) (⟨id,false⟩:aB) p.pure.L9 }) e w':=by
 have HB:Hid (av ((w.alloc (.cells p.row 32)).alloc (.cells ar 32)) w.heap.size p∧ap ((w.alloc (.cells p.row 32)).alloc (.cells ar 32)) b0 p∧Below w.heap.size w ((w.alloc (.cells p.row 32)).alloc (.cells ar 32))∧((w.alloc (.cells p.row 32)).alloc (.cells ar 32)).heap[w.heap.size+1]? =some (.cells ar 32 (0,0))):=by
  have b1:Below w.heap.size w ((w.alloc (.cells p.row 32)).alloc (.cells ar 32)):=((Kp _ _).alloc (Ki _) _).alloc (by simp) _;exact ⟨(PU (by simp)).trans (Kj _ _),h.below b1,b1,Kq _ _ _⟩
 have fl:Hid (p.Fit∧(∀ x∈p.L8,x.dX)∧p.pure.Small∧(Lit.int .i64 id).wf=true):=⟨dV qY,fun x hx=>(cY qY hx).1,qY,hwf⟩
 have hpl:=fl.I.1.short.L9;have hcap:p.L9.length≤p.aO:=nV h.L9;have pd: ∀ g∈p.Mc,g < w.heap.size:=fun g hg=>(h.lt g hg).2
 clear h qY hwf;obtain ⟨m0,m1,m2,m3,m4,m5,m6,m7⟩:=HB.I.1.cells;unfold af.cells
 go_enter Tryz.func38,Tryz.ntmps38
 go_wp2_with fail;generalize (w.alloc (.cells p.row 32)).alloc (.cells ar 32)=W at *;clear m0 m1 m2 m3 m4 m5 m6 m7;refine (fR p W fl.I.1 fl.I.2.1 HB.I.2.1.at).mono ?_;rintro e W1 ⟨q,rfl,hown,gn,hb1⟩;have hb2:Below W1.heap.size W1 (W1.alloc (.cells q.row 32)):=(Kp _ _).alloc (Ki _) _;have hlt:w.heap.size+1 < W.heap.size:=(J2.1 HB.I.2.2.2).1;have hb3:Below W.heap.size W (W1.alloc (.cells q.row 32)):=hb1.trans (hb2.mono hb1.size);have hq1: ∀ g∈q.Mc,g < W1.heap.size:=fun g hg=>(hown.lt g hg).2
 have HQ:Hid (av (W1.alloc (.cells q.row 32)) W1.heap.size q∧ap (W1.alloc (.cells q.row 32)) W.heap.size q∧q.pure=p.pure∧(∀ g∈q.Mc,g < W1.heap.size)∧W.heap.size≤W1.heap.size∧w.heap.size+1 < W.heap.size∧W1.heap.size < (W1.alloc (.cells q.row 32)).heap.size):=⟨Kj _ _,hown.below hb2,gn,hq1,hb1.size,hlt,by simp⟩
 replace HB:Hid (av (W1.alloc (.cells q.row 32)) w.heap.size p∧ap (W1.alloc (.cells q.row 32)) b0 p∧Below w.heap.size w (W1.alloc (.cells q.row 32))∧(W1.alloc (.cells q.row 32)).heap[w.heap.size+1]? =some (.cells ar 32 (0,0))):=⟨HB.I.1.below hb3,HB.I.2.1.below hb3,HB.I.2.2.1.trans (hb3.mono HB.I.2.2.1.size),(hb3.block _ hlt).trans HB.I.2.2.2⟩
 have Au:Hid (∀ g∈p.Mc,g < w.heap.size):=fun g hg=>pd g hg
 clear hown gn hb1 hb2 hb3 hq1 hlt pd;obtain ⟨m0,m1,m2,m3,m4,m5,m6,m7⟩:=HB.I.1.cells;unfold af.cells;go_wp2_with fail;generalize W1.alloc (.cells q.row 32)=W2 at *;clear m0 m1 m2 m3 m5 m6 m7;generalize W1.heap.size=o at *
 go_loop [7] (fun i=> ∃ k:Nat,k≤p.L9.length∧i= .int .i64 k∧Hid (∀ y∈p.L9.take k,y.id < id)) (fun i=>p.L9.length - (Go.RowKit.intOf i).toNat)
 case atStart=>exact ⟨0,Ky _,rfl,fun y hy=>by simp at hy⟩
 case round=>
  obtain ⟨k,hk,rfl,HA⟩:=hrel;have i0:(0:Int)≤(k:Int):=by omega
  have icap:(k:Int)≤(p.aO:Int):=by omega
  have i2:(k:Int)≤(p.L9.length:Int):=by omega
  rcases zm (fun y:aB=>y.id) id p.L9 k with ⟨x,hx,hc,hlt⟩ | ⟨x,hx,hc,hlt⟩ | hlt
  ·have HT:Hid (∀ y∈p.L9.take (k+1),y.id < id):=nE hx HA.I hc
   have i1:(k:Int) < (p.L9.length:Int):=by omega
   obtain ⟨g,ha,hat⟩:=j4 HB.I.2.1.at.2.2.1 hx;have c0:=hat.1;have m:=m4;rw [ha] at m;clear m4 hat hx;go_wp2
   go_round
   case rel=>exact ⟨k+1,by omega,by go_num,HT.I⟩
   case measure=>simp [Go.RowKit.intOf]; omega
  focus
   have HX:Hid (∀ y,p.L9[k]? =some y→ ¬ y.id < id):=fun y hy e=>by rw [hx] at hy; cases hy; exact hc e
   have i1:(k:Int) < (p.L9.length:Int):=by omega
   obtain ⟨g,ha,hat⟩:=j4 HB.I.2.1.at.2.2.1 hx;have c0:=hat.1;have m:=m4;rw [ha] at m;clear m4 hat hx ha
  rotate_left
  focus
   have HX:Hid (∀ y,p.L9[k]? =some y→ ¬ y.id < id):=fun y hy=>absurd (Lj.1 hy).1 hlt
   have i1: ¬ (k:Int) < (p.L9.length:Int):=by omega
   have m:=m4;clear m4
  all_goals
   have hkl:(p.L9.take k).length=k:=by rw [Lk]; omega
   have hb3:Below W2.heap.size W2 (W2.alloc (.cells #[] 138)):=(Kp _ _).alloc (Ki _) _;obtain ⟨a5,c5,w5,hap,oe,A7,-⟩:=qu (W2.alloc (.cells #[] 138)) W2.heap.size (some ⟨W2.heap.size,0,none⟩) 0 [] (i6 (Kj _ _) (Ki _)) p.ay (p.L9.take k) p.aO (uM k (HB.I.2.1.below hb3).at.2.2.1.1) (by rw [hkl]; show 0+k≤_; omega) hb3.size;rw [hkl] at hap oe;simp only [K4,Li,List.nil_append] at hap oe;have iJ:Below W2.heap.size W2 w5:=hb3.grown A7 hb3.size fun c e=>by cases e; exact Ki _
   have jQ:Below w5.heap.size w5 (w5.alloc (.cells #[.int .i64 id,.bool false] 138)):=(Kp _ _).alloc (Ki _) _;have yJ:Below W2.heap.size W2 (w5.alloc (.cells #[.int .i64 id,.bool false] 138)):=iJ.trans (jQ.mono iJ.size);have qH:(w5.alloc (.cells #[.int .i64 id,.bool false] 138)).ownsRow W2.heap.size 138 2 (.slice a5 (p.L9.take k).length c5) (p.L9.take k).length (bJ.flat (p.L9.take k)):=by rw [hkl]; exact cR oe jQ
   obtain ⟨a7,c7,w7,gT,mP,xI,-⟩:=qu (w5.alloc (.cells #[.int .i64 id,.bool false] 138)) W2.heap.size a5 c5 (p.L9.take k) qH (some ⟨w5.heap.size,0,none⟩) [(⟨id,false⟩:aB)] 1 (jO (Kj _ _)) (by rw [hkl]; show k+1≤_; omega) yJ.size;have mI:(p.L9.take k ++ [(⟨id,false⟩:aB)]).length=k+1:=by rw [Lf,hkl]; rfl
   rw [hkl] at gT mP;simp only [List.length_cons,K4,Li] at gT mP;have gh:Below W2.heap.size W2 w7:=yJ.grown xI yJ.size fun c e=>(cf oe (di e)).1
   have Em:Hid (w7.ownsRow W2.heap.size 138 2 (.slice a7 (k+1) c7) (k+1) (bJ.flat (p.L9.take k ++ [(⟨id,false⟩:aB)]))∧Below W2.heap.size W2 w7∧(p.L9.take k ++ [(⟨id,false⟩:aB)]).length=k+1):=⟨mP,gh,mI⟩
   have m2:(W2.alloc (.cells #[] 138)).cell? ⟨w.heap.size,4,none⟩=some (.slice p.ay p.L9.length p.aO):=(HB.I.1.below hb3).cells.2.2.2.2.1;have hbo:W2.heap.size≤w7.heap.size:=gh.size;obtain ⟨⟨u,co⟩,fo⟩:(∃ u,w7.cell? ⟨o,4,none⟩=some u)∧w7.frozen? ⟨o,4,none⟩=false:=⟨⟨_,(HQ.I.1.below gh).cells.2.2.2.2.1⟩,Ko _ _ _ _ _ (HQ.I.1.below gh)⟩
   clear oe A7 iJ jQ yJ qH mP xI gh hb3 mI;go_wp2_with (at_builtin; first | (refine br _ rfl _ _ 27 rfl _ _ _ _ rfl rfl hap ?_; clear hap) | (refine br _ rfl _ _ 27 rfl _ _ _ _ rfl rfl gT ?_; clear gT));have H8:Hid (((av (w7.setCell ⟨o,4,none⟩ (.slice a7 (k+1) c7)) w.heap.size p∧ap (w7.setCell ⟨o,4,none⟩ (.slice a7 (k+1) c7)) b0 p∧Below w.heap.size w (w7.setCell ⟨o,4,none⟩ (.slice a7 (k+1) c7))∧(w7.setCell ⟨o,4,none⟩ (.slice a7 (k+1) c7)).heap[w.heap.size+1]? =some (.cells ar 32 (0,0)))∧(w7.setCell ⟨o,4,none⟩ (.slice a7 (k+1) c7)).heap[o]? =some (.cells #[.int .i64 q.id,.int .i64 q.next,.slice q.aN q.L8.length q.aW,.slice q.bc q.aj.length q.bF,.slice a7 (k+1) c7,.slice q.ax q.ag.length q.aP,.slice q.am q.ae.length q.aG,.slice q.aK q.ai.length q.aV] 32 (0,0))∧ap (w7.setCell ⟨o,4,none⟩ (.slice a7 (k+1) c7)) W.heap.size q)∧(w7.setCell ⟨o,4,none⟩ (.slice a7 (k+1) c7)).ownsRow W2.heap.size 138 2 (.slice a7 (k+1) c7) (k+1) (bJ.flat (p.L9.take k ++ [(⟨id,false⟩:aB)]))∧W2.heap.size≤(w7.setCell ⟨o,4,none⟩ (.slice a7 (k+1) c7)).heap.size):=by
    have gh:=Em.I.2.1;have hq:=HQ.I;have lY:Below w.heap.size w w7:=HB.I.2.2.1.trans (gh.mono (by have:=HB.I.2.2.1.size; omega));refine ⟨⟨⟨(aH (by omega)).trans (HB.I.1.below gh),(HB.I.2.1.below gh).same fun g hg=>aH (fun e=> ?_),bP lY (by omega),(aH (by omega)).trans ((gh.block _ (by omega)).trans HB.I.2.2.2)⟩,cx (HQ.I.1.below gh),(HQ.I.2.1.below gh).same fun g hg=>aH (by have:=HQ.I.2.2.2.1 g hg; omega)⟩,aL Em.I.1 fun g hg=>aH (by have:=(cf Em.I.1 hg).1; omega),?_⟩
    ·have:=Au.I g hg; omega
    ·rw [ja]; exact gh.size
   generalize w7.setCell ⟨o,4,none⟩ (.slice a7 (k+1) c7)=W8 at *;have HS:Hid (W8.cell? ⟨w.heap.size,4,none⟩=some (.slice p.ay p.L9.length p.aO)):=H8.I.1.1.1.cells.2.2.2.2.1;have co8:W8.drew.cell? ⟨o,4,none⟩=some (.slice a7 (k+1) c7):=by rw [K5 _ _ _ _ _ _ (show W8.drew.heap[o]? =_ from H8.I.1.2.1)]; rfl
   clear m m2 co fo hbo i1 hlt;obtain ⟨aS,Jx⟩: ∃ aS,(if p.aO=k then p.ay else Option.map (fun x=>x.add (k * 2)) p.ay)=aS:=⟨_,rfl⟩
   refine wp_region_held_drew (S:=fun w'=>w'.cell? ⟨w.heap.size,4,none⟩=some (.slice p.ay p.L9.length p.aO)) (by kernel_rfl) HS.I (fun hHeld=> ?_);refine tt 0 hHeld ?_ (hy:=fun w0 hS0=>by have cm:=hS0; go_simp; try with_reducible rfl);refine tt 2 hHeld ?_ (hy:=fun w0 hS0=>by have cm:=hS0; go_simp; try with_reducible rfl);refine tt 3 hHeld ?_ (hy:=fun w0 hS0=>by have cm:=hS0; go_simp; try with_reducible rfl);refine tt 4 hHeld ?_ (hy:=fun w0 hS0=>by have cm:=hS0; go_simp; try with_reducible rfl);refine tt 5 hHeld ?_ (hy:=fun w0 hS0=>by have cm:=hS0; go_simp; try with_reducible rfl);refine L7 1 (fun K hK=> ?_);go_wp2_with fail;refine hK.out _ _ HS.I (fun hHeld=> ?_);clear hK K
   try simp only [pt,sb,s0,s1]
   have hbd:Below W8.heap.size W8 W8.drew:=(Kp _ _).drew;have mI:=Em.I.2.2;have hkd:(p.L9.drop k).length=p.L9.length - k:=List.length_drop;obtain ⟨a9,c9,w9,hr,xj,FW,-⟩:=qu W8.drew W2.heap.size a7 c7 (p.L9.take k ++ [(⟨id,false⟩:aB)]) (by rw [mI]; exact cR H8.I.2.1 hbd) aS (p.L9.drop k) (p.aO - k) (by rw [← Jx]; exact qK hcap (H8.I.1.1.2.1.below hbd).at.2.2.1.1) (by rw [mI,hkd]; omega) H8.I.2.2;rw [mI,hkd] at hr xj;have kN:Below W2.heap.size W8.drew w9:=(Kp _ _).grown (a:=W8.drew) FW H8.I.2.2 fun c e=>(cf H8.I.2.1 (di e)).1
   have hq:=HQ.I;have h8:=H8.I;have p7:o < W2.heap.size:=hq.2.2.2.2.2.2;have hwl:w.heap.size+1 < o:=by omega
   have lV:w9.heap[o]? =some (.cells #[.int .i64 q.id,.int .i64 q.next,.slice q.aN q.L8.length q.aW,.slice q.bc q.aj.length q.bF,.slice a7 (k+1) c7,.slice q.ax q.ag.length q.aP,.slice q.am q.ae.length q.aG,.slice q.aK q.ai.length q.aV] 32 (0,0)):=(kN.block _ p7).trans h8.1.2.1;have H9:Hid (w9.cell? ⟨w.heap.size,4,none⟩=some (.slice p.ay p.L9.length p.aO)∧(w9.setCell ⟨o,4,none⟩ (.slice a9 (k+1+(p.L9.length - k)) c9)).cell? ⟨w.heap.size,4,none⟩=some (.slice p.ay p.L9.length p.aO)):=by
    have e1:w9.cell? ⟨w.heap.size,4,none⟩=some (.slice p.ay p.L9.length p.aO):=(J1 (kN.block _ (by show w.heap.size < _; omega))).trans HS.I;exact ⟨e1,(J1 (aH (by show w.heap.size≠o; omega))).trans e1⟩
   have sR:((p.L9.take k ++ [(⟨id,false⟩:aB)]) ++ p.L9.drop k).length=k+1+(p.L9.length - k):=by rw [Lf,mI,hkd]
   have gn:({ q with L9:=(p.L9.take k ++ [(⟨id,false⟩:aB)]) ++ p.L9.drop k,ay:=a9,aO:=c9 } :af).pure= { p.pure with L9:=cA (·.id) (⟨id,false⟩:aB) p.pure.L9 } :=by
    have e1:(p.L9.take k ++ [(⟨id,false⟩:aB)]) ++ p.L9.drop k=cA (·.id) (⟨id,false⟩:aB) p.pure.L9:=by
     rw [List.append_assoc];exact tP HA.I (fun y hy=>by have h5:=HX.I y hy; show ¬ y.id < id; omega)
    have e2:=HQ.I.2.2.1
    show ({ q.pure with L9:=(p.L9.take k ++ [(⟨id,false⟩:aB)]) ++ p.L9.drop k } :aE)=_
    rw [e1,e2]
   have eX:Hid (av (w9.setCell ⟨o,4,none⟩ (.slice a9 (k+1+(p.L9.length - k)) c9)) w.heap.size p∧ap (w9.setCell ⟨o,4,none⟩ (.slice a9 (k+1+(p.L9.length - k)) c9)) b0 p∧Below w.heap.size w (w9.setCell ⟨o,4,none⟩ (.slice a9 (k+1+(p.L9.length - k)) c9))∧(w9.setCell ⟨o,4,none⟩ (.slice a9 (k+1+(p.L9.length - k)) c9)).heap[w.heap.size+1]? =some (.cells ar 32 (0,0))∧av (w9.setCell ⟨o,4,none⟩ (.slice a9 (k+1+(p.L9.length - k)) c9)) o ({ q with L9:=(p.L9.take k ++ [(⟨id,false⟩:aB)]) ++ p.L9.drop k,ay:=a9,aO:=c9 } :af)∧ap (w9.setCell ⟨o,4,none⟩ (.slice a9 (k+1+(p.L9.length - k)) c9)) W.heap.size ({ q with L9:=(p.L9.take k ++ [(⟨id,false⟩:aB)]) ++ p.L9.drop k,ay:=a9,aO:=c9 } :af)∧({ q with L9:=(p.L9.take k ++ [(⟨id,false⟩:aB)]) ++ p.L9.drop k,ay:=a9,aO:=c9 } :af).pure= { p.pure with L9:=cA (·.id) (⟨id,false⟩:aB) p.pure.L9 }):=by
    have hpb: ∀ g∈p.Mc,g < w.heap.size:=Au.I;have nW: ∀ g∈q.Mc,g < o:=hq.2.2.2.1;have sm: ∀ g,g < W2.heap.size→g≠o→(w9.setCell ⟨o,4,none⟩ (.slice a9 (k+1+(p.L9.length - k)) c9)).heap[g]? =W8.heap[g]? :=fun g hg hne=>(aH hne).trans (kN.block _ hg)
    have lY:Below w.heap.size w (w9.setCell ⟨o,4,none⟩ (.slice a9 (k+1+(p.L9.length - k)) c9)):=bP (h8.1.1.2.2.1.drew.trans (kN.mono (by omega))) (by omega);refine ⟨(sm _ (by omega) (by omega)).trans h8.1.1.1,h8.1.1.2.1.same fun g hg=>sm g (by have:=hpb g hg; omega) (by have:=hpb g hg; omega),lY,(sm _ (by omega) (by omega)).trans h8.1.1.2.2.2,?_,?_,gn⟩
    ·have h5:=cx (i:=4) (v:= .slice a9 (k+1+(p.L9.length - k)) c9) lV
     unfold av;simp only [sR];exact h5
    ·refine h8.1.2.2.Ge (B:=W2.heap.size) (by omega) (fun g hg=>by have:=nW g hg; omega) (fun g hg=>sm g (by have:=nW g hg; omega) (by have:=nW g hg; omega)) ?_
     rw [sR];exact aL xj fun g hg=>aH (by have:=(cf xj hg).1; omega)
   refine L7 6 (fun K hK=> ?_);refine cM _ _ _ rfl _ _ _ w9 rfl rfl hr ?_;refine hK.out _ _ H9.I.1 (fun hHeld=> ?_);clear hK K
   try simp only [pt,sb,s0,s1]
   obtain ⟨⟨u,co⟩,fo⟩:(∃ u,w9.cell? ⟨o,4,none⟩=some u)∧w9.frozen? ⟨o,4,none⟩=false:=⟨⟨_,by rw [K5 _ _ _ _ _ _ lV]; rfl⟩,Ko _ _ _ _ _ lV⟩
   clear hr xj FW kN hq h8 p7 hwl lV hbd;refine tt 7 hHeld ?_ (hy:=fun w0 hS0=>by have cm:=hS0; go_simp; try with_reducible rfl);refine L7 8 (fun K hK=> ?_);go_wp2_with fail;refine hK.out _ _ H9.I.2 (fun hHeld=> ?_);clear hK K
   try simp only [pt,sb,s0,s1]
   refine wpAnyH_done (by kernel_rfl) ?_ _;clear hHeld co fo H9 HS co8;generalize w9.setCell ⟨o,4,none⟩ (.slice a9 (k+1+(p.L9.length - k)) c9)=W10 at *;have Mb:=fi p ({ q with L9:=(p.L9.take k ++ [(⟨id,false⟩:aB)]) ++ p.L9.drop k,ay:=a9,aO:=c9 } :af) W10 ⟨fl.I.1,fl.I.2.1,eX.I.2.1.at⟩ (fun hr=>by
    have h5:aE.Small ({ q with L9:=(p.L9.take k ++ [(⟨id,false⟩:aB)]) ++ p.L9.drop k,ay:=a9,aO:=c9 } :af).pure:=by rw [eX.I.2.2.2.2.2.2]; exact vS fl.I.2.2.1 hr fl.I.2.2.2
    exact ⟨dV h5,fun x hx=>(cY h5 hx).1,eX.I.2.2.2.2.2.1.at⟩)
   obtain ⟨m0,m1,m2,m3,m4,m5,m6,m7⟩:=eX.I.1.cells;obtain ⟨k0,k1,k2,k3,k4,k5,k6,k7⟩:=eX.I.2.2.2.2.1.cells;unfold af.cells at Mb;simp only [sR] at Mb k0 k1 k2 k3 k4 k5 k6 k7;have DM:Hid (((p.L9.take k ++ [(⟨id,false⟩:aB)]) ++ p.L9.drop k).length=k+1+(p.L9.length - k)):=sR;clear sR mI hkd Jx gn;go_wp2_with fail;refine Mb.mono ?_;clear Mb m0 m1 m2 m3 m4 m5 m6 m7 k0 k1 k2 k3 k4 k5 k6 k7;rintro e ow ⟨gy,hok⟩;have hq:=HQ.I.2.2.2.2;have HZ:Hid (Below w.heap.size w ow∧ow.heap[w.heap.size+1]? =some (.cells ar 32 (0,0))∧ap ow W.heap.size ({ q with L9:=(p.L9.take k ++ [(⟨id,false⟩:aB)]) ++ p.L9.drop k,ay:=a9,aO:=c9 } :af)∧w.heap.size+1 < W.heap.size):=⟨eX.I.2.2.1.trans (gy.mono eX.I.2.2.1.size),(gy.block _ (J2.1 eX.I.2.2.2.1).1).trans eX.I.2.2.2.1,eX.I.2.2.2.2.2.1.below gy,hq.2.1⟩
   clear gy hq;rw [eX.I.2.2.2.2.2.2] at hok;rcases hok with ⟨hok,rfl⟩ | ⟨hok,rfl⟩
   ·have HN:Hid (cB p.pure { p.pure with L9:=cA (·.id) (⟨id,false⟩:aB) p.pure.L9 } =some { p.pure with L9:=cA (·.id) (⟨id,false⟩:aB) p.pure.L9 }):=jS hok
    clear hok;go_wp2_with (refine ec 4 49 #[.int .i64 q.id,.int .i64 q.next,.slice q.aN q.L8.length q.aW,.slice q.bc q.aj.length q.bF,.slice a9 (k+1+(p.L9.length - k)) c9,.slice q.ax q.ag.length q.aP,.slice q.am q.ae.length q.aG,.slice q.aK q.ai.length q.aV] HZ.I.2.1 ?_);refine mG Tryz.results38 (.bool true) HZ.I.2.1 ?_;have hl:=HZ.I.2.2.2;rw [HN.I];refine ⟨({ q with L9:=(p.L9.take k ++ [(⟨id,false⟩:aB)]) ++ p.L9.drop k,ay:=a9,aO:=c9 } :af),by unfold af.cells; simp only [DM.I]; rfl,(HZ.I.2.2.1.lower (by omega)).same fun g hg=>KH _ _ _ _ (by have:=(HZ.I.2.2.1.lt g hg).1; omega),eX.I.2.2.2.2.2.2,below_setRow HZ.I.1 (by omega) _⟩
   ·have HN:Hid (cB p.pure { p.pure with L9:=cA (·.id) (⟨id,false⟩:aB) p.pure.L9 } =none):=jh hok
    clear hok;go_wp2_with (refine ec 4 49 ar HZ.I.2.1 ?_);refine mG Tryz.results38 (.bool false) HZ.I.2.1 ?_;exact ca HN.I (below_setRow HZ.I.1 (by omega) _)
end
section
open Go.RowKit Go.Maps
section
variable {α:Type} {num:α→Int}
theorem rF {β:Type} {je:β→Int} (f:α→β) (hf: ∀ y,je (f y)=num y) (x:α): ∀ l:List α,(bY num x l).map f=bY je (f x) (l.map f)
 | [] =>rfl
 | y :: r=>by
  simp only [bY,List.map_cons,hf]
  split
  ·simp
  ·simp [rF f hf x r]
theorem AL {x:α} : ∀ {l:List α},(∀ y∈l,¬ num x < num y)→bY num x l=l ++ [x]
 | [],_=>rfl
 | y :: r,h=>by
  simp only [bY,if_neg (h y (by simp)),Qw];rw [AL fun z hz=>h z (by simp [hz])]
theorem xv {x:α} : ∀ {l r:List α},(∃ y∈l,num x < num y)→bY num x (l ++ r)=bY num x l ++ r
 | [],_,h=>by obtain ⟨y,hy,_⟩:=h; cases hy
 | y :: l,r,h=>by
  simp only [Qw,bY]
  split
  ·rfl
  ·rename_i hn
   rw [xv,Qw];obtain ⟨z,hz,hlt⟩:=h;rcases Kt.1 hz with rfl | hz
   ·exact absurd hlt hn
   ·exact ⟨z,hz,hlt⟩
theorem Cp {x y:α} {l:List α} (h: ∀ z∈l,¬ num x < num z) (hy:num x < num y):bY num x (l ++ [y])=l ++ [x] ++ [y] :=by
 induction l with
 | nil=>simp [bY,hy]
 | cons z r ih=>
  simp only [Qw,bY,if_neg (h z (by simp))];rw [ih fun u hu=>h u (by simp [hu])]
theorem pz (x:α): ∀ l:List α,(bY num x l).Perm (x :: l)
 | [] =>RA _
 | y :: r=>by
  simp only [bY]
  split
  ·exact RA _
  ·exact (List.Perm.cons y (pz x r)).trans (List.Perm.swap x y r)
def gY (num:α→Int) (x:α) (l:List α) (k:Nat) (dn:Bool) (acc:List α):Prop:=
 (dn=false∧acc=l.take k∧ ∀ y∈l.take k,¬ num x < num y)∨(dn=true∧acc=bY num x (l.take k)∧ ∃ y∈l.take k,num x < num y)
theorem gY.start (x:α) (l:List α):gY num x l 0 false [] := .inl ⟨rfl,by simp,fun y hy=>by simp at hy⟩
theorem gY.on {x y:α} {l:List α} {k:Nat} {acc:List α} (h:gY num x l k true acc) (hy:l[k]? =some y):gY num x l (k+1) true (acc ++ [y]):=by
 rcases h with ⟨h,-⟩ | ⟨-,rfl,z,hz,hlt⟩
 ·cases h
 ·rw [gY,cj hy]
  exact .inr ⟨rfl,(xv ⟨z,hz,hlt⟩).symm,z,List.mem_append_left _ hz,hlt⟩
theorem gY.past {x y:α} {l:List α} {k:Nat} {acc:List α} (h:gY num x l k false acc) (hy:l[k]? =some y) (hn: ¬ num x < num y):gY num x l (k+1) false (acc ++ [y]):=by
 rcases h with ⟨-,rfl,h⟩ | ⟨h,-⟩
 ·rw [gY,cj hy]
  refine .inl ⟨rfl,rfl,fun z hz=> ?_⟩;rcases Kg.1 hz with hz | hz
  ·exact h z hz
  ·rw [List.mem_singleton.1 hz]; exact hn
 ·cases h
theorem gY.here {x y:α} {l:List α} {k:Nat} {acc:List α} (h:gY num x l k false acc) (hy:l[k]? =some y) (hn:num x < num y):gY num x l (k+1) true (acc ++ [x] ++ [y]):=by
 rcases h with ⟨-,rfl,h⟩ | ⟨h,-⟩
 ·rw [gY,cj hy]
  exact .inr ⟨rfl,(Cp h hn).symm,y,by simp,hn⟩
 ·cases h
theorem gY.done {x:α} {l:List α} {k:Nat} {acc:List α} (h:gY num x l k true acc) (hk: ¬ k < l.length):acc=bY num x l:=by
 rcases h with ⟨h,-⟩ | ⟨-,rfl,-⟩
 ·cases h
 ·rw [KF (by omega)]
theorem gY.last {x:α} {l:List α} {k:Nat} {acc:List α} (h:gY num x l k false acc) (hk: ¬ k < l.length):acc ++ [x] =bY num x l:=by
 rcases h with ⟨-,rfl,h⟩ | ⟨h,-⟩
 ·rw [KF (by omega)] at h ⊢
  exact (AL h).symm
 ·cases h
theorem gY.le {x:α} {l:List α} {k:Nat} {dn:Bool} {acc:List α} (h:gY num x l k dn acc):acc.length≤l.length+1:=by
 rcases h with ⟨-,rfl,-⟩ | ⟨-,rfl,-⟩
 ·rw [Lk]; omega
 ·rw [er,Lk]; omega
end
structure fy {α:Type} (K:Kind α) (T:TypeId) (XV:Array Value) (W w:World) (acc:List α) (a:Option Addr) (c:Nat):Prop where
 own:w.ownsRow W.heap.size T K.n (.slice a acc.length c) acc.length (K.flat acc)
 ne: ∀ g∈blk a,g≠W.heap.size+1
 cd:Below W.heap.size W w
 box:w.heap[W.heap.size+1]? =some (.cells XV T (0,0))
theorem fy.start {α:Type} {K:Kind α} {T:TypeId} {XV:Array Value} {W:World} :fy K T XV W ((W.alloc (.cells #[] T)).alloc (.cells XV T)) [] (some ⟨W.heap.size,0,none⟩) 0:=by
 have b1:Below W.heap.size W (W.alloc (.cells #[] T)):=(Kp _ _).alloc (Ki _) _;refine ⟨i6 ((PU (by simp)).trans (Kj _ _)) (Ki _),fun g hg=>by simp [blk] at hg; omega,b1.alloc b1.size _,Kq _ _ _⟩
theorem fy.add {α:Type} {K:Kind α} {T:TypeId} {XV:Array Value} {W w:World} {acc:List α} {a:Option Addr} {c:Nat} (h:fy K T XV W w acc a c) (t:TypeId) (bytes:Nat) {z0:Value} {P:Program} (ht:P.underlying t=some (.slice T))
  (hi:(P.info? T).map (fun i=>(i.zero,i.size,i.bytes))=some (some z0,K.n,bytes)) (hz:z0.cells.size=K.n) (hn:0 < K.n) (hby:bytes≤1000) (z:α) (zs:Array Value) (hzs:zs.toList=K.vals z) (h1: ∀ u∈K.vals z,u.oneCell'=true) (hl:acc.length≤2000000):
  ∃ a' c' w',(Builtin.append_ #[t,t] t #[.slice a acc.length c,.slice (some ⟨w.heap.size,0,none⟩) 1 1]).run P (w.alloc (.cells zs T))= .ok (.slice a' (acc.length+1) c') w'∧fy K T XV W w' (acc ++ [z]) a' c':=by
 obtain ⟨i,hi,e⟩:=Option.map_eq_some_iff.1 hi;simp only [Prod.mk.injEq] at e;have b1:Below w.heap.size w (w.alloc (.cells zs T)):=(Kp _ _).alloc (Ki _) _;have b2:=h.cd.trans (b1.mono h.cd.size);have hlt:=(J2.1 h.box).1;obtain ⟨a',c',w',hr,ho,hg,hq⟩:=jD (P:=P) (w.alloc (.cells zs T)) W.heap.size t t T i z0 K.n bytes ht hi e.1 e.2.1 e.2.2 hz hn a acc.length c _ (cR h.own b1) (some ⟨w.heap.size,0,none⟩) 1 1 (K.vals z) (by rw [← hzs]; exact jO (Kj _ _)) (by rw [K.len,Nat.one_mul]) h1 (by omega) hby b2.size;refine ⟨a',c',w',hr,⟨?_,fun g hg2=> ?_,b2.grown hg b2.size fun k e=>(cf h.own (di e)).1,?_⟩⟩
 ·have e1:(acc ++ [z]).length=acc.length+1:=by simp
  rw [e1,K.dc];have e2:K.flat [z] =K.vals z:=by simp [Kind.flat]
  rw [e2];exact ho
 ·rcases hq g hg2 with h5 | h5
  ·exact h.ne g h5
  ·rw [h5]; have:=b1.size; omega
 ·refine (hg.block _ (by simp; omega) (fun e=> ?_)).trans ((b1.block _ hlt).trans h.box)
  exact h.ne _ (di e.symm) rfl
theorem oS {Z A A' C C' R:List Nat} (h:(Z ++ (A ++ (C ++ R))).Nodup) (hA:A'.Nodup) (hC:C'.Nodup) (h1: ∀ g∈A',g∉Z ++ (A ++ (C ++ R))∧g∉C') (h2: ∀ g∈C',g∈C∨g∉Z ++ (A ++ (C ++ R))):(Z ++ (A' ++ (C' ++ R))).Nodup:=by
 simp only [Kg,not_or] at h1 h2;simp only [List.nodup_append,Kg] at h ⊢;obtain ⟨hz,⟨-,⟨-,hR,hCR⟩,-⟩,hzz⟩:=h;refine ⟨hz,⟨hA,⟨hC,hR,fun a ha b hb e=> ?_⟩,fun a ha b hb e=> ?_⟩,fun a ha b hb e=> ?_⟩
 ·rcases h2 a ha with h5 | h5
  ·exact hCR a h5 b hb e
  ·exact h5.2.2.2 (e ▸ hb)
 ·rcases hb with hb | hb
  ·exact (h1 a ha).2 (e ▸ hb)
  ·exact (h1 a ha).1.2.2.2 (e ▸ hb)
 ·rcases hb with hb | hb | hb
  ·exact (h1 b hb).1.1 (e ▸ ha)
  ·rcases h2 b hb with h5 | h5
   ·exact hzz a ha b (.inr (.inl h5)) e
   ·exact h5.1 (e ▸ ha)
  ·exact hzz a ha b (.inr (.inr hb)) e
theorem rB {x:ao} : ∀ u∈bg.vals x,u.oneCell'=true:=fun u hu=>by
 simp only [bg,qN,Kt,Ku,or_false] at hu;rcases hu with rfl | rfl | rfl | rfl | rfl | rfl | rfl | rfl | rfl | rfl | rfl | rfl <;> rfl
theorem ap.IX {w w':World} {base B:Nat} {q:af} {l:List ao} {a':Option Addr} {c':Nat} (h:ap w base q) (hb:base≤B) (hB: ∀ g∈q.Mc,g < B) (hs: ∀ g∈q.Mc,w'.heap[g]? =w.heap[g]?)
  (ho:w'.ownsRow B 43 12 (.slice a' l.length c') l.length (bg.flat l)) (hm: ∀ x∈l,aR.cO w' base x) (hn:(l.filterMap aR.bt).Nodup) (hk: ∀ g∈l.filterMap aR.bt,g∈q.L8.filterMap aR.bt∨g∉q.Mc) (hk2: ∀ g∈l.filterMap aR.bt,g < B):ap w' base ({ q with L8:=l,aN:=a',aW:=c' } :af):=by
 refine ⟨cq ho hb,aL h.aj fun g hg=>hs g (by simp [af.Mc,hg]),aL h.L9 fun g hg=>hs g (by simp [af.Mc,hg]),aL h.ag fun g hg=>hs g (by simp [af.Mc,hg]),aL h.ae fun g hg=>hs g (by simp [af.Mc,hg]),aL h.ai fun g hg=>hs g (by simp [af.Mc,hg]),hm,fun x hx=>(h.eE x hx).same fun g hg=>hs g ?_,fun x hx=>(h.eR x hx).same fun g hg=>hs g ?_,?_⟩
 ·simp only [af.Mc,Kg,Lq]
  exact .inr (.inr (.inr (.inr (.inr (.inr (.inl ⟨x,hx,hg⟩))))))
 ·simp only [af.Mc,Kg,Lq]
  exact .inr (.inr (.inr (.inr (.inr (.inr (.inr (.inr ⟨x,hx,hg⟩)))))))
 ·have h5:=h.nodup
  have h6: ∀ g∈blk a',g∉q.Mc∧g∉l.filterMap aR.bt:=fun g hg=>⟨fun hm=>by have:=(cf ho hg).1; have:=hB g hm; omega,fun hm=>by have:=(cf ho hg).1; have:=hk2 g hm; omega⟩
  have e1:({ q with L8:=l,aN:=a',aW:=c' } :af).Mc=([] :List Nat) ++ (blk a' ++ (l.filterMap aR.bt ++ (blk q.bc ++ (blk q.ay ++ (blk q.ax ++ (blk q.am ++ (q.ae.filterMap aC.bt ++ (blk q.aK ++ (q.ai.filterMap aU.bt))))))))):=by simp [af.Mc]
  have e3:q.Mc=([] :List Nat) ++ (blk q.aN ++ (q.L8.filterMap aR.bt ++ (blk q.bc ++ (blk q.ay ++ (blk q.ax ++ (blk q.am ++ (q.ae.filterMap aC.bt ++ (blk q.aK ++ (q.ai.filterMap aU.bt))))))))):=by simp [af.Mc]
  rw [e1];rw [e3] at h5 h6 hk;exact oS h5 (fN _) hn h6 hk
theorem nz {x:au} : ∀ u∈bm.vals x,u.oneCell'=true:=fun u hu=>by
 simp only [bm,nD,Kt,Ku,or_false] at hu;rcases hu with rfl | rfl | rfl <;> rfl
theorem ap.Eu {w w':World} {base B:Nat} {q:af} {l:List au} {a':Option Addr} {c':Nat} (h:ap w base q) (hb:base≤B) (hB: ∀ g∈q.Mc,g < B) (hs: ∀ g∈q.Mc,w'.heap[g]? =w.heap[g]?)
  (ho:w'.ownsRow B 144 3 (.slice a' l.length c') l.length (bm.flat l)) (hm: ∀ x∈l,aC.cO w' base x) (hn:(l.filterMap aC.bt).Nodup) (hk: ∀ g∈l.filterMap aC.bt,g∈q.ae.filterMap aC.bt∨g∉q.Mc) (hk2: ∀ g∈l.filterMap aC.bt,g < B):ap w' base ({ q with ae:=l,am:=a',aG:=c' } :af):=by
 refine ⟨aL h.L8 fun g hg=>hs g (by simp [af.Mc,hg]),aL h.aj fun g hg=>hs g (by simp [af.Mc,hg]),aL h.L9 fun g hg=>hs g (by simp [af.Mc,hg]),aL h.ag fun g hg=>hs g (by simp [af.Mc,hg]),cq ho hb,aL h.ai fun g hg=>hs g (by simp [af.Mc,hg]),fun x hx=>(h.eI x hx).same fun g hg=>hs g ?_,hm,fun x hx=>(h.eR x hx).same fun g hg=>hs g ?_,?_⟩
 ·simp only [af.Mc,Kg,Lq]
  exact .inr (.inl ⟨x,hx,hg⟩)
 ·simp only [af.Mc,Kg,Lq]
  exact .inr (.inr (.inr (.inr (.inr (.inr (.inr (.inr ⟨x,hx,hg⟩)))))))
 ·have h5:=h.nodup
  have h6: ∀ g∈blk a',g∉q.Mc∧g∉l.filterMap aC.bt:=fun g hg=>⟨fun hm=>by have:=(cf ho hg).1; have:=hB g hm; omega,fun hm=>by have:=(cf ho hg).1; have:=hk2 g hm; omega⟩
  have e1:({ q with ae:=l,am:=a',aG:=c' } :af).Mc=(blk q.aN ++ (q.L8.filterMap aR.bt ++ (blk q.bc ++ (blk q.ay ++ (blk q.ax))))) ++ (blk a' ++ (l.filterMap aC.bt ++ (blk q.aK ++ (q.ai.filterMap aU.bt)))):=by simp [af.Mc]
  have e3:q.Mc=(blk q.aN ++ (q.L8.filterMap aR.bt ++ (blk q.bc ++ (blk q.ay ++ (blk q.ax))))) ++ (blk q.am ++ (q.ae.filterMap aC.bt ++ (blk q.aK ++ (q.ai.filterMap aU.bt)))):=by simp [af.Mc]
  rw [e1];rw [e3] at h5 h6 hk;exact oS h5 (fN _) hn h6 hk
theorem qX {x:aM} : ∀ u∈bX.vals x,u.oneCell'=true:=fun u hu=>by
 simp only [bX,qT,Kt,Ku,or_false] at hu;rcases hu with rfl | rfl | rfl | rfl | rfl <;> rfl
theorem ap.Jb {w w':World} {base B:Nat} {q:af} {l:List aM} {a':Option Addr} {c':Nat} (h:ap w base q) (hb:base≤B) (hB: ∀ g∈q.Mc,g < B) (hs: ∀ g∈q.Mc,w'.heap[g]? =w.heap[g]?)
  (ho:w'.ownsRow B 61 5 (.slice a' l.length c') l.length (bX.flat l)) (hm: ∀ x∈l,aU.cO w' base x) (hn:(l.filterMap aU.bt).Nodup) (hk: ∀ g∈l.filterMap aU.bt,g∈q.ai.filterMap aU.bt∨g∉q.Mc) (hk2: ∀ g∈l.filterMap aU.bt,g < B):ap w' base ({ q with ai:=l,aK:=a',aV:=c' } :af):=by
 refine ⟨aL h.L8 fun g hg=>hs g (by simp [af.Mc,hg]),aL h.aj fun g hg=>hs g (by simp [af.Mc,hg]),aL h.L9 fun g hg=>hs g (by simp [af.Mc,hg]),aL h.ag fun g hg=>hs g (by simp [af.Mc,hg]),aL h.ae fun g hg=>hs g (by simp [af.Mc,hg]),cq ho hb,fun x hx=>(h.eI x hx).same fun g hg=>hs g ?_,fun x hx=>(h.eE x hx).same fun g hg=>hs g ?_,hm,?_⟩
 ·simp only [af.Mc,Kg,Lq]
  exact .inr (.inl ⟨x,hx,hg⟩)
 ·simp only [af.Mc,Kg,Lq]
  exact .inr (.inr (.inr (.inr (.inr (.inr (.inl ⟨x,hx,hg⟩))))))
 ·have h5:=h.nodup
  have h6: ∀ g∈blk a',g∉q.Mc∧g∉l.filterMap aU.bt:=fun g hg=>⟨fun hm=>by have:=(cf ho hg).1; have:=hB g hm; omega,fun hm=>by have:=(cf ho hg).1; have:=hk2 g hm; omega⟩
  have e1:({ q with ai:=l,aK:=a',aV:=c' } :af).Mc=(blk q.aN ++ (q.L8.filterMap aR.bt ++ (blk q.bc ++ (blk q.ay ++ (blk q.ax ++ (blk q.am ++ (q.ae.filterMap aC.bt))))))) ++ (blk a' ++ (l.filterMap aU.bt ++ ([] :List Nat))):=by simp [af.Mc]
  have e3:q.Mc=(blk q.aN ++ (q.L8.filterMap aR.bt ++ (blk q.bc ++ (blk q.ay ++ (blk q.ax ++ (blk q.am ++ (q.ae.filterMap aC.bt))))))) ++ (blk q.aK ++ (q.ai.filterMap aU.bt ++ ([] :List Nat))):=by simp [af.Mc]
  rw [e1];rw [e3] at h5 h6 hk;exact oS h5 (fN _) hn h6 hk
end
end Go.Proofs.YtkbcplnlehdjfaaGreat
