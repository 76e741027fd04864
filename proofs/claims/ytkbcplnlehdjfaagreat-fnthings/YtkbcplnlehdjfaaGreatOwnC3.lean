/- What the proof leans on, part 3: DwOp, OpsAt, Mem, OpForms. -/
import Derived.Test.YtkbcplnlehdjfaaGreatOwnC2
import Derived.Deep.QuietTactic
import Derived.BigQuiet
import Derived.Deep.RegionHeld3
import Derived.Deep.RegionLaw
import Derived.Deep.DrawnRows
set_option maxRecDepth 100000
set_option maxHeartbeats 8000000
open Array renaming getElem?_eq_some_iff->J2
open Go renaming block_lt_of_cell->Le,bodyPost_ret->KT,cell_of_row->K5,frozen_of_row->Ko,heap_alloc_new->Kj,heap_setCell_same->K7,results_cell_row->K9
open Go.IntKind renaming wrap_i64->K8
open Go.Proofs.Tryz renaming prog->J3,results162->La,underlying134->Lb
open Go.RowKit.Below renaming heap_setCell->K6,refl->Kp
open Go.World renaming cell?_of_block->J1
open List renaming getElem?_eq_getElem->Kz,getElem?_eq_some_iff->Lj,mem_of_getElem?->KA
open Nat renaming le_refl->Ki,succ_mul->Lh,zero_le->Ky

namespace Go.Proofs.YtkbcplnlehdjfaaGreat
section
open Go.RowKit
theorem xG {r:Nat} {W w2:World} {xs:Array Value} {t:TypeId} {n:Nat} (hb:gG r (W.alloc (.cells xs t)) w2) (hr:r < W.heap.size):w2.cell? ⟨W.heap.size,n,none⟩=xs[n]? :=by
 have hrow:w2.heap[W.heap.size]? =some (.cells xs t (0,0)):=(hb.block _ (by simp) (by omega)).trans (Kj _ _);rw [K5 _ _ _ _ _ _ hrow]
theorem B5 (r:Nat) (a:Option Addr) (len cap:Nat) (w:World) (hl:len≤1048576) (h:Rd r a len cap w):
  Calls J3 205 #[.pointer (some ⟨r,0,none⟩)] w fun e w'=> ∃ v:Int,e= .returned (.int .i64 v)∧gG r w w'∧Rd r a len cap w':=by
 have rl:=h.lt
 go_enter Tryz.func205,Tryz.ntmps205
 go_wp2_with fail;refine (dh r a len cap 5 _ hl (by omega) (by omega) (h.below ((Kp _ _).alloc (Ki _) _))).mono ?_;rintro e w2 ⟨v,v0,v1,rfl,hb2,hr2⟩;obtain ⟨n,rfl⟩:=Int.eq_ofNat_of_zero_le v0;have hn:n < 5:=by omega
 have hy: ∃ y,w2.cell? ⟨w.heap.size,n,none⟩=some (.int .i64 y):=by
  rw [xG hb2 rl]
  match n,hn with
  | 0,_=>exact ⟨_,rfl⟩
  | 1,_=>exact ⟨_,rfl⟩
  | 2,_=>exact ⟨_,rfl⟩
  | 3,_=>exact ⟨_,rfl⟩
  | 4,_=>exact ⟨_,rfl⟩
 obtain ⟨y,hy⟩:=hy;have HB:Hid (gG r w w2):=((gG.refl _ _).alloc _).trans hb2;clear hb2;go_wp2;go_ret;exact ⟨y,rfl,HB.out,hr2⟩
theorem B0 (r:Nat) (a:Option Addr) (len cap:Nat) (w:World) (hl:len≤1048576) (h:Rd r a len cap w):
  Calls J3 206 #[.pointer (some ⟨r,0,none⟩)] w fun e w'=> ∃ t:ByteArray,t.size≤3∧e= .returned (.string t)∧gG r w w'∧Rd r a len cap w':=by
 have rl:=h.lt
 go_enter Tryz.func206,Tryz.ntmps206
 go_wp2_with fail;refine (dh r a len cap 5 _ hl (by omega) (by omega) (h.below ((Kp _ _).alloc (Ki _) _))).mono ?_;rintro e w2 ⟨v,v0,v1,rfl,hb2,hr2⟩;obtain ⟨n,rfl⟩:=Int.eq_ofNat_of_zero_le v0;have hn:n < 5:=by omega
 have hy: ∃ y:ByteArray,y.size≤3∧w2.cell? ⟨w.heap.size,n,none⟩=some (.string y):=by
  rw [xG hb2 rl]
  match n,hn with
  | 0,_=>exact ⟨_,by decide,rfl⟩
  | 1,_=>exact ⟨_,by decide,rfl⟩
  | 2,_=>exact ⟨_,by decide,rfl⟩
  | 3,_=>exact ⟨_,by decide,rfl⟩
  | 4,_=>exact ⟨_,by decide,rfl⟩
 obtain ⟨y,hys,hy⟩:=hy;have HB:Hid (gG r w w2):=((gG.refl _ _).alloc _).trans hb2;clear hb2;go_wp2;go_ret;exact ⟨y,hys,rfl,HB.out,hr2⟩
structure fO (r:Nat) (a:Option Addr) (len cap:Nat) (w x:World) (q:Nat) (k n m:Int) (t:ByteArray):Prop where
 res:x.heap[w.heap.size]? =some (.cells #[.int .i64 0,.int .i64 0,.int .i64 0,.string ⟨#[]⟩] 134 (0,0))
 op:x.heap[q]? =some (.cells #[.int .i64 k,.int .i64 n,.int .i64 m,.string t] 134 (0,0))
 but:gG r w x
 rd:Rd r a len cap x
 st:Rd r a len cap w
 lt:w.heap.size < q
theorem fO.rl {r:Nat} {a:Option Addr} {len cap:Nat} {w x:World} {q:Nat} {k n m:Int} {t:ByteArray} (h:fO r a len cap w x q k n m t):r < w.heap.size:=h.st.lt
theorem fO.move {r:Nat} {a:Option Addr} {len cap:Nat} {w x y:World} {q:Nat} {k n m:Int} {t:ByteArray} (h:fO r a len cap w x q k n m t) (hb:gG r x y) (hr:Rd r a len cap y):fO r a len cap w y q k n m t:=by
 have h1:=h.rl;have h2:=h.lt;exact ⟨(hb.block _ (J2.1 h.res).1 (by omega)).trans h.res,(hb.block _ (J2.1 h.op).1 (by omega)).trans h.op,h.but.trans hb,hr,h.st,h2⟩
theorem vp {r:Nat} {a:Option Addr} {len cap:Nat} {w x:World} (h:Rd r a len cap x) (st:Rd r a len cap w) (hb:gG r w x) {b i:Nat} (hbl:w.heap.size≤b) (v:Value):Rd r a len cap (x.setCell ⟨b,i,none⟩ v):=by
 obtain ⟨p,hp,hrow⟩:=h.1;have hr:=st.lt;exact ⟨⟨p,hp,(K6 _ _ _ _ (by simp; omega)).trans hrow⟩,st.2.but (hb.sF b i v hbl)⟩
theorem fO.set {r:Nat} {a:Option Addr} {len cap:Nat} {w x:World} {q:Nat} {k n m k' n' m':Int} {t t':ByteArray} (h:fO r a len cap w x q k n m t) {i:Nat} {v:Value} (e:(#[.int .i64 k,.int .i64 n,.int .i64 m,.string t] :Array Value).setIfInBounds i v= #[.int .i64 k',.int .i64 n',.int .i64 m',.string t']):fO r a len cap w (x.setCell ⟨q,i,none⟩ v) q k' n' m' t':=by
 have h2:=h.lt;refine ⟨(K6 _ _ _ _ (by simp; omega)).trans h.res,?_,h.but.sF q i v (by omega),vp h.rd h.st h.but (by omega) v,h.st,h2⟩;have h0:=K7 _ q i _ _ v h.op;rw [e] at h0;exact h0
theorem fO.ends {r:Nat} {a:Option Addr} {len cap:Nat} {w x:World} {q:Nat} {k n m k' n' m':Int} {t t':ByteArray} (h:fO r a len cap w x q k n m t):
  ((((x.setCell ⟨w.heap.size,0,none⟩ (.int .i64 k')).setCell ⟨w.heap.size,1,none⟩ (.int .i64 n')).setCell ⟨w.heap.size,2,none⟩ (.int .i64 m')).setCell ⟨w.heap.size,3,none⟩ (.string t')).heap[w.heap.size]? =some (.cells #[.int .i64 k',.int .i64 n',.int .i64 m',.string t'] 134 (0,0))∧
  gG r w ((((x.setCell ⟨w.heap.size,0,none⟩ (.int .i64 k')).setCell ⟨w.heap.size,1,none⟩ (.int .i64 n')).setCell ⟨w.heap.size,2,none⟩ (.int .i64 m')).setCell ⟨w.heap.size,3,none⟩ (.string t'))∧
  Rd r a len cap ((((x.setCell ⟨w.heap.size,0,none⟩ (.int .i64 k')).setCell ⟨w.heap.size,1,none⟩ (.int .i64 n')).setCell ⟨w.heap.size,2,none⟩ (.int .i64 m')).setCell ⟨w.heap.size,3,none⟩ (.string t')):=by
 have b0:=h.but.sF w.heap.size 0 (.int .i64 k') (Ki _);have b1:=b0.sF w.heap.size 1 (.int .i64 n') (Ki _);have b2:=b1.sF w.heap.size 2 (.int .i64 m') (Ki _);have b3:=b2.sF w.heap.size 3 (.string t') (Ki _);have d0:=vp h.rd h.st h.but (i:=0) (Ki _) (.int .i64 k');have d1:=vp d0 h.st b0 (i:=1) (Ki _) (.int .i64 n');have d2:=vp d1 h.st b1 (i:=2) (Ki _) (.int .i64 m');have d3:=vp d2 h.st b2 (i:=3) (Ki _) (.string t');refine ⟨?_,b3,d3⟩;have e0:=K7 _ w.heap.size 0 _ _ (.int .i64 k') h.res;have e1:=K7 _ w.heap.size 1 _ _ (.int .i64 n') e0;have e2:=K7 _ w.heap.size 2 _ _ (.int .i64 m') e1;have e3:=K7 _ w.heap.size 3 _ _ (.string t') e2;simpa using e3
theorem fO.cells {r:Nat} {a:Option Addr} {len cap:Nat} {w x:World} {q:Nat} {k n m:Int} {t:ByteArray} (h:fO r a len cap w x q k n m t):
  (x.cell? ⟨q,0,none⟩=some (.int .i64 k)∧x.cell? ⟨q,1,none⟩=some (.int .i64 n)∧x.cell? ⟨q,2,none⟩=some (.int .i64 m)∧x.cell? ⟨q,3,none⟩=some (.string t))∧
  (x.cell? ⟨w.heap.size,0,none⟩=some (.int .i64 0)∧x.cell? ⟨w.heap.size,1,none⟩=some (.int .i64 0)∧x.cell? ⟨w.heap.size,2,none⟩=some (.int .i64 0)∧x.cell? ⟨w.heap.size,3,none⟩=some (.string ⟨#[]⟩))∧
  (∀ i,x.frozen? ⟨q,i,none⟩=false)∧(∀ i,x.frozen? ⟨w.heap.size,i,none⟩=false):=by
 refine ⟨⟨?_,?_,?_,?_⟩,⟨?_,?_,?_,?_⟩,fun i=>Ko _ _ _ _ _ h.op,fun i=>Ko _ _ _ _ _ h.res⟩
 ·rw [K5 _ _ _ _ _ _ h.op]; rfl
 ·rw [K5 _ _ _ _ _ _ h.op]; rfl
 ·rw [K5 _ _ _ _ _ _ h.op]; rfl
 ·rw [K5 _ _ _ _ _ _ h.op]; rfl
 ·rw [K5 _ _ _ _ _ _ h.res]; rfl
 ·rw [K5 _ _ _ _ _ _ h.res]; rfl
 ·rw [K5 _ _ _ _ _ _ h.res]; rfl
 ·rw [K5 _ _ _ _ _ _ h.res]; rfl
theorem jy:(Tryz.prog.info? 134).map (·.size)=some 4:=by kernel_rfl
theorem op_any (r:Nat) (a:Option Addr) (len cap:Nat) (w:World) (hl:len≤1048576) (h:Rd r a len cap w):
  Calls J3 162 #[.pointer (some ⟨r,0,none⟩)] w fun e w'=> ∃ o:dN,o.2.2.2.size≤3∧e= .returned (.agg #[.int .i64 o.1,.int .i64 o.2.1,.int .i64 o.2.2.1,.string o.2.2.2])∧gG r w w'∧Rd r a len cap w':=by
 have HS:Hid (Rd r a len cap w):=h;have rl:=h.lt;clear h
 go_enter Tryz.func162,Tryz.ntmps162
 go_wp2_with fail;refine (dh r a len cap 17 _ hl (by omega) (by omega) (HS.out.below ((Kp _ _).alloc (Ki _) _))).mono ?_;rintro e w1 ⟨v,v0,v1,rfl,hb1,hr1⟩;have hres:w1.heap[w.heap.size]? =some (.cells #[.int .i64 0,.int .i64 0,.int .i64 0,.string ⟨#[]⟩] 134 (0,0)):=(hb1.block _ (by simp) (by omega)).trans (Kj _ _);have pG:Hid (w1.heap[w.heap.size]? =some (.cells #[.int .i64 0,.int .i64 0,.int .i64 0,.string ⟨#[]⟩] 134 (0,0))∧gG r w w1):=⟨hres,((gG.refl _ _).alloc _).trans hb1⟩
 clear hb1 hres;obtain ⟨k,hk⟩: ∃ k:Int,k=1+v:=⟨_,rfl⟩
 have e1:IntKind.i64.wrap (1+v)=k:=by rw [K8,hk]; omega
 have k0:1≤k:=by omega
 have k1:k≤17:=by omega
 have e2:IntKind.i64.wrap k=k:=by rw [K8]; omega
 have e3:wrap64 k=k:=by unfold wrap64; omega
 clear hk;go_wp2_with fail;refine (dh r a len cap 2 _ hl (by omega) (by omega) hr1).mono ?_;rintro e w2 ⟨u,u0,u1,rfl,hb2,hr2⟩;obtain ⟨n,hn⟩: ∃ n:Int,n=1+u:=⟨_,rfl⟩
 have f1:IntKind.i64.wrap (1+u)=n:=by rw [K8,hn]; omega
 have f2:IntKind.i64.wrap n=n:=by rw [K8]; omega
 have f3:wrap64 n=n:=by unfold wrap64; omega
 have H2:Hid (∀ n:Int,fO r a len cap w (w2.alloc (.cells #[.int .i64 k,.int .i64 n,.int .i64 0,.string ⟨#[]⟩] 134)) w2.heap.size k n 0 ⟨#[]⟩):=fun n=>by
  have l1:w.heap.size < w1.heap.size:=(J2.1 pG.out.1).1;have r2:w2.heap[w.heap.size]? =some (.cells #[.int .i64 0,.int .i64 0,.int .i64 0,.string ⟨#[]⟩] 134 (0,0)):=(hb2.block _ l1 (by omega)).trans pG.out.1;have l2:w.heap.size < w2.heap.size:=(J2.1 r2).1;exact ⟨(heap_alloc_old _ _ l2).trans r2,Kj _ _,(pG.out.2.trans hb2).alloc _,hr2.below ((Kp _ _).alloc (Ki _) _),HS.out,l2⟩
 clear hn hb2 hr2 hr1 pG;obtain ⟨q,hq⟩: ∃ q,w2.heap.size=q:=⟨_,rfl⟩
 rw [hq] at H2;by_cases c1:k=1∨k=2
 ·rcases c1 with rfl | rfl
  all_goals
   go_wp2_with fail;rw [hq] at *;have H3:=H2.out n;generalize w2.alloc (.cells #[.int .i64 _,.int .i64 n,.int .i64 0,.string ⟨#[]⟩] 134)=X at *;have uL:Hid (fO r a len cap w X q _ n 0 ⟨#[]⟩):=H3;clear H3;refine (dh r a len cap 5 _ hl (by omega) (by omega) uL.out.rd).mono ?_;rintro e w3 ⟨b,b0,b1,rfl,hb3,hr3⟩;obtain ⟨n2,hn2⟩: ∃ n2:Int,n2=1+b:=⟨_,rfl⟩
   have g1:IntKind.i64.wrap (1+b)=n2:=by rw [K8,hn2]; omega
   have g2:IntKind.i64.wrap n2=n2:=by rw [K8]; omega
   have g3:wrap64 n2=n2:=by unfold wrap64; omega
   have H4:Hid (fO r a len cap w w3 q _ n 0 ⟨#[]⟩):=uL.out.move hb3 hr3;have H5:Hid (fO r a len cap w (w3.setCell ⟨q,1,none⟩ (.int .i64 n2)) q _ n2 0 ⟨#[]⟩):=H4.out.set rfl;clear hn2 hb3 hr3 uL;obtain ⟨⟨o0,o1,o2,o3⟩,⟨r0,r1,r2,r3⟩,fD,fB⟩:=H4.out.cells;have q0:=fD 0;have q1:=fD 1;have q2:=fD 2;have q3:=fD 3;have y0:=fB 0;have y1:=fB 1;have y2:=fB 2;have y3:=fB 3;have hlt:=H4.out.lt;have hne:w.heap.size≠q:=by omega
   have mD:q≠w.heap.size:=by omega
   clear fD fB;go_wp2_with fail;clear o0 o1 o2 o3 r0 r1 r2 r3 q0 q1 q2 q3 y0 y1 y2 y3 hlt hne mD;refine (jt r a len cap 60 _ hl (by omega) (by omega) H5.out.rd).mono ?_;rintro e w8 ⟨bb,rfl,Aq,BM⟩;have H8:Hid (fO r a len cap w w8 q _ n2 0 ⟨#[]⟩):=H5.out.move Aq BM;clear Aq BM H5;cases bb with
   | false=>
    obtain ⟨⟨o0,o1,o2,o3⟩,⟨r0,r1,r2,r3⟩,fD,fB⟩:=H8.out.cells;have q0:=fD 0;have q1:=fD 1;have q2:=fD 2;have q3:=fD 3;have y0:=fB 0;have y1:=fB 1;have y2:=fB 2;have y3:=fB 3;have hlt:=H8.out.lt;have hne:w.heap.size≠q:=by omega
    have mD:q≠w.heap.size:=by omega
    clear fD fB;go_wp2;refine KT (K9 La _ _ w.heap.size 134 _ (0,0) _ (by rfl) H8.out.ends.1 Lb rfl jy) rfl ?_;exact ⟨(_,n2,0,⟨#[]⟩),Ky _,rfl,H8.out.ends.2.1,H8.out.ends.2.2⟩
   | true=>
    go_wp2_with fail;refine (pj r a len cap (-1) 9 _ hl (by omega) (by omega) (by omega) H8.out.rd).mono ?_;rintro e w9 ⟨mm,rfl,kN,zT⟩;have H9:Hid (fO r a len cap w w9 q _ n2 0 ⟨#[]⟩):=H8.out.move kN zT;have HA:Hid (fO r a len cap w (w9.setCell ⟨q,2,none⟩ (.int .i64 mm)) q _ n2 mm ⟨#[]⟩):=H9.out.set rfl;clear kN zT H8;obtain ⟨⟨o0,o1,o2,o3⟩,⟨r0,r1,r2,r3⟩,fD,fB⟩:=H9.out.cells;have q0:=fD 0;have q1:=fD 1;have q2:=fD 2;have q3:=fD 3;have y0:=fB 0;have y1:=fB 1;have y2:=fB 2;have y3:=fB 3;have hlt:=H9.out.lt;have hne:w.heap.size≠q:=by omega
    have mD:q≠w.heap.size:=by omega
    clear fD fB;go_wp2;refine KT (K9 La _ _ w.heap.size 134 _ (0,0) _ (by rfl) HA.out.ends.1 Lb rfl jy) rfl ?_;exact ⟨(_,n2,mm,⟨#[]⟩),Ky _,rfl,HA.out.ends.2.1,HA.out.ends.2.2⟩
 by_cases c2:k=3∨k=7∨k=9∨k=12
 ·rcases c2 with rfl | rfl | rfl | rfl
  all_goals
   go_wp2_with fail;rw [hq] at *;have H3:=H2.out n;generalize w2.alloc (.cells #[.int .i64 _,.int .i64 n,.int .i64 0,.string ⟨#[]⟩] 134)=X at *;have uL:Hid (fO r a len cap w X q _ n 0 ⟨#[]⟩):=H3;clear H3;refine (B5 r a len cap _ hl uL.out.rd).mono ?_;rintro e w3 ⟨b,rfl,hb3,hr3⟩;have H4:Hid (fO r a len cap w w3 q _ n 0 ⟨#[]⟩):=uL.out.move hb3 hr3;have H5:Hid (fO r a len cap w (w3.setCell ⟨q,2,none⟩ (.int .i64 b)) q _ n b ⟨#[]⟩):=H4.out.set rfl;clear hb3 hr3 uL;obtain ⟨⟨o0,o1,o2,o3⟩,⟨r0,r1,r2,r3⟩,fD,fB⟩:=H4.out.cells;have q0:=fD 0;have q1:=fD 1;have q2:=fD 2;have q3:=fD 3;have y0:=fB 0;have y1:=fB 1;have y2:=fB 2;have y3:=fB 3;have hlt:=H4.out.lt;have hne:w.heap.size≠q:=by omega
   have mD:q≠w.heap.size:=by omega
   clear fD fB;go_wp2_with fail;clear o0 o1 o2 o3 r0 r1 r2 r3 q0 q1 q2 q3 y0 y1 y2 y3 hlt hne mD;refine (jt r a len cap 60 _ hl (by omega) (by omega) H5.out.rd).mono ?_;rintro e w8 ⟨bb,rfl,Aq,BM⟩;have H8:Hid (fO r a len cap w w8 q _ n b ⟨#[]⟩):=H5.out.move Aq BM;clear Aq BM H5;cases bb with
   | false=>
    obtain ⟨⟨o0,o1,o2,o3⟩,⟨r0,r1,r2,r3⟩,fD,fB⟩:=H8.out.cells;have q0:=fD 0;have q1:=fD 1;have q2:=fD 2;have q3:=fD 3;have y0:=fB 0;have y1:=fB 1;have y2:=fB 2;have y3:=fB 3;have hlt:=H8.out.lt;have hne:w.heap.size≠q:=by omega
    have mD:q≠w.heap.size:=by omega
    clear fD fB;go_wp2;refine KT (K9 La _ _ w.heap.size 134 _ (0,0) _ (by rfl) H8.out.ends.1 Lb rfl jy) rfl ?_;exact ⟨(_,n,b,⟨#[]⟩),Ky _,rfl,H8.out.ends.2.1,H8.out.ends.2.2⟩
   | true=>
    go_wp2_with fail;refine (pj r a len cap (-1) 9 _ hl (by omega) (by omega) (by omega) H8.out.rd).mono ?_;rintro e w9 ⟨mm,rfl,kN,zT⟩;have H9:Hid (fO r a len cap w w9 q _ n b ⟨#[]⟩):=H8.out.move kN zT;have HA:Hid (fO r a len cap w (w9.setCell ⟨q,2,none⟩ (.int .i64 mm)) q _ n mm ⟨#[]⟩):=H9.out.set rfl;clear kN zT H8;obtain ⟨⟨o0,o1,o2,o3⟩,⟨r0,r1,r2,r3⟩,fD,fB⟩:=H9.out.cells;have q0:=fD 0;have q1:=fD 1;have q2:=fD 2;have q3:=fD 3;have y0:=fB 0;have y1:=fB 1;have y2:=fB 2;have y3:=fB 3;have hlt:=H9.out.lt;have hne:w.heap.size≠q:=by omega
    have mD:q≠w.heap.size:=by omega
    clear fD fB;go_wp2;refine KT (K9 La _ _ w.heap.size 134 _ (0,0) _ (by rfl) HA.out.ends.1 Lb rfl jy) rfl ?_;exact ⟨(_,n,mm,⟨#[]⟩),Ky _,rfl,HA.out.ends.2.1,HA.out.ends.2.2⟩
 by_cases c3:k=8
 ·subst c3
  go_wp2_with fail;rw [hq] at *;have H3:=H2.out n;generalize w2.alloc (.cells #[.int .i64 _,.int .i64 n,.int .i64 0,.string ⟨#[]⟩] 134)=X at *;have uL:Hid (fO r a len cap w X q _ n 0 ⟨#[]⟩):=H3;clear H3;refine (B5 r a len cap _ hl uL.out.rd).mono ?_;rintro e w3 ⟨b,rfl,hb3,hr3⟩;have H4:Hid (fO r a len cap w w3 q _ n 0 ⟨#[]⟩):=uL.out.move hb3 hr3;have H5:Hid (fO r a len cap w (w3.setCell ⟨q,2,none⟩ (.int .i64 b)) q _ n b ⟨#[]⟩):=H4.out.set rfl;clear hb3 hr3 uL;obtain ⟨⟨o0,o1,o2,o3⟩,⟨r0,r1,r2,r3⟩,fD,fB⟩:=H4.out.cells;have q0:=fD 0;have q1:=fD 1;have q2:=fD 2;have q3:=fD 3;have y0:=fB 0;have y1:=fB 1;have y2:=fB 2;have y3:=fB 3;have hlt:=H4.out.lt;have hne:w.heap.size≠q:=by omega
  have mD:q≠w.heap.size:=by omega
  clear fD fB;go_wp2_with fail;clear o0 o1 o2 o3 r0 r1 r2 r3 q0 q1 q2 q3 y0 y1 y2 y3 hlt hne mD;generalize w3.setCell ⟨q,2,none⟩ (.int .i64 b)=X3 at *;refine (B0 r a len cap _ hl H5.out.rd).mono ?_;rintro e w4 ⟨tx,htx,rfl,hb4,hr4⟩;have H6:Hid (fO r a len cap w w4 q _ n b ⟨#[]⟩):=H5.out.move hb4 hr4;have H7:Hid (fO r a len cap w (w4.setCell ⟨q,3,none⟩ (.string tx)) q _ n b tx):=H6.out.set rfl;clear hb4 hr4 H5;obtain ⟨⟨o0,o1,o2,o3⟩,⟨r0,r1,r2,r3⟩,fD,fB⟩:=H6.out.cells;have q0:=fD 0;have q1:=fD 1;have q2:=fD 2;have q3:=fD 3;have y0:=fB 0;have y1:=fB 1;have y2:=fB 2;have y3:=fB 3;have hlt:=H6.out.lt;have hne:w.heap.size≠q:=by omega
  have mD:q≠w.heap.size:=by omega
  clear fD fB;go_wp2_with fail;clear o0 o1 o2 o3 r0 r1 r2 r3 q0 q1 q2 q3 y0 y1 y2 y3 hlt hne mD;refine (jt r a len cap 60 _ hl (by omega) (by omega) H7.out.rd).mono ?_;rintro e w8 ⟨bb,rfl,Aq,BM⟩;have H8:Hid (fO r a len cap w w8 q _ n b tx):=H7.out.move Aq BM;clear Aq BM H7;cases bb with
  | false=>
   obtain ⟨⟨o0,o1,o2,o3⟩,⟨r0,r1,r2,r3⟩,fD,fB⟩:=H8.out.cells;have q0:=fD 0;have q1:=fD 1;have q2:=fD 2;have q3:=fD 3;have y0:=fB 0;have y1:=fB 1;have y2:=fB 2;have y3:=fB 3;have hlt:=H8.out.lt;have hne:w.heap.size≠q:=by omega
   have mD:q≠w.heap.size:=by omega
   clear fD fB;go_wp2;refine KT (K9 La _ _ w.heap.size 134 _ (0,0) _ (by rfl) H8.out.ends.1 Lb rfl jy) rfl ?_;exact ⟨(_,n,b,tx),htx,rfl,H8.out.ends.2.1,H8.out.ends.2.2⟩
  | true=>
   go_wp2_with fail;refine (pj r a len cap (-1) 9 _ hl (by omega) (by omega) (by omega) H8.out.rd).mono ?_;rintro e w9 ⟨mm,rfl,kN,zT⟩;have H9:Hid (fO r a len cap w w9 q _ n b tx):=H8.out.move kN zT;have HA:Hid (fO r a len cap w (w9.setCell ⟨q,2,none⟩ (.int .i64 mm)) q _ n mm tx):=H9.out.set rfl;clear kN zT H8;obtain ⟨⟨o0,o1,o2,o3⟩,⟨r0,r1,r2,r3⟩,fD,fB⟩:=H9.out.cells;have q0:=fD 0;have q1:=fD 1;have q2:=fD 2;have q3:=fD 3;have y0:=fB 0;have y1:=fB 1;have y2:=fB 2;have y3:=fB 3;have hlt:=H9.out.lt;have hne:w.heap.size≠q:=by omega
   have mD:q≠w.heap.size:=by omega
   clear fD fB;go_wp2;refine KT (K9 La _ _ w.heap.size 134 _ (0,0) _ (by rfl) HA.out.ends.1 Lb rfl jy) rfl ?_;exact ⟨(_,n,mm,tx),htx,rfl,HA.out.ends.2.1,HA.out.ends.2.2⟩
 by_cases c4:k=10∨k=13
 ·rcases c4 with rfl | rfl
  all_goals
   go_wp2_with fail;rw [hq] at *;have H3:=H2.out n;generalize w2.alloc (.cells #[.int .i64 _,.int .i64 n,.int .i64 0,.string ⟨#[]⟩] 134)=X at *;have uL:Hid (fO r a len cap w X q _ n 0 ⟨#[]⟩):=H3;clear H3;refine (B0 r a len cap _ hl uL.out.rd).mono ?_;rintro e w4 ⟨tx,htx,rfl,hb4,hr4⟩;have H6:Hid (fO r a len cap w w4 q _ n 0 ⟨#[]⟩):=uL.out.move hb4 hr4;have H7:Hid (fO r a len cap w (w4.setCell ⟨q,3,none⟩ (.string tx)) q _ n 0 tx):=H6.out.set rfl;clear hb4 hr4 uL;obtain ⟨⟨o0,o1,o2,o3⟩,⟨r0,r1,r2,r3⟩,fD,fB⟩:=H6.out.cells;have q0:=fD 0;have q1:=fD 1;have q2:=fD 2;have q3:=fD 3;have y0:=fB 0;have y1:=fB 1;have y2:=fB 2;have y3:=fB 3;have hlt:=H6.out.lt;have hne:w.heap.size≠q:=by omega
   have mD:q≠w.heap.size:=by omega
   clear fD fB;go_wp2_with fail;clear o0 o1 o2 o3 r0 r1 r2 r3 q0 q1 q2 q3 y0 y1 y2 y3 hlt hne mD;refine (jt r a len cap 60 _ hl (by omega) (by omega) H7.out.rd).mono ?_;rintro e w8 ⟨bb,rfl,Aq,BM⟩;have H8:Hid (fO r a len cap w w8 q _ n 0 tx):=H7.out.move Aq BM;clear Aq BM H7;cases bb with
   | false=>
    obtain ⟨⟨o0,o1,o2,o3⟩,⟨r0,r1,r2,r3⟩,fD,fB⟩:=H8.out.cells;have q0:=fD 0;have q1:=fD 1;have q2:=fD 2;have q3:=fD 3;have y0:=fB 0;have y1:=fB 1;have y2:=fB 2;have y3:=fB 3;have hlt:=H8.out.lt;have hne:w.heap.size≠q:=by omega
    have mD:q≠w.heap.size:=by omega
    clear fD fB;go_wp2;refine KT (K9 La _ _ w.heap.size 134 _ (0,0) _ (by rfl) H8.out.ends.1 Lb rfl jy) rfl ?_;exact ⟨(_,n,0,tx),htx,rfl,H8.out.ends.2.1,H8.out.ends.2.2⟩
   | true=>
    go_wp2_with fail;refine (pj r a len cap (-1) 9 _ hl (by omega) (by omega) (by omega) H8.out.rd).mono ?_;rintro e w9 ⟨mm,rfl,kN,zT⟩;have H9:Hid (fO r a len cap w w9 q _ n 0 tx):=H8.out.move kN zT;have HA:Hid (fO r a len cap w (w9.setCell ⟨q,2,none⟩ (.int .i64 mm)) q _ n mm tx):=H9.out.set rfl;clear kN zT H8;obtain ⟨⟨o0,o1,o2,o3⟩,⟨r0,r1,r2,r3⟩,fD,fB⟩:=H9.out.cells;have q0:=fD 0;have q1:=fD 1;have q2:=fD 2;have q3:=fD 3;have y0:=fB 0;have y1:=fB 1;have y2:=fB 2;have y3:=fB 3;have hlt:=H9.out.lt;have hne:w.heap.size≠q:=by omega
    have mD:q≠w.heap.size:=by omega
    clear fD fB;go_wp2;refine KT (K9 La _ _ w.heap.size 134 _ (0,0) _ (by rfl) HA.out.ends.1 Lb rfl jy) rfl ?_;exact ⟨(_,n,mm,tx),htx,rfl,HA.out.ends.2.1,HA.out.ends.2.2⟩
 by_cases c5:k=17
 ·subst c5
  go_wp2_with fail;rw [hq] at *;have H3:=H2.out 0;generalize w2.alloc (.cells #[.int .i64 _,.int .i64 0,.int .i64 0,.string ⟨#[]⟩] 134)=X at *;have uL:Hid (fO r a len cap w X q _ 0 0 ⟨#[]⟩):=H3;clear H3;refine (jt r a len cap 60 _ hl (by omega) (by omega) uL.out.rd).mono ?_;rintro e w8 ⟨bb,rfl,Aq,BM⟩;have H8:Hid (fO r a len cap w w8 q _ 0 0 ⟨#[]⟩):=uL.out.move Aq BM;clear Aq BM uL;cases bb with
  | false=>
   obtain ⟨⟨o0,o1,o2,o3⟩,⟨r0,r1,r2,r3⟩,fD,fB⟩:=H8.out.cells;have q0:=fD 0;have q1:=fD 1;have q2:=fD 2;have q3:=fD 3;have y0:=fB 0;have y1:=fB 1;have y2:=fB 2;have y3:=fB 3;have hlt:=H8.out.lt;have hne:w.heap.size≠q:=by omega
   have mD:q≠w.heap.size:=by omega
   clear fD fB;go_wp2;refine KT (K9 La _ _ w.heap.size 134 _ (0,0) _ (by rfl) H8.out.ends.1 Lb rfl jy) rfl ?_;exact ⟨(_,0,0,⟨#[]⟩),Ky _,rfl,H8.out.ends.2.1,H8.out.ends.2.2⟩
  | true=>
   go_wp2_with fail;refine (pj r a len cap (-1) 9 _ hl (by omega) (by omega) (by omega) H8.out.rd).mono ?_;rintro e w9 ⟨mm,rfl,kN,zT⟩;have H9:Hid (fO r a len cap w w9 q _ 0 0 ⟨#[]⟩):=H8.out.move kN zT;have HA:Hid (fO r a len cap w (w9.setCell ⟨q,2,none⟩ (.int .i64 mm)) q _ 0 mm ⟨#[]⟩):=H9.out.set rfl;clear kN zT H8;obtain ⟨⟨o0,o1,o2,o3⟩,⟨r0,r1,r2,r3⟩,fD,fB⟩:=H9.out.cells;have q0:=fD 0;have q1:=fD 1;have q2:=fD 2;have q3:=fD 3;have y0:=fB 0;have y1:=fB 1;have y2:=fB 2;have y3:=fB 3;have hlt:=H9.out.lt;have hne:w.heap.size≠q:=by omega
   have mD:q≠w.heap.size:=by omega
   clear fD fB;go_wp2;refine KT (K9 La _ _ w.heap.size 134 _ (0,0) _ (by rfl) HA.out.ends.1 Lb rfl jy) rfl ?_;exact ⟨(_,0,mm,⟨#[]⟩),Ky _,rfl,HA.out.ends.2.1,HA.out.ends.2.2⟩
 have d1:(k == 1)=false:=by simp; omega
 have d2:(k == 2)=false:=by simp; omega
 have d3:(k == 3)=false:=by simp; omega
 have d7:(k == 7)=false:=by simp; omega
 have d9:(k == 9)=false:=by simp; omega
 have d12:(k == 12)=false:=by simp; omega
 have d8:(k == 8)=false:=by simp; omega
 have tH:(k == 10)=false:=by simp; omega
 have d13:(k == 13)=false:=by simp; omega
 have d17:(k == 17)=false:=by simp; omega
 clear c1 c2 c3 c4 c5;go_wp2_with fail;rw [hq] at *;have H3:=H2.out n;generalize w2.alloc (.cells #[.int .i64 _,.int .i64 n,.int .i64 0,.string ⟨#[]⟩] 134)=X at *;have uL:Hid (fO r a len cap w X q _ n 0 ⟨#[]⟩):=H3;clear H3;refine (jt r a len cap 60 _ hl (by omega) (by omega) uL.out.rd).mono ?_;rintro e w8 ⟨bb,rfl,Aq,BM⟩;have H8:Hid (fO r a len cap w w8 q _ n 0 ⟨#[]⟩):=uL.out.move Aq BM;clear Aq BM uL;cases bb with
 | false=>
  obtain ⟨⟨o0,o1,o2,o3⟩,⟨r0,r1,r2,r3⟩,fD,fB⟩:=H8.out.cells;have q0:=fD 0;have q1:=fD 1;have q2:=fD 2;have q3:=fD 3;have y0:=fB 0;have y1:=fB 1;have y2:=fB 2;have y3:=fB 3;have hlt:=H8.out.lt;have hne:w.heap.size≠q:=by omega
  have mD:q≠w.heap.size:=by omega
  clear fD fB;go_wp2;refine KT (K9 La _ _ w.heap.size 134 _ (0,0) _ (by rfl) H8.out.ends.1 Lb rfl jy) rfl ?_;exact ⟨(_,n,0,⟨#[]⟩),Ky _,rfl,H8.out.ends.2.1,H8.out.ends.2.2⟩
 | true=>
  go_wp2_with fail;refine (pj r a len cap (-1) 9 _ hl (by omega) (by omega) (by omega) H8.out.rd).mono ?_;rintro e w9 ⟨mm,rfl,kN,zT⟩;have H9:Hid (fO r a len cap w w9 q _ n 0 ⟨#[]⟩):=H8.out.move kN zT;have HA:Hid (fO r a len cap w (w9.setCell ⟨q,2,none⟩ (.int .i64 mm)) q _ n mm ⟨#[]⟩):=H9.out.set rfl;clear kN zT H8;obtain ⟨⟨o0,o1,o2,o3⟩,⟨r0,r1,r2,r3⟩,fD,fB⟩:=H9.out.cells;have q0:=fD 0;have q1:=fD 1;have q2:=fD 2;have q3:=fD 3;have y0:=fB 0;have y1:=fB 1;have y2:=fB 2;have y3:=fB 3;have hlt:=H9.out.lt;have hne:w.heap.size≠q:=by omega
  have mD:q≠w.heap.size:=by omega
  clear fD fB;go_wp2;refine KT (K9 La _ _ w.heap.size 134 _ (0,0) _ (by rfl) HA.out.ends.1 Lb rfl jy) rfl ?_;exact ⟨(_,n,mm,⟨#[]⟩),Ky _,rfl,HA.out.ends.2.1,HA.out.ends.2.2⟩
def iG (w:World) (g len:Nat) (K N M:Nat→Int) (S:Nat→ByteArray):Prop:=g < w.heap.size∧ ∀ j,j < len * 4→w.cell? ⟨g,j,none⟩=some (xe K N M S j)
theorem iG.of_block {w w':World} {g len:Nat} {K N M:Nat→Int} {S:Nat→ByteArray} (h:iG w g len K N M S) (e:w'.heap[g]? =w.heap[g]?):iG w' g len K N M S:=by
 refine ⟨?_,fun j hj=>(J1 (w:=w) e).trans (h.2 j hj)⟩;have h1:=h.1;rw [Array.getElem?_eq_getElem h1] at e;exact (J2.1 e).1
theorem iG.below {w w':World} {g len:Nat} {K N M:Nat→Int} {S:Nat→ByteArray} (h:iG w g len K N M S) (hb:Below w.heap.size w w'):iG w' g len K N M S:=h.of_block (hb.block g h.1)
theorem iG.c0 {w:World} {g len:Nat} {K N M:Nat→Int} {S:Nat→ByteArray} (h:iG w g len K N M S) {i:Nat} (hi:i < len):w.cell? ⟨g,i * 4,none⟩=some (.int .i64 (K i)):=by rw [← opV_0 K N M S]; exact h.2 _ (by omega)
theorem iG.c1 {w:World} {g len:Nat} {K N M:Nat→Int} {S:Nat→ByteArray} (h:iG w g len K N M S) {i:Nat} (hi:i < len):w.cell? ⟨g,i * 4+1,none⟩=some (.int .i64 (N i)):=by rw [← opV_1 K N M S]; exact h.2 _ (by omega)
theorem iG.c2 {w:World} {g len:Nat} {K N M:Nat→Int} {S:Nat→ByteArray} (h:iG w g len K N M S) {i:Nat} (hi:i < len):w.cell? ⟨g,i * 4+2,none⟩=some (.int .i64 (M i)):=by rw [← opV_2 K N M S]; exact h.2 _ (by omega)
theorem iG.c3 {w:World} {g len:Nat} {K N M:Nat→Int} {S:Nat→ByteArray} (h:iG w g len K N M S) {i:Nat} (hi:i < len):w.cell? ⟨g,i * 4+3,none⟩=some (.string (S i)):=by rw [← opV_3 K N M S]; exact h.2 _ (by omega)
def j8 (K N M:Nat→Int) (S:Nat→ByteArray) (i:Nat):Bool:=mQ (K i) (N i) (M i) (S i)
def nq (len:Nat) (K N M:Nat→Int) (S:Nat→ByteArray):Bool:=decide (1≤len∧len≤20∧ ∀ i,i < len→j8 K N M S i=true)
theorem vM {len:Nat} {K N M:Nat→Int} {S:Nat→ByteArray} (h:1≤len∧len≤20∧ ∀ i,i < len→j8 K N M S i=true):nq len K N M S=true:=by simp only [nq]; exact decide_eq_true h
theorem iS {len:Nat} {K N M:Nat→Int} {S:Nat→ByteArray} (h: ¬ (1≤len∧len≤20∧ ∀ i,i < len→j8 K N M S i=true)):nq len K N M S=false:=by simp only [nq]; exact decide_eq_false h
def Row (w:World) (a:Option Addr) (xs:List Value):Prop:= ∀ (j:Nat) (u:Value),xs[j]? =some u→ ∃ g,a=some ⟨g,0,none⟩∧w.cell? ⟨g,j,none⟩=some u
section
variable {w w':World} {a:Option Addr} {xs:List Value}
theorem Row.nothing (w:World) (a:Option Addr):Row w a [] :=fun j u h=>by simp at h
theorem Row.same (h:Row w a xs) (hs: ∀ g,a=some ⟨g,0,none⟩→w'.heap[g]? =w.heap[g]?):Row w' a xs:=fun j u hu=>by
 obtain ⟨g,e,hc⟩:=h j u hu;exact ⟨g,e,(J1 (w:=w) (a:=⟨g,j,none⟩) (hs g e)).trans hc⟩
theorem Row.below (h:Row w a xs) (hb:Below w.heap.size w w'):Row w' a xs:=fun j u hu=>by
 obtain ⟨g,e,hc⟩:=h j u hu;exact ⟨g,e,(hb.cell (p:=⟨g,j,none⟩) (Le hc)).trans hc⟩
theorem Row.low {base:Nat} (h:Row w a xs) (ha: ∀ q,a=some q→q.block < base) (hb:Below base w w'):Row w' a xs:=h.same fun g e=>hb.block g (ha _ e)
theorem Row.drew (h:Row w a xs):Row w.drew a xs:=h
end
def Src (w:World) (a:Option Addr) (xs:List Value):Prop:= ∀ (j:Nat) (u:Value),xs[j]? =some u→ ∃ b off,a=some ⟨b,off,none⟩∧w.cell? ⟨b,off+j,none⟩=some u
theorem Src.below {w w':World} {a:Option Addr} {xs:List Value} (h:Src w a xs) (hb:Below w.heap.size w w'):Src w' a xs:=fun j u hu=>by
 obtain ⟨b,off,e,hc⟩:=h j u hu;exact ⟨b,off,e,(hb.cell (p:=⟨b,off+j,none⟩) (Le hc)).trans hc⟩
structure Kind (α:Type) where
 n:Nat
 vals:α→List Value
 kids:α→List (Option Addr × List Value)
 pos:0 < n
 len: ∀ x,(vals x).length=n
section
variable {α:Type} (K:Kind α)
def Kind.flat (l:List α):List Value:=l.flatMap K.vals
theorem Kind.dM (l:List α):(K.flat l).length=l.length * K.n:=by
 induction l with
 | nil=>simp [Kind.flat]
 | cons x r ih=>
  show (K.vals x ++ K.flat r).length=_
  rw [List.length_append,ih,K.len,List.length_cons,Lh];omega
theorem Kind.jw {l:List α} {i:Nat} {x:α} (hx:l[i]? =some x) {j:Nat} (hj:j < K.n):(K.flat l)[i * K.n+j]? =(K.vals x)[j]? :=by
 induction l generalizing i with
 | nil=>simp at hx
 | cons y r ih=>
  show (K.vals y ++ K.flat r)[_]? =_
  cases i with
  | zero=>
   simp at hx;subst hx;rw [Nat.zero_mul,Nat.zero_add,List.getElem?_append_left (by rw [K.len]; exact hj)]
  | succ i=>
   have hx':r[i]? =some x:=by simpa using hx
   rw [List.getElem?_append_right (by rw [K.len,Lh]; omega),K.len,show (i+1) * K.n+j - K.n=i * K.n+j by rw [Lh]; omega];exact ih hx'
theorem Kind.dc (l r:List α):K.flat (l ++ r)=K.flat l ++ K.flat r:=List.flatMap_append
theorem Kind.GJ (x:α):K.flat [x] =K.vals x:=by simp [Kind.flat]
def Kind.bU (w:World) (a:Option Addr) (l:List α):Prop:=Row w a (K.flat l)∧ ∀ x∈l,∀ r∈K.kids x,Row w r.1 r.2
variable {K}
theorem Kind.bU.at {w:World} {a:Option Addr} {l:List α} (h:K.bU w a l) {i:Nat} {x:α} (hx:l[i]? =some x):
  ∃ g,a=some ⟨g,0,none⟩∧ ∀ (j:Nat) (u:Value),(K.vals x)[j]? =some u→w.cell? ⟨g,i * K.n+j,none⟩=some u:=by
 have h0: ∃ u,(K.vals x)[0]? =some u:=⟨_,Kz (by rw [K.len]; exact K.pos)⟩
 obtain ⟨u0,hu0⟩:=h0;obtain ⟨g,e,_⟩:=h.1 (i * K.n+0) u0 ((K.jw hx K.pos).trans hu0);refine ⟨g,e,fun j u hu=> ?_⟩;have hj:j < K.n:=by
  rw [← K.len x];exact (Lj.1 hu).1
 obtain ⟨g',e',hc⟩:=h.1 (i * K.n+j) u ((K.jw hx hj).trans hu);rw [e] at e';cases e';exact hc
theorem Kind.bU.bt {w:World} {a:Option Addr} {l:List α} (h:K.bU w a l) {i:Nat} {x:α} (hx:l[i]? =some x) {r:Option Addr × List Value} (hr:r∈K.kids x):Row w r.1 r.2:=h.2 x (KA hx) r hr
variable (K) in
def Kind.ep (w:World) (a:Option Addr) (l:List α):Prop:=Src w a (K.flat l)∧ ∀ x∈l,∀ r∈K.kids x,Src w r.1 r.2
theorem Kind.ep.at {w:World} {a:Option Addr} {l:List α} (h:K.ep w a l) {i:Nat} {x:α} (hx:l[i]? =some x):
  ∃ b off,a=some ⟨b,off,none⟩∧ ∀ (j:Nat) (u:Value),(K.vals x)[j]? =some u→w.cell? ⟨b,off+i * K.n+j,none⟩=some u:=by
 have h0: ∃ u,(K.vals x)[0]? =some u:=⟨_,Kz (by rw [K.len]; exact K.pos)⟩
 obtain ⟨u0,hu0⟩:=h0;obtain ⟨b,off,e,_⟩:=h.1 (i * K.n+0) u0 ((K.jw hx K.pos).trans hu0);refine ⟨b,off,e,fun j u hu=> ?_⟩;have hj:j < K.n:=by
  rw [← K.len x];exact (Lj.1 hu).1
 obtain ⟨b',off',e',hc⟩:=h.1 (i * K.n+j) u ((K.jw hx hj).trans hu);rw [e] at e';cases e';rw [Nat.add_assoc];exact hc
theorem Kind.ep.bt {w:World} {a:Option Addr} {l:List α} (h:K.ep w a l) {i:Nat} {x:α} (hx:l[i]? =some x) {r:Option Addr × List Value} (hr:r∈K.kids x):Src w r.1 r.2:=h.2 x (KA hx) r hr
theorem Kind.ep.below {w w':World} {a:Option Addr} {l:List α} (h:K.ep w a l) (hb:Below w.heap.size w w'):K.ep w' a l:=⟨h.1.below hb,fun x hx r hr=>(h.2 x hx r hr).below hb⟩
theorem Kind.bU.below {w w':World} {a:Option Addr} {l:List α} (h:K.bU w a l) (hb:Below w.heap.size w w'):K.bU w' a l:=⟨h.1.below hb,fun x hx r hr=>(h.2 x hx r hr).below hb⟩
end
def CC (o:dN):List Value:= [.int .i64 o.1,.int .i64 o.2.1,.int .i64 o.2.2.1,.string o.2.2.2]
def fk:Kind dN:=⟨4,CC,fun _=> [],by decide,fun _=>rfl⟩
def bT:Kind ByteArray:=⟨1,fun s=> [.string s],fun _=> [],by decide,fun _=>rfl⟩
end
section
open Go.RowKit
attribute [local go_sem ↓] Go.wp_at_zero Go.wp_at_succ
theorem pu (k:Int) (w:World):Calls J3 320 #[.agg #[.int .i64 k]] w fun e w'=>e= .returned (.agg #[.int .i64 k,.int .i64 0,.int .i64 0,.string ByteArray.empty])∧Below w.heap.size w w':=by
 go_enter Tryz.func320,Tryz.ntmps320
 go_wp2;exact KT (v:= .agg #[.int .i64 k,.int .i64 0,.int .i64 0,.string ByteArray.empty]) (by simp [results,Tryz.results320,go_sem]; try rfl) rfl ⟨rfl,by go_grown⟩
theorem oJ (k n:Int) (w:World):Calls J3 316 #[.agg #[.int .i64 k,.int .i64 n]] w fun e w'=>e= .returned (.agg #[.int .i64 k,.int .i64 n,.int .i64 0,.string ByteArray.empty])∧Below w.heap.size w w':=by
 go_enter Tryz.func316,Tryz.ntmps316
 go_wp2;exact KT (v:= .agg #[.int .i64 k,.int .i64 n,.int .i64 0,.string ByteArray.empty]) (by simp [results,Tryz.results316,go_sem]; try rfl) rfl ⟨rfl,by go_grown⟩
theorem xk (k n m:Int) (w:World):Calls J3 317 #[.agg #[.int .i64 k,.int .i64 n,.int .i64 m]] w fun e w'=>e= .returned (.agg #[.int .i64 k,.int .i64 n,.int .i64 m,.string ByteArray.empty])∧Below w.heap.size w w':=by
 go_enter Tryz.func317,Tryz.ntmps317
 go_wp2;exact KT (v:= .agg #[.int .i64 k,.int .i64 n,.int .i64 m,.string ByteArray.empty]) (by simp [results,Tryz.results317,go_sem]; try rfl) rfl ⟨rfl,by go_grown⟩
theorem Fc (k n m:Int) (s:ByteArray) (w:World):Calls J3 318 #[.agg #[.int .i64 k,.int .i64 n,.int .i64 m,.string s]] w fun e w'=>e= .returned (.agg #[.int .i64 k,.int .i64 n,.int .i64 m,.string s])∧Below w.heap.size w w':=by
 go_enter Tryz.func318,Tryz.ntmps318
 go_wp2;exact KT (v:= .agg #[.int .i64 k,.int .i64 n,.int .i64 m,.string s]) (by simp [results,Tryz.results318,go_sem]; try rfl) rfl ⟨rfl,by go_grown⟩
theorem xS (k n:Int) (s:ByteArray) (w:World):Calls J3 319 #[.agg #[.int .i64 k,.int .i64 n,.string s]] w fun e w'=>e= .returned (.agg #[.int .i64 k,.int .i64 n,.int .i64 0,.string s])∧Below w.heap.size w w':=by
 go_enter Tryz.func319,Tryz.ntmps319
 go_wp2;exact KT (v:= .agg #[.int .i64 k,.int .i64 n,.int .i64 0,.string s]) (by simp [results,Tryz.results319,go_sem]; try rfl) rfl ⟨rfl,by go_grown⟩
theorem DB (k n m:Int) (s:ByteArray) (w:World) (hk:pJ k):
  Calls J3 290 #[.agg #[.int .i64 k,.int .i64 n,.int .i64 m,.string s]] w fun e w'=>e= .returned (.tuple #[.iface 330 (.agg #[.int .i64 k,.int .i64 n]),.bool true])∧Below w.heap.size w w':=by
 rcases hk with rfl | rfl | rfl | rfl | rfl | rfl | rfl | rfl | rfl
 all_goals
  go_enter Tryz.func290,Tryz.ntmps290
  go_wp2;go_ret2;exact ⟨rfl,by go_grown⟩
theorem AC (k n m:Int) (s:ByteArray) (w:World) (hk:mF k):
  Calls J3 290 #[.agg #[.int .i64 k,.int .i64 n,.int .i64 m,.string s]] w fun e w'=>e= .returned (.tuple #[.iface 332 (.agg #[.int .i64 k,.int .i64 n,.int .i64 m]),.bool true])∧Below w.heap.size w w':=by
 rcases hk with rfl | rfl | rfl | rfl
 all_goals
  go_enter Tryz.func290,Tryz.ntmps290
  go_wp2;go_ret2;exact ⟨rfl,by go_grown⟩
theorem AE (k n m:Int) (s:ByteArray) (w:World) (hk:k=8):
  Calls J3 290 #[.agg #[.int .i64 k,.int .i64 n,.int .i64 m,.string s]] w fun e w'=>e= .returned (.tuple #[.iface 334 (.agg #[.int .i64 k,.int .i64 n,.int .i64 m,.string s]),.bool true])∧Below w.heap.size w w':=by
 rcases hk with rfl
 all_goals
  go_enter Tryz.func290,Tryz.ntmps290
  go_wp2;go_ret2;exact ⟨rfl,by go_grown⟩
theorem BJ (k n m:Int) (s:ByteArray) (w:World) (hk:isText k):
  Calls J3 290 #[.agg #[.int .i64 k,.int .i64 n,.int .i64 m,.string s]] w fun e w'=>e= .returned (.tuple #[.iface 336 (.agg #[.int .i64 k,.int .i64 n,.string s]),.bool true])∧Below w.heap.size w w':=by
 rcases hk with rfl | rfl
 all_goals
  go_enter Tryz.func290,Tryz.ntmps290
  go_wp2;go_ret2;exact ⟨rfl,by go_grown⟩
theorem Ag (k n m:Int) (s:ByteArray) (w:World) (hk:k=17):
  Calls J3 290 #[.agg #[.int .i64 k,.int .i64 n,.int .i64 m,.string s]] w fun e w'=>e= .returned (.tuple #[.iface 338 (.agg #[.int .i64 k]),.bool true])∧Below w.heap.size w w':=by
 rcases hk with rfl
 all_goals
  go_enter Tryz.func290,Tryz.ntmps290
  go_wp2;go_ret2;exact ⟨rfl,by go_grown⟩
theorem BR (k n m:Int) (s:ByteArray) (w:World) (hk: ¬ (1≤k∧k≤17)):
  Calls J3 290 #[.agg #[.int .i64 k,.int .i64 n,.int .i64 m,.string s]] w fun e w'=>e= .returned (.tuple #[.iface 338 (.agg #[.int .i64 0]),.bool false])∧Below w.heap.size w w':=by
 have e1:(k == 1)=false:=by simp; omega
 have e2:(k == 2)=false:=by simp; omega
 have e3:(k == 3)=false:=by simp; omega
 have e4:(k == 4)=false:=by simp; omega
 have e5:(k == 5)=false:=by simp; omega
 have e6:(k == 6)=false:=by simp; omega
 have e7:(k == 7)=false:=by simp; omega
 have e8:(k == 8)=false:=by simp; omega
 have e9:(k == 9)=false:=by simp; omega
 have e10:(k == 10)=false:=by simp; omega
 have e11:(k == 11)=false:=by simp; omega
 have e12:(k == 12)=false:=by simp; omega
 have e13:(k == 13)=false:=by simp; omega
 have e14:(k == 14)=false:=by simp; omega
 have e15:(k == 15)=false:=by simp; omega
 have e16:(k == 16)=false:=by simp; omega
 have e17:(k == 17)=false:=by simp; omega
 go_enter Tryz.func290,Tryz.ntmps290
 go_wp2;go_ret2;exact ⟨rfl,by go_grown⟩
end
end Go.Proofs.YtkbcplnlehdjfaaGreat
