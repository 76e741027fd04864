/- What the proof leans on, part 4. -/
import Derived.Test.YtkbcplnlehdjfaaGreatOwnP3
import Derived.Deep.RegionLaw
import Derived.Deep.DrawnRows
import Derived.Deep.Cut
set_option maxRecDepth 100000
set_option maxHeartbeats 8000000
open Array renaming getElem?_eq_some_iff->J2
open Go renaming bodyPost_ret->KT,cell_of_row->K5,frozen_of_row->Ko,heap_alloc_new->Kj,heap_setCell_same->K7,results_cell_row->K9,wpAnyH_done->K3,wp_region_held_drew->Kr
open Go.IntKind renaming wrap_i64->K8
open Go.Proofs.Tryz renaming func212->Rw,ntmps212->Rx,prog->J3,results162->La,underlying134->Lb
open Go.RowKit.Below renaming heap_setCell->K6,refl->Kp
open Int renaming eq_ofNat_of_zero_le->QK
open Nat renaming le_refl->Ki,zero_le->Ky

namespace Go.Proofs.YtkbcplnlehdjfaaGreat
open Go.RowKit
theorem xG {r:Nat} {W w2:World} {xs:Array Value} {t:TypeId} {n:Nat} (hb:gG r (W.alloc (.cells xs t)) w2) (hr:r < W.heap.size):w2.cell? ⟨W.heap.size,n,none⟩=xs[n]? :=by
 have hrow:w2.heap[W.heap.size]? =some (.cells xs t (0,0)):=(hb.block _ (by simp) (by omega)).trans (Kj _ _);rw [K5 _ _ _ _ _ _ hrow]
theorem B5 (r:Nat) (a:Option Addr) (len cap:Nat) (w:World) (hl:len≤1048576) (h:Rd r a len cap w):
  Calls J3 205 #[.pointer (some ⟨r,0,none⟩)] w fun e w'=> ∃ v:Int,e= .returned (.int .i64 v)∧gG r w w'∧Rd r a len cap w':=by
 have rl:=h.lt
 go_enter Tryz.func205,Tryz.ntmps205
 go_wp2_with fail;refine (dh r a len cap 5 _ hl (by omega) (by omega) (h.below ((Kp _ _).alloc (Ki _) _))).mono ?_;rintro e w2 ⟨v,v0,v1,rfl,hb2,hr2⟩;obtain ⟨n,rfl⟩:=QK v0;have hn:n < 5:=by omega
 have hy: ∃ y,w2.cell? ⟨w.heap.size,n,none⟩=some (.int .i64 y):=by
  rw [xG hb2 rl]
  match n,hn with
  | 0,_=>exact ⟨_,rfl⟩
  | 1,_=>exact ⟨_,rfl⟩
  | 2,_=>exact ⟨_,rfl⟩
  | 3,_=>exact ⟨_,rfl⟩
  | 4,_=>exact ⟨_,rfl⟩
 obtain ⟨y,hy⟩:=hy;have HB:Hid (gG r w w2):=((gG.refl _ _).alloc _).trans hb2;clear hb2;go_wp2;go_ret;exact ⟨y,rfl,HB.I,hr2⟩
theorem B0 (r:Nat) (a:Option Addr) (len cap:Nat) (w:World) (hl:len≤1048576) (h:Rd r a len cap w):
  Calls J3 206 #[.pointer (some ⟨r,0,none⟩)] w fun e w'=> ∃ t:ByteArray,t.size≤3∧e= .returned (.string t)∧gG r w w'∧Rd r a len cap w':=by
 have rl:=h.lt
 go_enter Tryz.func206,Tryz.ntmps206
 go_wp2_with fail;refine (dh r a len cap 5 _ hl (by omega) (by omega) (h.below ((Kp _ _).alloc (Ki _) _))).mono ?_;rintro e w2 ⟨v,v0,v1,rfl,hb2,hr2⟩;obtain ⟨n,rfl⟩:=QK v0;have hn:n < 5:=by omega
 have hy: ∃ y:ByteArray,y.size≤3∧w2.cell? ⟨w.heap.size,n,none⟩=some (.string y):=by
  rw [xG hb2 rl]
  match n,hn with
  | 0,_=>exact ⟨_,by decide,rfl⟩
  | 1,_=>exact ⟨_,by decide,rfl⟩
  | 2,_=>exact ⟨_,by decide,rfl⟩
  | 3,_=>exact ⟨_,by decide,rfl⟩
  | 4,_=>exact ⟨_,by decide,rfl⟩
 obtain ⟨y,hys,hy⟩:=hy;have HB:Hid (gG r w w2):=((gG.refl _ _).alloc _).trans hb2;clear hb2;go_wp2;go_ret;exact ⟨y,hys,rfl,HB.I,hr2⟩
structure fO (r:Nat) (a:Option Addr) (len cap:Nat) (w x:World) (q:Nat) (k n m:Int) (t:ByteArray):Prop where
 res:x.heap[w.heap.size]? =some (.cells #[.int .i64 0,.int .i64 0,.int .i64 0,.string ⟨#[]⟩] 134 (0,0))
 op:x.heap[q]? =some (.cells #[.int .i64 k,.int .i64 n,.int .i64 m,.string t] 134 (0,0))
 but:gG r w x
 rd:Rd r a len cap x
 st:Rd r a len cap w
 lt:w.heap.size < q
theorem fO.rl {r:Nat} {a:Option Addr} {len cap:Nat} {w x:World} {q:Nat} {k n m:Int} {t:ByteArray} (h:fO r a len cap w x q k n m t):r < w.heap.size:=h.st.lt
theorem fO.move {r:Nat} {a:Option Addr} {len cap:Nat} {w x y:World} {q:Nat} {k n m:Int} {t:ByteArray} (h:fO r a len cap w x q k n m t) (hb:gG r x y) (hr:Rd r a len cap y):fO r a len cap w y q k n m t:=by
 have h1:=h.rl;have h2:=h.lt;exact ⟨(hb.block _ (J2.1 h.res).1 (by omega)).trans h.res,(hb.block _ (J2.1 h.op).1 (by omega)).trans h.op,h.but.trans hb,hr,h.st,h2⟩
theorem vp {r:Nat} {a:Option Addr} {len cap:Nat} {w x:World} (h:Rd r a len cap x) (st:Rd r a len cap w) (hb:gG r w x) {b i:Nat} (hbl:w.heap.size≤b) (v:Value):Rd r a len cap (x.setCell ⟨b,i,none⟩ v):=by
 obtain ⟨p,hp,hrow⟩:=h.1;have hr:=st.lt;exact ⟨⟨p,hp,(K6 _ _ _ _ (by simp; omega)).trans hrow⟩,st.2.but (hb.sF b i v hbl)⟩
theorem fO.set {r:Nat} {a:Option Addr} {len cap:Nat} {w x:World} {q:Nat} {k n m k' n' m':Int} {t t':ByteArray} (h:fO r a len cap w x q k n m t) {i:Nat} {v:Value} (e:(#[.int .i64 k,.int .i64 n,.int .i64 m,.string t] :Array Value).setIfInBounds i v= #[.int .i64 k',.int .i64 n',.int .i64 m',.string t']):fO r a len cap w (x.setCell ⟨q,i,none⟩ v) q k' n' m' t':=by
 have h2:=h.lt;refine ⟨(K6 _ _ _ _ (by simp; omega)).trans h.res,?_,h.but.sF q i v (by omega),vp h.rd h.st h.but (by omega) v,h.st,h2⟩;have h0:=K7 _ q i _ _ v h.op;rw [e] at h0;exact h0
theorem fO.ends {r:Nat} {a:Option Addr} {len cap:Nat} {w x:World} {q:Nat} {k n m k' n' m':Int} {t t':ByteArray} (h:fO r a len cap w x q k n m t):
  ((((x.setCell ⟨w.heap.size,0,none⟩ (.int .i64 k')).setCell ⟨w.heap.size,1,none⟩ (.int .i64 n')).setCell ⟨w.heap.size,2,none⟩ (.int .i64 m')).setCell ⟨w.heap.size,3,none⟩ (.string t')).heap[w.heap.size]? =some (.cells #[.int .i64 k',.int .i64 n',.int .i64 m',.string t'] 134 (0,0))∧
  gG r w ((((x.setCell ⟨w.heap.size,0,none⟩ (.int .i64 k')).setCell ⟨w.heap.size,1,none⟩ (.int .i64 n')).setCell ⟨w.heap.size,2,none⟩ (.int .i64 m')).setCell ⟨w.heap.size,3,none⟩ (.string t'))∧
  Rd r a len cap ((((x.setCell ⟨w.heap.size,0,none⟩ (.int .i64 k')).setCell ⟨w.heap.size,1,none⟩ (.int .i64 n')).setCell ⟨w.heap.size,2,none⟩ (.int .i64 m')).setCell ⟨w.heap.size,3,none⟩ (.string t')):=by
 have b0:=h.but.sF w.heap.size 0 (.int .i64 k') (Ki _);have b1:=b0.sF w.heap.size 1 (.int .i64 n') (Ki _);have b2:=b1.sF w.heap.size 2 (.int .i64 m') (Ki _);have b3:=b2.sF w.heap.size 3 (.string t') (Ki _);have d0:=vp h.rd h.st h.but (i:=0) (Ki _) (.int .i64 k');have d1:=vp d0 h.st b0 (i:=1) (Ki _) (.int .i64 n');have d2:=vp d1 h.st b1 (i:=2) (Ki _) (.int .i64 m');have d3:=vp d2 h.st b2 (i:=3) (Ki _) (.string t');refine ⟨?_,b3,d3⟩;have e0:=K7 _ w.heap.size 0 _ _ (.int .i64 k') h.res;have e1:=K7 _ w.heap.size 1 _ _ (.int .i64 n') e0;have e2:=K7 _ w.heap.size 2 _ _ (.int .i64 m') e1;have e3:=K7 _ w.heap.size 3 _ _ (.string t') e2;simpa using e3
theorem fO.cells {r:Nat} {a:Option Addr} {len cap:Nat} {w x:World} {q:Nat} {k n m:Int} {t:ByteArray} (h:fO r a len cap w x q k n m t):
  (x.cell? ⟨q,0,none⟩=some (.int .i64 k)∧x.cell? ⟨q,1,none⟩=some (.int .i64 n)∧x.cell? ⟨q,2,none⟩=some (.int .i64 m)∧x.cell? ⟨q,3,none⟩=some (.string t))∧
  (x.cell? ⟨w.heap.size,0,none⟩=some (.int .i64 0)∧x.cell? ⟨w.heap.size,1,none⟩=some (.int .i64 0)∧x.cell? ⟨w.heap.size,2,none⟩=some (.int .i64 0)∧x.cell? ⟨w.heap.size,3,none⟩=some (.string ⟨#[]⟩))∧
  (∀ i,x.frozen? ⟨q,i,none⟩=false)∧(∀ i,x.frozen? ⟨w.heap.size,i,none⟩=false):=by
 refine ⟨⟨?_,?_,?_,?_⟩,⟨?_,?_,?_,?_⟩,fun i=>Ko _ _ _ _ _ h.op,fun i=>Ko _ _ _ _ _ h.res⟩
 ·rw [K5 _ _ _ _ _ _ h.op]; rfl
 ·rw [K5 _ _ _ _ _ _ h.op]; rfl
 ·rw [K5 _ _ _ _ _ _ h.op]; rfl
 ·rw [K5 _ _ _ _ _ _ h.op]; rfl
 ·rw [K5 _ _ _ _ _ _ h.res]; rfl
 ·rw [K5 _ _ _ _ _ _ h.res]; rfl
 ·rw [K5 _ _ _ _ _ _ h.res]; rfl
 ·rw [K5 _ _ _ _ _ _ h.res]; rfl
theorem jy:(Tryz.prog.info? 134).map (·.size)=some 4:=by kernel_rfl
theorem op_any (r:Nat) (a:Option Addr) (len cap:Nat) (w:World) (hl:len≤1048576) (h:Rd r a len cap w):
  Calls J3 162 #[.pointer (some ⟨r,0,none⟩)] w fun e w'=> ∃ o:dN,o.2.2.2.size≤3∧e= .returned (.agg #[.int .i64 o.1,.int .i64 o.2.1,.int .i64 o.2.2.1,.string o.2.2.2])∧gG r w w'∧Rd r a len cap w':=by
 have HS:Hid (Rd r a len cap w):=h;have rl:=h.lt;clear h
 go_enter Tryz.func162,Tryz.ntmps162
 go_wp2_with fail;refine (dh r a len cap 17 _ hl (by omega) (by omega) (HS.I.below ((Kp _ _).alloc (Ki _) _))).mono ?_;rintro e w1 ⟨v,v0,v1,rfl,hb1,hr1⟩;have hres:w1.heap[w.heap.size]? =some (.cells #[.int .i64 0,.int .i64 0,.int .i64 0,.string ⟨#[]⟩] 134 (0,0)):=(hb1.block _ (by simp) (by omega)).trans (Kj _ _);have pG:Hid (w1.heap[w.heap.size]? =some (.cells #[.int .i64 0,.int .i64 0,.int .i64 0,.string ⟨#[]⟩] 134 (0,0))∧gG r w w1):=⟨hres,((gG.refl _ _).alloc _).trans hb1⟩
 clear hb1 hres;obtain ⟨k,hk⟩: ∃ k:Int,k=1+v:=⟨_,rfl⟩
 have e1:IntKind.i64.wrap (1+v)=k:=by rw [K8,hk]; omega
 have k0:1≤k:=by omega
 have k1:k≤17:=by omega
 have e2:IntKind.i64.wrap k=k:=by rw [K8]; omega
 have e3:wrap64 k=k:=by unfold wrap64; omega
 clear hk;go_wp2_with fail;refine (dh r a len cap 2 _ hl (by omega) (by omega) hr1).mono ?_;rintro e w2 ⟨u,u0,u1,rfl,hb2,hr2⟩;obtain ⟨n,hn⟩: ∃ n:Int,n=1+u:=⟨_,rfl⟩
 have f1:IntKind.i64.wrap (1+u)=n:=by rw [K8,hn]; omega
 have f2:IntKind.i64.wrap n=n:=by rw [K8]; omega
 have f3:wrap64 n=n:=by unfold wrap64; omega
 have H2:Hid (∀ n:Int,fO r a len cap w (w2.alloc (.cells #[.int .i64 k,.int .i64 n,.int .i64 0,.string ⟨#[]⟩] 134)) w2.heap.size k n 0 ⟨#[]⟩):=fun n=>by
  have l1:w.heap.size < w1.heap.size:=(J2.1 pG.I.1).1;have r2:w2.heap[w.heap.size]? =some (.cells #[.int .i64 0,.int .i64 0,.int .i64 0,.string ⟨#[]⟩] 134 (0,0)):=(hb2.block _ l1 (by omega)).trans pG.I.1;have l2:w.heap.size < w2.heap.size:=(J2.1 r2).1;exact ⟨(PU l2).trans r2,Kj _ _,(pG.I.2.trans hb2).alloc _,hr2.below ((Kp _ _).alloc (Ki _) _),HS.I,l2⟩
 clear hn hb2 hr2 hr1 pG;obtain ⟨q,hq⟩: ∃ q,w2.heap.size=q:=⟨_,rfl⟩
 rw [hq] at H2;by_cases c1:k=1∨k=2
 ·rcases c1 with rfl | rfl
  all_goals
   go_wp2_with fail;rw [hq] at *;have H3:=H2.I n;generalize w2.alloc (.cells #[.int .i64 _,.int .i64 n,.int .i64 0,.string ⟨#[]⟩] 134)=X at *;have uL:Hid (fO r a len cap w X q _ n 0 ⟨#[]⟩):=H3;clear H3;refine (dh r a len cap 5 _ hl (by omega) (by omega) uL.I.rd).mono ?_;rintro e w3 ⟨b,b0,b1,rfl,hb3,hr3⟩;obtain ⟨n2,hn2⟩: ∃ n2:Int,n2=1+b:=⟨_,rfl⟩
   have g1:IntKind.i64.wrap (1+b)=n2:=by rw [K8,hn2]; omega
   have g2:IntKind.i64.wrap n2=n2:=by rw [K8]; omega
   have g3:wrap64 n2=n2:=by unfold wrap64; omega
   have H4:Hid (fO r a len cap w w3 q _ n 0 ⟨#[]⟩):=uL.I.move hb3 hr3;have H5:Hid (fO r a len cap w (w3.setCell ⟨q,1,none⟩ (.int .i64 n2)) q _ n2 0 ⟨#[]⟩):=H4.I.set rfl;clear hn2 hb3 hr3 uL;obtain ⟨⟨o0,o1,o2,o3⟩,⟨r0,r1,r2,r3⟩,fD,fB⟩:=H4.I.cells;have q0:=fD 0;have q1:=fD 1;have q2:=fD 2;have q3:=fD 3;have y0:=fB 0;have y1:=fB 1;have y2:=fB 2;have y3:=fB 3;have hlt:=H4.I.lt;have hne:w.heap.size≠q:=by omega
   have mD:q≠w.heap.size:=by omega
   clear fD fB;go_wp2_with fail;clear o0 o1 o2 o3 r0 r1 r2 r3 q0 q1 q2 q3 y0 y1 y2 y3 hlt hne mD;refine (jt r a len cap 60 _ hl (by omega) (by omega) H5.I.rd).mono ?_;rintro e w8 ⟨bb,rfl,Aq,BM⟩;have H8:Hid (fO r a len cap w w8 q _ n2 0 ⟨#[]⟩):=H5.I.move Aq BM;clear Aq BM H5;cases bb with
   | false=>
    obtain ⟨⟨o0,o1,o2,o3⟩,⟨r0,r1,r2,r3⟩,fD,fB⟩:=H8.I.cells;have q0:=fD 0;have q1:=fD 1;have q2:=fD 2;have q3:=fD 3;have y0:=fB 0;have y1:=fB 1;have y2:=fB 2;have y3:=fB 3;have hlt:=H8.I.lt;have hne:w.heap.size≠q:=by omega
    have mD:q≠w.heap.size:=by omega
    clear fD fB;go_wp2;refine KT (K9 La _ _ w.heap.size 134 _ (0,0) _ (by rfl) H8.I.ends.1 Lb rfl jy) rfl ?_;exact ⟨(_,n2,0,⟨#[]⟩),Ky _,rfl,H8.I.ends.2.1,H8.I.ends.2.2⟩
   | true=>
    go_wp2_with fail;refine (pj r a len cap (-1) 9 _ hl (by omega) (by omega) (by omega) H8.I.rd).mono ?_;rintro e w9 ⟨mm,rfl,kN,zT⟩;have H9:Hid (fO r a len cap w w9 q _ n2 0 ⟨#[]⟩):=H8.I.move kN zT;have HA:Hid (fO r a len cap w (w9.setCell ⟨q,2,none⟩ (.int .i64 mm)) q _ n2 mm ⟨#[]⟩):=H9.I.set rfl;clear kN zT H8;obtain ⟨⟨o0,o1,o2,o3⟩,⟨r0,r1,r2,r3⟩,fD,fB⟩:=H9.I.cells;have q0:=fD 0;have q1:=fD 1;have q2:=fD 2;have q3:=fD 3;have y0:=fB 0;have y1:=fB 1;have y2:=fB 2;have y3:=fB 3;have hlt:=H9.I.lt;have hne:w.heap.size≠q:=by omega
    have mD:q≠w.heap.size:=by omega
    clear fD fB;go_wp2;refine KT (K9 La _ _ w.heap.size 134 _ (0,0) _ (by rfl) HA.I.ends.1 Lb rfl jy) rfl ?_;exact ⟨(_,n2,mm,⟨#[]⟩),Ky _,rfl,HA.I.ends.2.1,HA.I.ends.2.2⟩
 by_cases c2:k=3∨k=7∨k=9∨k=12
 ·rcases c2 with rfl | rfl | rfl | rfl
  all_goals
   go_wp2_with fail;rw [hq] at *;have H3:=H2.I n;generalize w2.alloc (.cells #[.int .i64 _,.int .i64 n,.int .i64 0,.string ⟨#[]⟩] 134)=X at *;have uL:Hid (fO r a len cap w X q _ n 0 ⟨#[]⟩):=H3;clear H3;refine (B5 r a len cap _ hl uL.I.rd).mono ?_;rintro e w3 ⟨b,rfl,hb3,hr3⟩;have H4:Hid (fO r a len cap w w3 q _ n 0 ⟨#[]⟩):=uL.I.move hb3 hr3;have H5:Hid (fO r a len cap w (w3.setCell ⟨q,2,none⟩ (.int .i64 b)) q _ n b ⟨#[]⟩):=H4.I.set rfl;clear hb3 hr3 uL;obtain ⟨⟨o0,o1,o2,o3⟩,⟨r0,r1,r2,r3⟩,fD,fB⟩:=H4.I.cells;have q0:=fD 0;have q1:=fD 1;have q2:=fD 2;have q3:=fD 3;have y0:=fB 0;have y1:=fB 1;have y2:=fB 2;have y3:=fB 3;have hlt:=H4.I.lt;have hne:w.heap.size≠q:=by omega
   have mD:q≠w.heap.size:=by omega
   clear fD fB;go_wp2_with fail;clear o0 o1 o2 o3 r0 r1 r2 r3 q0 q1 q2 q3 y0 y1 y2 y3 hlt hne mD;refine (jt r a len cap 60 _ hl (by omega) (by omega) H5.I.rd).mono ?_;rintro e w8 ⟨bb,rfl,Aq,BM⟩;have H8:Hid (fO r a len cap w w8 q _ n b ⟨#[]⟩):=H5.I.move Aq BM;clear Aq BM H5;cases bb with
   | false=>
    obtain ⟨⟨o0,o1,o2,o3⟩,⟨r0,r1,r2,r3⟩,fD,fB⟩:=H8.I.cells;have q0:=fD 0;have q1:=fD 1;have q2:=fD 2;have q3:=fD 3;have y0:=fB 0;have y1:=fB 1;have y2:=fB 2;have y3:=fB 3;have hlt:=H8.I.lt;have hne:w.heap.size≠q:=by omega
    have mD:q≠w.heap.size:=by omega
    clear fD fB;go_wp2;refine KT (K9 La _ _ w.heap.size 134 _ (0,0) _ (by rfl) H8.I.ends.1 Lb rfl jy) rfl ?_;exact ⟨(_,n,b,⟨#[]⟩),Ky _,rfl,H8.I.ends.2.1,H8.I.ends.2.2⟩
   | true=>
    go_wp2_with fail;refine (pj r a len cap (-1) 9 _ hl (by omega) (by omega) (by omega) H8.I.rd).mono ?_;rintro e w9 ⟨mm,rfl,kN,zT⟩;have H9:Hid (fO r a len cap w w9 q _ n b ⟨#[]⟩):=H8.I.move kN zT;have HA:Hid (fO r a len cap w (w9.setCell ⟨q,2,none⟩ (.int .i64 mm)) q _ n mm ⟨#[]⟩):=H9.I.set rfl;clear kN zT H8;obtain ⟨⟨o0,o1,o2,o3⟩,⟨r0,r1,r2,r3⟩,fD,fB⟩:=H9.I.cells;have q0:=fD 0;have q1:=fD 1;have q2:=fD 2;have q3:=fD 3;have y0:=fB 0;have y1:=fB 1;have y2:=fB 2;have y3:=fB 3;have hlt:=H9.I.lt;have hne:w.heap.size≠q:=by omega
    have mD:q≠w.heap.size:=by omega
    clear fD fB;go_wp2;refine KT (K9 La _ _ w.heap.size 134 _ (0,0) _ (by rfl) HA.I.ends.1 Lb rfl jy) rfl ?_;exact ⟨(_,n,mm,⟨#[]⟩),Ky _,rfl,HA.I.ends.2.1,HA.I.ends.2.2⟩
 by_cases c3:k=8
 ·subst c3
  go_wp2_with fail;rw [hq] at *;have H3:=H2.I n;generalize w2.alloc (.cells #[.int .i64 _,.int .i64 n,.int .i64 0,.string ⟨#[]⟩] 134)=X at *;have uL:Hid (fO r a len cap w X q _ n 0 ⟨#[]⟩):=H3;clear H3;refine (B5 r a len cap _ hl uL.I.rd).mono ?_;rintro e w3 ⟨b,rfl,hb3,hr3⟩;have H4:Hid (fO r a len cap w w3 q _ n 0 ⟨#[]⟩):=uL.I.move hb3 hr3;have H5:Hid (fO r a len cap w (w3.setCell ⟨q,2,none⟩ (.int .i64 b)) q _ n b ⟨#[]⟩):=H4.I.set rfl;clear hb3 hr3 uL;obtain ⟨⟨o0,o1,o2,o3⟩,⟨r0,r1,r2,r3⟩,fD,fB⟩:=H4.I.cells;have q0:=fD 0;have q1:=fD 1;have q2:=fD 2;have q3:=fD 3;have y0:=fB 0;have y1:=fB 1;have y2:=fB 2;have y3:=fB 3;have hlt:=H4.I.lt;have hne:w.heap.size≠q:=by omega
  have mD:q≠w.heap.size:=by omega
  clear fD fB;go_wp2_with fail;clear o0 o1 o2 o3 r0 r1 r2 r3 q0 q1 q2 q3 y0 y1 y2 y3 hlt hne mD;generalize w3.setCell ⟨q,2,none⟩ (.int .i64 b)=X3 at *;refine (B0 r a len cap _ hl H5.I.rd).mono ?_;rintro e w4 ⟨tx,htx,rfl,hb4,hr4⟩;have H6:Hid (fO r a len cap w w4 q _ n b ⟨#[]⟩):=H5.I.move hb4 hr4;have H7:Hid (fO r a len cap w (w4.setCell ⟨q,3,none⟩ (.string tx)) q _ n b tx):=H6.I.set rfl;clear hb4 hr4 H5;obtain ⟨⟨o0,o1,o2,o3⟩,⟨r0,r1,r2,r3⟩,fD,fB⟩:=H6.I.cells;have q0:=fD 0;have q1:=fD 1;have q2:=fD 2;have q3:=fD 3;have y0:=fB 0;have y1:=fB 1;have y2:=fB 2;have y3:=fB 3;have hlt:=H6.I.lt;have hne:w.heap.size≠q:=by omega
  have mD:q≠w.heap.size:=by omega
  clear fD fB;go_wp2_with fail;clear o0 o1 o2 o3 r0 r1 r2 r3 q0 q1 q2 q3 y0 y1 y2 y3 hlt hne mD;refine (jt r a len cap 60 _ hl (by omega) (by omega) H7.I.rd).mono ?_;rintro e w8 ⟨bb,rfl,Aq,BM⟩;have H8:Hid (fO r a len cap w w8 q _ n b tx):=H7.I.move Aq BM;clear Aq BM H7;cases bb with
  | false=>
   obtain ⟨⟨o0,o1,o2,o3⟩,⟨r0,r1,r2,r3⟩,fD,fB⟩:=H8.I.cells;have q0:=fD 0;have q1:=fD 1;have q2:=fD 2;have q3:=fD 3;have y0:=fB 0;have y1:=fB 1;have y2:=fB 2;have y3:=fB 3;have hlt:=H8.I.lt;have hne:w.heap.size≠q:=by omega
   have mD:q≠w.heap.size:=by omega
   clear fD fB;go_wp2;refine KT (K9 La _ _ w.heap.size 134 _ (0,0) _ (by rfl) H8.I.ends.1 Lb rfl jy) rfl ?_;exact ⟨(_,n,b,tx),htx,rfl,H8.I.ends.2.1,H8.I.ends.2.2⟩
  | true=>
   go_wp2_with fail;refine (pj r a len cap (-1) 9 _ hl (by omega) (by omega) (by omega) H8.I.rd).mono ?_;rintro e w9 ⟨mm,rfl,kN,zT⟩;have H9:Hid (fO r a len cap w w9 q _ n b tx):=H8.I.move kN zT;have HA:Hid (fO r a len cap w (w9.setCell ⟨q,2,none⟩ (.int .i64 mm)) q _ n mm tx):=H9.I.set rfl;clear kN zT H8;obtain ⟨⟨o0,o1,o2,o3⟩,⟨r0,r1,r2,r3⟩,fD,fB⟩:=H9.I.cells;have q0:=fD 0;have q1:=fD 1;have q2:=fD 2;have q3:=fD 3;have y0:=fB 0;have y1:=fB 1;have y2:=fB 2;have y3:=fB 3;have hlt:=H9.I.lt;have hne:w.heap.size≠q:=by omega
   have mD:q≠w.heap.size:=by omega
   clear fD fB;go_wp2;refine KT (K9 La _ _ w.heap.size 134 _ (0,0) _ (by rfl) HA.I.ends.1 Lb rfl jy) rfl ?_;exact ⟨(_,n,mm,tx),htx,rfl,HA.I.ends.2.1,HA.I.ends.2.2⟩
 by_cases c4:k=10∨k=13
 ·rcases c4 with rfl | rfl
  all_goals
   go_wp2_with fail;rw [hq] at *;have H3:=H2.I n;generalize w2.alloc (.cells #[.int .i64 _,.int .i64 n,.int .i64 0,.string ⟨#[]⟩] 134)=X at *;have uL:Hid (fO r a len cap w X q _ n 0 ⟨#[]⟩):=H3;clear H3;refine (B0 r a len cap _ hl uL.I.rd).mono ?_;rintro e w4 ⟨tx,htx,rfl,hb4,hr4⟩;have H6:Hid (fO r a len cap w w4 q _ n 0 ⟨#[]⟩):=uL.I.move hb4 hr4;have H7:Hid (fO r a len cap w (w4.setCell ⟨q,3,none⟩ (.string tx)) q _ n 0 tx):=H6.I.set rfl;clear hb4 hr4 uL;obtain ⟨⟨o0,o1,o2,o3⟩,⟨r0,r1,r2,r3⟩,fD,fB⟩:=H6.I.cells;have q0:=fD 0;have q1:=fD 1;have q2:=fD 2;have q3:=fD 3;have y0:=fB 0;have y1:=fB 1;have y2:=fB 2;have y3:=fB 3;have hlt:=H6.I.lt;have hne:w.heap.size≠q:=by omega
   have mD:q≠w.heap.size:=by omega
   clear fD fB;go_wp2_with fail;clear o0 o1 o2 o3 r0 r1 r2 r3 q0 q1 q2 q3 y0 y1 y2 y3 hlt hne mD;refine (jt r a len cap 60 _ hl (by omega) (by omega) H7.I.rd).mono ?_;rintro e w8 ⟨bb,rfl,Aq,BM⟩;have H8:Hid (fO r a len cap w w8 q _ n 0 tx):=H7.I.move Aq BM;clear Aq BM H7;cases bb with
   | false=>
    obtain ⟨⟨o0,o1,o2,o3⟩,⟨r0,r1,r2,r3⟩,fD,fB⟩:=H8.I.cells;have q0:=fD 0;have q1:=fD 1;have q2:=fD 2;have q3:=fD 3;have y0:=fB 0;have y1:=fB 1;have y2:=fB 2;have y3:=fB 3;have hlt:=H8.I.lt;have hne:w.heap.size≠q:=by omega
    have mD:q≠w.heap.size:=by omega
    clear fD fB;go_wp2;refine KT (K9 La _ _ w.heap.size 134 _ (0,0) _ (by rfl) H8.I.ends.1 Lb rfl jy) rfl ?_;exact ⟨(_,n,0,tx),htx,rfl,H8.I.ends.2.1,H8.I.ends.2.2⟩
   | true=>
    go_wp2_with fail;refine (pj r a len cap (-1) 9 _ hl (by omega) (by omega) (by omega) H8.I.rd).mono ?_;rintro e w9 ⟨mm,rfl,kN,zT⟩;have H9:Hid (fO r a len cap w w9 q _ n 0 tx):=H8.I.move kN zT;have HA:Hid (fO r a len cap w (w9.setCell ⟨q,2,none⟩ (.int .i64 mm)) q _ n mm tx):=H9.I.set rfl;clear kN zT H8;obtain ⟨⟨o0,o1,o2,o3⟩,⟨r0,r1,r2,r3⟩,fD,fB⟩:=H9.I.cells;have q0:=fD 0;have q1:=fD 1;have q2:=fD 2;have q3:=fD 3;have y0:=fB 0;have y1:=fB 1;have y2:=fB 2;have y3:=fB 3;have hlt:=H9.I.lt;have hne:w.heap.size≠q:=by omega
    have mD:q≠w.heap.size:=by omega
    clear fD fB;go_wp2;refine KT (K9 La _ _ w.heap.size 134 _ (0,0) _ (by rfl) HA.I.ends.1 Lb rfl jy) rfl ?_;exact ⟨(_,n,mm,tx),htx,rfl,HA.I.ends.2.1,HA.I.ends.2.2⟩
 by_cases c5:k=17
 ·subst c5
  go_wp2_with fail;rw [hq] at *;have H3:=H2.I 0;generalize w2.alloc (.cells #[.int .i64 _,.int .i64 0,.int .i64 0,.string ⟨#[]⟩] 134)=X at *;have uL:Hid (fO r a len cap w X q _ 0 0 ⟨#[]⟩):=H3;clear H3;refine (jt r a len cap 60 _ hl (by omega) (by omega) uL.I.rd).mono ?_;rintro e w8 ⟨bb,rfl,Aq,BM⟩;have H8:Hid (fO r a len cap w w8 q _ 0 0 ⟨#[]⟩):=uL.I.move Aq BM;clear Aq BM uL;cases bb with
  | false=>
   obtain ⟨⟨o0,o1,o2,o3⟩,⟨r0,r1,r2,r3⟩,fD,fB⟩:=H8.I.cells;have q0:=fD 0;have q1:=fD 1;have q2:=fD 2;have q3:=fD 3;have y0:=fB 0;have y1:=fB 1;have y2:=fB 2;have y3:=fB 3;have hlt:=H8.I.lt;have hne:w.heap.size≠q:=by omega
   have mD:q≠w.heap.size:=by omega
   clear fD fB;go_wp2;refine KT (K9 La _ _ w.heap.size 134 _ (0,0) _ (by rfl) H8.I.ends.1 Lb rfl jy) rfl ?_;exact ⟨(_,0,0,⟨#[]⟩),Ky _,rfl,H8.I.ends.2.1,H8.I.ends.2.2⟩
  | true=>
   go_wp2_with fail;refine (pj r a len cap (-1) 9 _ hl (by omega) (by omega) (by omega) H8.I.rd).mono ?_;rintro e w9 ⟨mm,rfl,kN,zT⟩;have H9:Hid (fO r a len cap w w9 q _ 0 0 ⟨#[]⟩):=H8.I.move kN zT;have HA:Hid (fO r a len cap w (w9.setCell ⟨q,2,none⟩ (.int .i64 mm)) q _ 0 mm ⟨#[]⟩):=H9.I.set rfl;clear kN zT H8;obtain ⟨⟨o0,o1,o2,o3⟩,⟨r0,r1,r2,r3⟩,fD,fB⟩:=H9.I.cells;have q0:=fD 0;have q1:=fD 1;have q2:=fD 2;have q3:=fD 3;have y0:=fB 0;have y1:=fB 1;have y2:=fB 2;have y3:=fB 3;have hlt:=H9.I.lt;have hne:w.heap.size≠q:=by omega
   have mD:q≠w.heap.size:=by omega
   clear fD fB;go_wp2;refine KT (K9 La _ _ w.heap.size 134 _ (0,0) _ (by rfl) HA.I.ends.1 Lb rfl jy) rfl ?_;exact ⟨(_,0,mm,⟨#[]⟩),Ky _,rfl,HA.I.ends.2.1,HA.I.ends.2.2⟩
 have d1:(k == 1)=false:=by simp; omega
 have d2:(k == 2)=false:=by simp; omega
 have d3:(k == 3)=false:=by simp; omega
 have d7:(k == 7)=false:=by simp; omega
 have d9:(k == 9)=false:=by simp; omega
 have d12:(k == 12)=false:=by simp; omega
 have d8:(k == 8)=false:=by simp; omega
 have tH:(k == 10)=false:=by simp; omega
 have d13:(k == 13)=false:=by simp; omega
 have d17:(k == 17)=false:=by simp; omega
 clear c1 c2 c3 c4 c5;go_wp2_with fail;rw [hq] at *;have H3:=H2.I n;generalize w2.alloc (.cells #[.int .i64 _,.int .i64 n,.int .i64 0,.string ⟨#[]⟩] 134)=X at *;have uL:Hid (fO r a len cap w X q _ n 0 ⟨#[]⟩):=H3;clear H3;refine (jt r a len cap 60 _ hl (by omega) (by omega) uL.I.rd).mono ?_;rintro e w8 ⟨bb,rfl,Aq,BM⟩;have H8:Hid (fO r a len cap w w8 q _ n 0 ⟨#[]⟩):=uL.I.move Aq BM;clear Aq BM uL;cases bb with
 | false=>
  obtain ⟨⟨o0,o1,o2,o3⟩,⟨r0,r1,r2,r3⟩,fD,fB⟩:=H8.I.cells;have q0:=fD 0;have q1:=fD 1;have q2:=fD 2;have q3:=fD 3;have y0:=fB 0;have y1:=fB 1;have y2:=fB 2;have y3:=fB 3;have hlt:=H8.I.lt;have hne:w.heap.size≠q:=by omega
  have mD:q≠w.heap.size:=by omega
  clear fD fB;go_wp2;refine KT (K9 La _ _ w.heap.size 134 _ (0,0) _ (by rfl) H8.I.ends.1 Lb rfl jy) rfl ?_;exact ⟨(_,n,0,⟨#[]⟩),Ky _,rfl,H8.I.ends.2.1,H8.I.ends.2.2⟩
 | true=>
  go_wp2_with fail;refine (pj r a len cap (-1) 9 _ hl (by omega) (by omega) (by omega) H8.I.rd).mono ?_;rintro e w9 ⟨mm,rfl,kN,zT⟩;have H9:Hid (fO r a len cap w w9 q _ n 0 ⟨#[]⟩):=H8.I.move kN zT;have HA:Hid (fO r a len cap w (w9.setCell ⟨q,2,none⟩ (.int .i64 mm)) q _ n mm ⟨#[]⟩):=H9.I.set rfl;clear kN zT H8;obtain ⟨⟨o0,o1,o2,o3⟩,⟨r0,r1,r2,r3⟩,fD,fB⟩:=H9.I.cells;have q0:=fD 0;have q1:=fD 1;have q2:=fD 2;have q3:=fD 3;have y0:=fB 0;have y1:=fB 1;have y2:=fB 2;have y3:=fB 3;have hlt:=H9.I.lt;have hne:w.heap.size≠q:=by omega
  have mD:q≠w.heap.size:=by omega
  clear fD fB;go_wp2;refine KT (K9 La _ _ w.heap.size 134 _ (0,0) _ (by rfl) HA.I.ends.1 Lb rfl jy) rfl ?_;exact ⟨(_,n,mm,⟨#[]⟩),Ky _,rfl,HA.I.ends.2.1,HA.I.ends.2.2⟩
end Go.Proofs.YtkbcplnlehdjfaaGreat

namespace Go.Proofs.YtkbcplnlehdjfaaGreat
open Go.RowKit
structure Px (w:World) (k n m:Int) (s:ByteArray) (W:World):Prop where
 box:W.heap[w.heap.size]? =some (.cells #[.int .i64 k,.int .i64 n,.int .i64 m,.string s] 134 (0,0))
 low:Below w.heap.size w W
section
variable {w W W2:World} {k n m:Int} {s:ByteArray}
theorem Px.below (h:Px w k n m s W) (hb:Below W.heap.size W W2):Px w k n m s W2:=⟨(hb.block _ (J2.1 h.box).1).trans h.box,h.low.trans (hb.mono h.low.size)⟩
theorem Px.cells (h:Px w k n m s W):W.cell? ⟨w.heap.size,0,none⟩=some (.int .i64 k)∧W.cell? ⟨w.heap.size,1,none⟩=some (.int .i64 n)∧W.cell? ⟨w.heap.size,2,none⟩=some (.int .i64 m)∧W.cell? ⟨w.heap.size,3,none⟩=some (.string s):=by
 simp [World.cell?,h.box]
end
theorem PD (k n m:Int) (s:ByteArray) (w:World) (hk:k=1∨k=2∨k=4∨k=5∨k=6∨k=11∨k=14∨k=15∨k=16) (h1:1≤n∧n≤1000):
  Calls J3 212 #[.agg #[.int .i64 k,.int .i64 n,.int .i64 m,.string s]] w fun e w'=>e= .returned (.string (MF k n m s))∧Below w.heap.size w w':=by
 have HT:Hid (MF k n m s=ME k ++ ⟨#[32]⟩ ++ Ij n):=by
  show _=_
  rcases hk with rfl | rfl | rfl | rfl | rfl | rfl | rfl | rfl | rfl <;> rfl
 have k0:0≤k:=by omega
 have k1:k < 18:=by omega
 have HK:Hid (k≤17∧((k.toNat:Nat):Int)=k):=⟨by omega,by omega⟩
 have z0:=MH k;generalize hN:ME k=N at *;have M9:Hid (ME k=N):=hN;clear hN;have z1:=MD (n:=n) (by omega) (by omega);have q0: ¬ 9223372036854775807 < N.size+1:=by omega
 have q1: ¬ 9223372036854775807 < N.size+1+(Ij n).size:=by omega
 have HN:Hid (-9999999999≤n∧n≤9999999999):=⟨by omega,by omega⟩
 have PH:(k == 17)=false:=by simp; omega
 have e3:(k == 3)=false:=by simp; omega
 have e7:(k == 7)=false:=by simp; omega
 have e9:(k == 9)=false:=by simp; omega
 have PF:(k == 12)=false:=by simp; omega
 have e8:(k == 8)=false:=by simp; omega
 have Pn:(k == 10)=false:=by simp; omega
 have PG:(k == 13)=false:=by simp; omega
 have S:Hid (Px w k n m s (w.alloc (.cells #[.int .i64 k,.int .i64 n,.int .i64 m,.string s] 134))):=⟨Kj _ _,(Kp _ _).alloc (Ki _) _⟩
 clear hk z0 z1 h1
 go_enter Rw,Rx
 go_upto_region 1 with fail;generalize w.alloc (.cells #[.int .i64 k,.int .i64 n,.int .i64 m,.string s] 134)=A at *;replace S:Hid (Px w k n m s _):=S.I.below (Kp _ _).drew;refine Kr (S:=fun W=>Px w k n m s W) (by kernel_rfl) S.I (fun _=> ?_);generalize World.drew _=V at *;refine tt 1 S.I ?_ (hy:=fun w0 hS0=>by obtain ⟨b0,-⟩:=hS0.cells; go_simp; try with_reducible rfl);refine tt 2 S.I ?_ (hy:=fun w0 hS0=>by obtain ⟨b0,-⟩:=hS0.cells; go_simp; try with_reducible rfl);refine L7 0 (fun K hK=> ?_);go_wp2_with fail;refine (MG V).mono ?_;rintro e W1 ⟨rfl,hn,hb⟩;have n0:W1.cell? ⟨V.heap.size,k.toNat,none⟩=some (.string N):=by have:=hn.2 k.toNat (by have:=HK.I; omega); rw [HK.I.2,M9.I] at this; exact this
 replace S:Hid (Px w k n m s _):=S.I.below hb;clear hb hn;refine hK.out _ _ S.I (fun _=> ?_);clear hK K
 try simp only [pt,sb,s0,s1]
 refine tt 3 S.I ?_;refine L7 4 (fun K hK=> ?_);go_wp2;refine hK.out _ _ S.I (fun _=> ?_);clear hK K n0
 try simp only [pt,sb,s0,s1]
 refine tt 5 S.I ?_;refine K3 (by kernel_rfl) ?_ _;obtain ⟨b0,b1,b2,b3⟩:=S.I.cells;go_wp2_with fail;refine (MC n HN.I.1 HN.I.2 _).mono ?_;rintro e W2 ⟨rfl,hb⟩;replace S:Hid (Px w k n m s _):=S.I.below hb;clear hb b0 b1 b2 b3;obtain ⟨b0,b1,b2,b3⟩:=S.I.cells;go_wp2;go_ret;exact ⟨by rw [HT.I]; rfl,S.I.low⟩
theorem PB (k n m:Int) (s:ByteArray) (w:World) (hk:k=3∨k=7∨k=9∨k=12) (h1:1≤n∧n≤1000) (h2: -1≤m∧m≤1000):
  Calls J3 212 #[.agg #[.int .i64 k,.int .i64 n,.int .i64 m,.string s]] w fun e w'=>e= .returned (.string (MF k n m s))∧Below w.heap.size w w':=by
 have HT:Hid (MF k n m s=ME k ++ ⟨#[32]⟩ ++ Ij n ++ ⟨#[32]⟩ ++ Ij m):=by
  show _=_
  rcases hk with rfl | rfl | rfl | rfl <;> rfl
 have k0:0≤k:=by omega
 have k1:k < 18:=by omega
 have HK:Hid (k≤17∧((k.toNat:Nat):Int)=k):=⟨by omega,by omega⟩
 have z0:=MH k;generalize hN:ME k=N at *;have M9:Hid (ME k=N):=hN;clear hN;have z1:=MD (n:=n) (by omega) (by omega);have z2:=MD (n:=m) (by omega) (by omega);have q0: ¬ 9223372036854775807 < N.size+1:=by omega
 have q1: ¬ 9223372036854775807 < N.size+1+(Ij n).size:=by omega
 have q2: ¬ 9223372036854775807 < N.size+1+(Ij n).size+1:=by omega
 have q3: ¬ 9223372036854775807 < N.size+1+(Ij n).size+1+(Ij m).size:=by omega
 have HN:Hid (-9999999999≤n∧n≤9999999999):=⟨by omega,by omega⟩
 have HM:Hid (-9999999999≤m∧m≤9999999999):=⟨by omega,by omega⟩
 have PH:(k == 17)=false:=by simp; omega
 have e8:(k == 8)=false:=by simp; omega
 have Pn:(k == 10)=false:=by simp; omega
 have PG:(k == 13)=false:=by simp; omega
 have S:Hid (Px w k n m s (w.alloc (.cells #[.int .i64 k,.int .i64 n,.int .i64 m,.string s] 134))):=⟨Kj _ _,(Kp _ _).alloc (Ki _) _⟩
 have HKK:Hid _:=hk;clear hk z0 z1 h1 z2 h2
 go_enter Rw,Rx
 go_upto_region 1 with fail;generalize w.alloc (.cells #[.int .i64 k,.int .i64 n,.int .i64 m,.string s] 134)=A at *;replace S:Hid (Px w k n m s _):=S.I.below (Kp _ _).drew;refine Kr (S:=fun W=>Px w k n m s W) (by kernel_rfl) S.I (fun _=> ?_);generalize World.drew _=V at *;refine tt 1 S.I ?_ (hy:=fun w0 hS0=>by obtain ⟨b0,-⟩:=hS0.cells; go_simp; try with_reducible rfl);refine tt 2 S.I ?_ (hy:=fun w0 hS0=>by obtain ⟨b0,-⟩:=hS0.cells; go_simp; try with_reducible rfl);refine L7 0 (fun K hK=> ?_);go_wp2_with fail;refine (MG V).mono ?_;rintro e W1 ⟨rfl,hn,hb⟩;have n0:W1.cell? ⟨V.heap.size,k.toNat,none⟩=some (.string N):=by have:=hn.2 k.toNat (by have:=HK.I; omega); rw [HK.I.2,M9.I] at this; exact this
 replace S:Hid (Px w k n m s _):=S.I.below hb;clear hb hn;refine hK.out _ _ S.I (fun _=> ?_);clear hK K
 try simp only [pt,sb,s0,s1]
 refine tt 3 S.I ?_;refine L7 4 (fun K hK=> ?_);go_wp2;refine hK.out _ _ S.I (fun _=> ?_);clear hK K n0
 try simp only [pt,sb,s0,s1]
 refine tt 5 S.I ?_;refine K3 (by kernel_rfl) ?_ _;obtain ⟨b0,b1,b2,b3⟩:=S.I.cells;go_wp2_with fail;refine (MC n HN.I.1 HN.I.2 _).mono ?_;rintro e W2 ⟨rfl,hb⟩;replace S:Hid (Px w k n m s _):=S.I.below hb;clear hb b0 b1 b2 b3;obtain ⟨b0,b1,b2,b3⟩:=S.I.cells;rcases HKK.I with hk | hk | hk | hk
 ·skip
  have e3:(k == 3)=true:=by simp [hk]
  have e7:(k == 7)=false:=by simp [hk]
  have e9:(k == 9)=false:=by simp [hk]
  have PF:(k == 12)=false:=by simp [hk]
  clear hk;go_wp2_with fail;refine (MC m HM.I.1 HM.I.2 _).mono ?_;rintro e W3 ⟨rfl,hb⟩;replace S:Hid (Px w k n m s _):=S.I.below hb;clear hb b0 b1 b2 b3;go_wp2;go_ret;exact ⟨by rw [HT.I]; rfl,S.I.low⟩
 ·skip
  have e3:(k == 3)=false:=by simp [hk]
  have e7:(k == 7)=true:=by simp [hk]
  have e9:(k == 9)=false:=by simp [hk]
  have PF:(k == 12)=false:=by simp [hk]
  clear hk;go_wp2_with fail;refine (MC m HM.I.1 HM.I.2 _).mono ?_;rintro e W3 ⟨rfl,hb⟩;replace S:Hid (Px w k n m s _):=S.I.below hb;clear hb b0 b1 b2 b3;go_wp2;go_ret;exact ⟨by rw [HT.I]; rfl,S.I.low⟩
 ·skip
  have e3:(k == 3)=false:=by simp [hk]
  have e7:(k == 7)=false:=by simp [hk]
  have e9:(k == 9)=true:=by simp [hk]
  have PF:(k == 12)=false:=by simp [hk]
  clear hk;go_wp2_with fail;refine (MC m HM.I.1 HM.I.2 _).mono ?_;rintro e W3 ⟨rfl,hb⟩;replace S:Hid (Px w k n m s _):=S.I.below hb;clear hb b0 b1 b2 b3;go_wp2;go_ret;exact ⟨by rw [HT.I]; rfl,S.I.low⟩
 ·skip
  have e3:(k == 3)=false:=by simp [hk]
  have e7:(k == 7)=false:=by simp [hk]
  have e9:(k == 9)=false:=by simp [hk]
  have PF:(k == 12)=true:=by simp [hk]
  clear hk;go_wp2_with fail;refine (MC m HM.I.1 HM.I.2 _).mono ?_;rintro e W3 ⟨rfl,hb⟩;replace S:Hid (Px w k n m s _):=S.I.below hb;clear hb b0 b1 b2 b3;go_wp2;go_ret;exact ⟨by rw [HT.I]; rfl,S.I.low⟩
theorem Py (k n m:Int) (s:ByteArray) (w:World) (hk:k=8) (h1:1≤n∧n≤1000) (h2: -1≤m∧m≤1000) (h3:s.size≤20):
  Calls J3 212 #[.agg #[.int .i64 k,.int .i64 n,.int .i64 m,.string s]] w fun e w'=>e= .returned (.string (MF k n m s))∧Below w.heap.size w w':=by
 have HT:Hid (MF k n m s=ME k ++ ⟨#[32]⟩ ++ Ij n ++ ⟨#[32]⟩ ++ Ij m ++ ⟨#[32]⟩ ++ s):=by
  show _=_
  subst hk; rfl
 have k0:0≤k:=by omega
 have k1:k < 18:=by omega
 have HK:Hid (k≤17∧((k.toNat:Nat):Int)=k):=⟨by omega,by omega⟩
 have z0:=MH k;generalize hN:ME k=N at *;have M9:Hid (ME k=N):=hN;clear hN;have z1:=MD (n:=n) (by omega) (by omega);have z2:=MD (n:=m) (by omega) (by omega);have q0: ¬ 9223372036854775807 < N.size+1:=by omega
 have q1: ¬ 9223372036854775807 < N.size+1+(Ij n).size:=by omega
 have q2: ¬ 9223372036854775807 < N.size+1+(Ij n).size+1:=by omega
 have q3: ¬ 9223372036854775807 < N.size+1+(Ij n).size+1+(Ij m).size:=by omega
 have q4: ¬ 9223372036854775807 < N.size+1+(Ij n).size+1+(Ij m).size+1:=by omega
 have q5: ¬ 9223372036854775807 < N.size+1+(Ij n).size+1+(Ij m).size+1+s.size:=by omega
 have HN:Hid (-9999999999≤n∧n≤9999999999):=⟨by omega,by omega⟩
 have HM:Hid (-9999999999≤m∧m≤9999999999):=⟨by omega,by omega⟩
 have PH:(k == 17)=false:=by simp; omega
 have e3:(k == 3)=false:=by simp; omega
 have e7:(k == 7)=false:=by simp; omega
 have e9:(k == 9)=false:=by simp; omega
 have PF:(k == 12)=false:=by simp; omega
 have e8:(k == 8)=true:=by simp [hk]
 have Pn:(k == 10)=false:=by simp; omega
 have PG:(k == 13)=false:=by simp; omega
 have S:Hid (Px w k n m s (w.alloc (.cells #[.int .i64 k,.int .i64 n,.int .i64 m,.string s] 134))):=⟨Kj _ _,(Kp _ _).alloc (Ki _) _⟩
 clear hk z0 z1 h1 z2 h2 h3
 go_enter Rw,Rx
 go_upto_region 1 with fail;generalize w.alloc (.cells #[.int .i64 k,.int .i64 n,.int .i64 m,.string s] 134)=A at *;replace S:Hid (Px w k n m s _):=S.I.below (Kp _ _).drew;refine Kr (S:=fun W=>Px w k n m s W) (by kernel_rfl) S.I (fun _=> ?_);generalize World.drew _=V at *;refine tt 1 S.I ?_ (hy:=fun w0 hS0=>by obtain ⟨b0,-⟩:=hS0.cells; go_simp; try with_reducible rfl);refine tt 2 S.I ?_ (hy:=fun w0 hS0=>by obtain ⟨b0,-⟩:=hS0.cells; go_simp; try with_reducible rfl);refine L7 0 (fun K hK=> ?_);go_wp2_with fail;refine (MG V).mono ?_;rintro e W1 ⟨rfl,hn,hb⟩;have n0:W1.cell? ⟨V.heap.size,k.toNat,none⟩=some (.string N):=by have:=hn.2 k.toNat (by have:=HK.I; omega); rw [HK.I.2,M9.I] at this; exact this
 replace S:Hid (Px w k n m s _):=S.I.below hb;clear hb hn;refine hK.out _ _ S.I (fun _=> ?_);clear hK K
 try simp only [pt,sb,s0,s1]
 refine tt 3 S.I ?_;refine L7 4 (fun K hK=> ?_);go_wp2;refine hK.out _ _ S.I (fun _=> ?_);clear hK K n0
 try simp only [pt,sb,s0,s1]
 refine tt 5 S.I ?_;refine K3 (by kernel_rfl) ?_ _;obtain ⟨b0,b1,b2,b3⟩:=S.I.cells;go_wp2_with fail;refine (MC n HN.I.1 HN.I.2 _).mono ?_;rintro e W2 ⟨rfl,hb⟩;replace S:Hid (Px w k n m s _):=S.I.below hb;clear hb b0 b1 b2 b3;obtain ⟨b0,b1,b2,b3⟩:=S.I.cells;go_upto_region 12 with fail;replace S:Hid (Px w k n m s _):=S.I.below (Kp _ _).drew;clear b0 b1 b2 b3;refine Kr (S:=fun W=>Px w k n m s W) (by kernel_rfl) S.I (fun _=> ?_);generalize World.drew _=V2 at *;refine tt 0 S.I ?_ (hy:=fun w0 hS0=>by obtain ⟨b0,b1,b2,b3⟩:=hS0.cells; go_simp; try with_reducible rfl);refine tt 1 S.I ?_ (hy:=fun w0 hS0=>by obtain ⟨b0,b1,b2,b3⟩:=hS0.cells; go_simp; try with_reducible rfl);refine tt 2 S.I ?_ (hy:=fun w0 hS0=>by obtain ⟨b0,b1,b2,b3⟩:=hS0.cells; go_simp; try with_reducible rfl);refine tt 3 S.I ?_ (hy:=fun w0 hS0=>by obtain ⟨b0,b1,b2,b3⟩:=hS0.cells; go_simp; try with_reducible rfl);refine tt 7 S.I ?_ (hy:=fun w0 hS0=>by obtain ⟨b0,b1,b2,b3⟩:=hS0.cells; go_simp; try with_reducible rfl);refine tt 8 S.I ?_ (hy:=fun w0 hS0=>by obtain ⟨b0,b1,b2,b3⟩:=hS0.cells; go_simp; try with_reducible rfl);refine L7 4 (fun K hK=> ?_);go_wp2_with fail;refine (MC m HM.I.1 HM.I.2 _).mono ?_;rintro e W3 ⟨rfl,hb⟩;replace S:Hid (Px w k n m s _):=S.I.below hb;clear hb;refine hK.out _ _ S.I (fun _=> ?_);clear hK K
 try simp only [pt,sb,s0,s1]
 refine tt 5 S.I ?_;refine tt 6 S.I ?_;refine tt 9 S.I ?_;refine tt 10 S.I ?_;refine K3 (by kernel_rfl) ?_ _;go_wp2;go_ret;exact ⟨by rw [HT.I]; rfl,S.I.low⟩
theorem Pz (k n m:Int) (s:ByteArray) (w:World) (hk:k=10∨k=13) (h1:1≤n∧n≤1000) (h3:s.size≤20):
  Calls J3 212 #[.agg #[.int .i64 k,.int .i64 n,.int .i64 m,.string s]] w fun e w'=>e= .returned (.string (MF k n m s))∧Below w.heap.size w w':=by
 have HT:Hid (MF k n m s=ME k ++ ⟨#[32]⟩ ++ Ij n ++ ⟨#[32]⟩ ++ s):=by
  show _=_
  rcases hk with rfl | rfl <;> rfl
 have k0:0≤k:=by omega
 have k1:k < 18:=by omega
 have HK:Hid (k≤17∧((k.toNat:Nat):Int)=k):=⟨by omega,by omega⟩
 have z0:=MH k;generalize hN:ME k=N at *;have M9:Hid (ME k=N):=hN;clear hN;have z1:=MD (n:=n) (by omega) (by omega);have q0: ¬ 9223372036854775807 < N.size+1:=by omega
 have q1: ¬ 9223372036854775807 < N.size+1+(Ij n).size:=by omega
 have q2: ¬ 9223372036854775807 < N.size+1+(Ij n).size+1:=by omega
 have q3: ¬ 9223372036854775807 < N.size+1+(Ij n).size+1+s.size:=by omega
 have HN:Hid (-9999999999≤n∧n≤9999999999):=⟨by omega,by omega⟩
 have PH:(k == 17)=false:=by simp; omega
 have e3:(k == 3)=false:=by simp; omega
 have e7:(k == 7)=false:=by simp; omega
 have e9:(k == 9)=false:=by simp; omega
 have PF:(k == 12)=false:=by simp; omega
 have e8:(k == 8)=false:=by simp; omega
 have S:Hid (Px w k n m s (w.alloc (.cells #[.int .i64 k,.int .i64 n,.int .i64 m,.string s] 134))):=⟨Kj _ _,(Kp _ _).alloc (Ki _) _⟩
 have HKK:Hid _:=hk;clear hk z0 z1 h1 h3
 go_enter Rw,Rx
 go_upto_region 1 with fail;generalize w.alloc (.cells #[.int .i64 k,.int .i64 n,.int .i64 m,.string s] 134)=A at *;replace S:Hid (Px w k n m s _):=S.I.below (Kp _ _).drew;refine Kr (S:=fun W=>Px w k n m s W) (by kernel_rfl) S.I (fun _=> ?_);generalize World.drew _=V at *;refine tt 1 S.I ?_ (hy:=fun w0 hS0=>by obtain ⟨b0,-⟩:=hS0.cells; go_simp; try with_reducible rfl);refine tt 2 S.I ?_ (hy:=fun w0 hS0=>by obtain ⟨b0,-⟩:=hS0.cells; go_simp; try with_reducible rfl);refine L7 0 (fun K hK=> ?_);go_wp2_with fail;refine (MG V).mono ?_;rintro e W1 ⟨rfl,hn,hb⟩;have n0:W1.cell? ⟨V.heap.size,k.toNat,none⟩=some (.string N):=by have:=hn.2 k.toNat (by have:=HK.I; omega); rw [HK.I.2,M9.I] at this; exact this
 replace S:Hid (Px w k n m s _):=S.I.below hb;clear hb hn;refine hK.out _ _ S.I (fun _=> ?_);clear hK K
 try simp only [pt,sb,s0,s1]
 refine tt 3 S.I ?_;refine L7 4 (fun K hK=> ?_);go_wp2;refine hK.out _ _ S.I (fun _=> ?_);clear hK K n0
 try simp only [pt,sb,s0,s1]
 refine tt 5 S.I ?_;refine K3 (by kernel_rfl) ?_ _;obtain ⟨b0,b1,b2,b3⟩:=S.I.cells;go_wp2_with fail;refine (MC n HN.I.1 HN.I.2 _).mono ?_;rintro e W2 ⟨rfl,hb⟩;replace S:Hid (Px w k n m s _):=S.I.below hb;clear hb b0 b1 b2 b3;obtain ⟨b0,b1,b2,b3⟩:=S.I.cells;rcases HKK.I with hk | hk
 ·have Pn:(k == 10)=true:=by simp [hk]
  have PG:(k == 13)=false:=by simp [hk]
  clear hk;go_wp2;go_ret;exact ⟨by rw [HT.I]; rfl,S.I.low⟩
 ·have Pn:(k == 10)=false:=by simp [hk]
  have PG:(k == 13)=true:=by simp [hk]
  clear hk;go_wp2;go_ret;exact ⟨by rw [HT.I]; rfl,S.I.low⟩
theorem PA (k n m:Int) (s:ByteArray) (w:World) (hk:k=17):
  Calls J3 212 #[.agg #[.int .i64 k,.int .i64 n,.int .i64 m,.string s]] w fun e w'=>e= .returned (.string (MF k n m s))∧Below w.heap.size w w':=by
 have HT:Hid (MF k n m s=ME k):=by
  show _=_
  subst hk; rfl
 have k0:0≤k:=by omega
 have k1:k < 18:=by omega
 have HK:Hid (k≤17∧((k.toNat:Nat):Int)=k):=⟨by omega,by omega⟩
 have z0:=MH k;generalize hN:ME k=N at *;have M9:Hid (ME k=N):=hN;clear hN;have PH:(k == 17)=true:=by simp [hk]
 have e3:(k == 3)=false:=by simp; omega
 have e7:(k == 7)=false:=by simp; omega
 have e9:(k == 9)=false:=by simp; omega
 have PF:(k == 12)=false:=by simp; omega
 have e8:(k == 8)=false:=by simp; omega
 have Pn:(k == 10)=false:=by simp; omega
 have PG:(k == 13)=false:=by simp; omega
 have S:Hid (Px w k n m s (w.alloc (.cells #[.int .i64 k,.int .i64 n,.int .i64 m,.string s] 134))):=⟨Kj _ _,(Kp _ _).alloc (Ki _) _⟩
 clear hk z0
 go_enter Rw,Rx
 go_upto_region 1 with fail;generalize w.alloc (.cells #[.int .i64 k,.int .i64 n,.int .i64 m,.string s] 134)=A at *;replace S:Hid (Px w k n m s _):=S.I.below (Kp _ _).drew;refine Kr (S:=fun W=>Px w k n m s W) (by kernel_rfl) S.I (fun _=> ?_);generalize World.drew _=V at *;refine tt 1 S.I ?_ (hy:=fun w0 hS0=>by obtain ⟨b0,-⟩:=hS0.cells; go_simp; try with_reducible rfl);refine tt 2 S.I ?_ (hy:=fun w0 hS0=>by obtain ⟨b0,-⟩:=hS0.cells; go_simp; try with_reducible rfl);refine L7 0 (fun K hK=> ?_);go_wp2_with fail;refine (MG V).mono ?_;rintro e W1 ⟨rfl,hn,hb⟩;have n0:W1.cell? ⟨V.heap.size,k.toNat,none⟩=some (.string N):=by have:=hn.2 k.toNat (by have:=HK.I; omega); rw [HK.I.2,M9.I] at this; exact this
 replace S:Hid (Px w k n m s _):=S.I.below hb;clear hb hn;refine hK.out _ _ S.I (fun _=> ?_);clear hK K
 try simp only [pt,sb,s0,s1]
 refine tt 3 S.I ?_;refine L7 4 (fun K hK=> ?_);go_wp2;refine hK.out _ _ S.I (fun _=> ?_);clear hK K n0
 try simp only [pt,sb,s0,s1]
 refine tt 5 S.I ?_;refine K3 (by kernel_rfl) ?_ _;obtain ⟨b0,b1,b2,b3⟩:=S.I.cells;go_wp2;go_ret;exact ⟨by rw [HT.I]; rfl,S.I.low⟩
theorem NL (k n m:Int) (s:ByteArray) (w:World) (h:mQ k n m s=true):
  Calls J3 212 #[.agg #[.int .i64 k,.int .i64 n,.int .i64 m,.string s]] w fun e w'=>e= .returned (.string (MF k n m s))∧Below w.heap.size w w':=by
 by_cases c1:k=1∨k=2∨k=4∨k=5∨k=6∨k=11∨k=14∨k=15∨k=16
 ·exact PD k n m s w c1 (ML c1 h)
 by_cases c2:k=3∨k=7∨k=9∨k=12
 ·have h2:=MZ c2 h
  exact PB k n m s w c2 ⟨h2.1,h2.2.1⟩ h2.2.2
 by_cases c3:k=8
 ·have h2:=N0 (c3 ▸ h)
  exact Py k n m s w c3 ⟨h2.1,h2.2.1⟩ ⟨h2.2.2.1,h2.2.2.2.1⟩ h2.2.2.2.2
 by_cases c4:k=10∨k=13
 ·have h2:=NK c4 h
  exact Pz k n m s w c4 ⟨h2.1,h2.2.1⟩ h2.2.2
 ·exact PA k n m s w (by have:=OP h; omega)
end Go.Proofs.YtkbcplnlehdjfaaGreat

namespace Go.Proofs.YtkbcplnlehdjfaaGreat
open Go.RowKit
def iG (w:World) (g len:Nat) (K N M:Nat→Int) (S:Nat→ByteArray):Prop:=g < w.heap.size∧ ∀ j,j < len * 4→w.cell? ⟨g,j,none⟩=some (xe K N M S j)
theorem iG.of_block {w w':World} {g len:Nat} {K N M:Nat→Int} {S:Nat→ByteArray} (h:iG w g len K N M S) (e:w'.heap[g]? =w.heap[g]?):iG w' g len K N M S:=by
 refine ⟨?_,fun j hj=>(World.cell?_of_block (w:=w) e).trans (h.2 j hj)⟩;have h1:=h.1;rw [Array.getElem?_eq_getElem h1] at e;exact (J2.1 e).1
theorem iG.below {w w':World} {g len:Nat} {K N M:Nat→Int} {S:Nat→ByteArray} (h:iG w g len K N M S) (hb:Below w.heap.size w w'):iG w' g len K N M S:=h.of_block (hb.block g h.1)
theorem iG.c0 {w:World} {g len:Nat} {K N M:Nat→Int} {S:Nat→ByteArray} (h:iG w g len K N M S) {i:Nat} (hi:i < len):w.cell? ⟨g,i * 4,none⟩=some (.int .i64 (K i)):=by rw [← opV_0 K N M S]; exact h.2 _ (by omega)
theorem iG.c1 {w:World} {g len:Nat} {K N M:Nat→Int} {S:Nat→ByteArray} (h:iG w g len K N M S) {i:Nat} (hi:i < len):w.cell? ⟨g,i * 4+1,none⟩=some (.int .i64 (N i)):=by rw [← opV_1 K N M S]; exact h.2 _ (by omega)
theorem iG.c2 {w:World} {g len:Nat} {K N M:Nat→Int} {S:Nat→ByteArray} (h:iG w g len K N M S) {i:Nat} (hi:i < len):w.cell? ⟨g,i * 4+2,none⟩=some (.int .i64 (M i)):=by rw [← opV_2 K N M S]; exact h.2 _ (by omega)
theorem iG.c3 {w:World} {g len:Nat} {K N M:Nat→Int} {S:Nat→ByteArray} (h:iG w g len K N M S) {i:Nat} (hi:i < len):w.cell? ⟨g,i * 4+3,none⟩=some (.string (S i)):=by rw [← opV_3 K N M S]; exact h.2 _ (by omega)
def j8 (K N M:Nat→Int) (S:Nat→ByteArray) (i:Nat):Bool:=mQ (K i) (N i) (M i) (S i)
def nq (len:Nat) (K N M:Nat→Int) (S:Nat→ByteArray):Bool:=decide (1≤len∧len≤20∧ ∀ i,i < len→j8 K N M S i=true)
theorem vM {len:Nat} {K N M:Nat→Int} {S:Nat→ByteArray} (h:1≤len∧len≤20∧ ∀ i,i < len→j8 K N M S i=true):nq len K N M S=true:=by simp only [nq]; exact decide_eq_true h
theorem iS {len:Nat} {K N M:Nat→Int} {S:Nat→ByteArray} (h: ¬ (1≤len∧len≤20∧ ∀ i,i < len→j8 K N M S i=true)):nq len K N M S=false:=by simp only [nq]; exact decide_eq_false h
end Go.Proofs.YtkbcplnlehdjfaaGreat
