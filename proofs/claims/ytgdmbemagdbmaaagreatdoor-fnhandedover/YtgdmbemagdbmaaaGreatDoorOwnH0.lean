/- What the proof leans on, part 0. -/
import Derived.Test.YtgdmbemagdbmaaaGreatDoorOwnR13
set_option maxRecDepth 100000
set_option maxHeartbeats 8000000
open Go.Proofs.Tryz
open Go renaming World->w_,Value->v_,Calls->k_,Addr->d_,TypeId->T_
open Go.Ending renaming returned->r_
open Go.IntKind renaming i64->j_
open Go.Obj renaming cells->c_
open Go.RowKit renaming Below->B_
open Go.Value renaming int->i_,slice->s_,bool->b_,string->t_,agg->a_,pointer->p_
open Option renaming some->o_,none->n_
open Array renaming getElem?_eq_some_iff->J2
open Bool renaming and_eq_true->J7,true_and->aeN
open Go renaming bodyPost_ret->KT,heap_alloc_new->Kj,results_cell_row->K9,wpList_append_own_at->KD
open Go.IntKind renaming wrap_i64->K8
open Go.Proofs.Tryz renaming prog->J3
open Go.RowKit.Below renaming refl->Kp
open Go.World renaming news_of_block->KE
open Int renaming eq_ofNat_of_zero_le->QK
open List renaming all_eq_true->PZ,getElem?_eq_getElem->Kz
open Nat renaming le_refl->Ki,zero_le->Ky
open Option renaming getD_some->Ka,map_eq_some_iff->Kw
open Option.some renaming inj->KC
open Prod.mk renaming injEq->Kx

namespace Go.Proofs.YtgdmbemagdbmaaaGreatDoor
section
open Go.RowKit
theorem xG {r:Nat} {W w2:w_} {xs:Array v_} {t:T_} {n:Nat} (hb:gG r (W.alloc (c_ xs t)) w2) (hr:r < W.heap.size):w2.cell? ⟨W.heap.size,n,n_⟩=xs[n]? :=by
 have hrow:w2.heap[W.heap.size]? =o_ (c_ xs t):=(hb.block _ (by simp) (by omega)).trans (Kj _ _);rw [cell_of_row _ _ _ _ _ _ hrow]
theorem ajJ (r:Nat) (a:Option d_) (len cap:Nat) (w:w_) (hl:len≤1048576) (h:Rd r a len cap w):
  k_ J3 109 #[p_ (o_ ⟨r,0,n_⟩)] w fun e w'=> ∃ v:Int,e=r_ (i_ j_ v)∧gG r w w'∧Rd r a len cap w':=by
 have rl:=h.lt
 go_enter func109,ntmps109
 go_wp2_with fail;refine (dh r a len cap 5 _ hl (by omega) (by omega) (h.below ((Kp _ _).alloc (Ki _) _))).mono ?_;rintro e w2 ⟨v,v0,v1,rfl,hb2,hr2⟩;obtain ⟨n,rfl⟩:=QK v0;have hn:n < 5:=by omega
 have hy: ∃ y,w2.cell? ⟨w.heap.size,n,n_⟩=o_ (i_ j_ y):=by
  rw [xG hb2 rl]
  match n,hn with
  | 0,_=>exact ⟨_,rfl⟩
  | 1,_=>exact ⟨_,rfl⟩
  | 2,_=>exact ⟨_,rfl⟩
  | 3,_=>exact ⟨_,rfl⟩
  | 4,_=>exact ⟨_,rfl⟩
 obtain ⟨y,hy⟩:=hy;have HB:Hid (gG r w w2):=((gG.refl _ _).alloc _).trans hb2;clear hb2;go_wp2;go_ret;exact ⟨y,rfl,HB.I,hr2⟩
theorem B0 (r:Nat) (a:Option d_) (len cap:Nat) (w:w_) (hl:len≤1048576) (h:Rd r a len cap w):
  k_ J3 110 #[p_ (o_ ⟨r,0,n_⟩)] w fun e w'=> ∃ t:ByteArray,t.size≤3∧e=r_ (t_ t)∧gG r w w'∧Rd r a len cap w':=by
 have rl:=h.lt
 go_enter func110,ntmps110
 go_wp2_with fail;refine (dh r a len cap 5 _ hl (by omega) (by omega) (h.below ((Kp _ _).alloc (Ki _) _))).mono ?_;rintro e w2 ⟨v,v0,v1,rfl,hb2,hr2⟩;obtain ⟨n,rfl⟩:=QK v0;have hn:n < 5:=by omega
 have hy: ∃ y:ByteArray,y.size≤3∧w2.cell? ⟨w.heap.size,n,n_⟩=o_ (t_ y):=by
  rw [xG hb2 rl]
  match n,hn with
  | 0,_=>exact ⟨_,by decide,rfl⟩
  | 1,_=>exact ⟨_,by decide,rfl⟩
  | 2,_=>exact ⟨_,by decide,rfl⟩
  | 3,_=>exact ⟨_,by decide,rfl⟩
  | 4,_=>exact ⟨_,by decide,rfl⟩
 obtain ⟨y,hys,hy⟩:=hy;have HB:Hid (gG r w w2):=((gG.refl _ _).alloc _).trans hb2;clear hb2;go_wp2;go_ret;exact ⟨y,hys,rfl,HB.I,hr2⟩
theorem jy:(Tryz.prog.info? 40).map (·.size)=o_ 4:=by kernel_rfl
theorem op_any (r:Nat) (a:Option d_) (len cap:Nat) (w:w_) (hl:len≤1048576) (h:Rd r a len cap w):
  k_ J3 72 #[p_ (o_ ⟨r,0,n_⟩)] w fun e w'=> ∃ o:dN,o.2.2.2.size≤3∧e=r_ (a_ #[i_ j_ o.1,i_ j_ o.2.1,i_ j_ o.2.2.1,t_ o.2.2.2])∧gG r w w'∧Rd r a len cap w':=by
 have HS:Hid (Rd r a len cap w):=h;have rl:=h.lt;clear h
 go_enter func72,ntmps72
 go_wp2_with fail;refine (dh r a len cap 17 _ hl (by omega) (by omega) (HS.I.below ((Kp _ _).alloc (Ki _) _))).mono ?_;rintro e w1 ⟨v,v0,v1,rfl,hb1,hr1⟩;have hres:w1.heap[w.heap.size]? =o_ (c_ #[i_ j_ 0,i_ j_ 0,i_ j_ 0,t_ ⟨#[]⟩] 40):=(hb1.block _ (by simp) (by omega)).trans (Kj _ _);have pG:Hid (w1.heap[w.heap.size]? =o_ (c_ #[i_ j_ 0,i_ j_ 0,i_ j_ 0,t_ ⟨#[]⟩] 40)∧gG r w w1):=⟨hres,((gG.refl _ _).alloc _).trans hb1⟩
 clear hb1 hres;obtain ⟨k,hk⟩: ∃ k:Int,k=1+v:=⟨_,rfl⟩
 have e1:IntKind.i64.wrap (1+v)=k:=by rw [K8,hk]; omega
 have k0:1≤k:=by omega
 have k1:k≤17:=by omega
 have e2:IntKind.i64.wrap k=k:=by rw [K8]; omega
 have e3:wrap64 k=k:=by unfold wrap64; omega
 clear hk;go_wp2_with fail;refine (dh r a len cap 2 _ hl (by omega) (by omega) hr1).mono ?_;rintro e w2 ⟨u,u0,u1,rfl,hb2,hr2⟩;obtain ⟨n,hn⟩: ∃ n:Int,n=1+u:=⟨_,rfl⟩
 have f1:IntKind.i64.wrap (1+u)=n:=by rw [K8,hn]; omega
 have f2:IntKind.i64.wrap n=n:=by rw [K8]; omega
 have f3:wrap64 n=n:=by unfold wrap64; omega
 have H2:Hid (∀ n:Int,fO r a len cap w (w2.alloc (c_ #[i_ j_ k,i_ j_ n,i_ j_ 0,t_ ⟨#[]⟩] 40)) w2.heap.size k n 0 ⟨#[]⟩):=fun n=>by
  have l1:w.heap.size < w1.heap.size:=(J2.1 pG.I.1).1;have r2:w2.heap[w.heap.size]? =o_ (c_ #[i_ j_ 0,i_ j_ 0,i_ j_ 0,t_ ⟨#[]⟩] 40):=(hb2.block _ l1 (by omega)).trans pG.I.1;have l2:w.heap.size < w2.heap.size:=(J2.1 r2).1;exact ⟨(PU l2).trans r2,Kj _ _,(pG.I.2.trans hb2).alloc _,hr2.below ((Kp _ _).alloc (Ki _) _),HS.I,l2⟩
 clear hn hb2 hr2 hr1 pG;obtain ⟨q,hq⟩: ∃ q,w2.heap.size=q:=⟨_,rfl⟩
 rw [hq] at H2;by_cases c1:k=1∨k=2
 ·rcases c1 with rfl | rfl
  all_goals
   go_wp2_with fail;rw [hq] at *;have H3:=H2.I n;generalize w2.alloc (c_ #[i_ j_ _,i_ j_ n,i_ j_ 0,t_ ⟨#[]⟩] 40)=X at *;have uL:Hid (fO r a len cap w X q _ n 0 ⟨#[]⟩):=H3;clear H3;refine (dh r a len cap 5 _ hl (by omega) (by omega) uL.I.rd).mono ?_;rintro e w3 ⟨b,b0,b1,rfl,hb3,hr3⟩;obtain ⟨n2,hn2⟩: ∃ n2:Int,n2=1+b:=⟨_,rfl⟩
   have g1:IntKind.i64.wrap (1+b)=n2:=by rw [K8,hn2]; omega
   have g2:IntKind.i64.wrap n2=n2:=by rw [K8]; omega
   have g3:wrap64 n2=n2:=by unfold wrap64; omega
   have H4:Hid (fO r a len cap w w3 q _ n 0 ⟨#[]⟩):=uL.I.move hb3 hr3;have H5:Hid (fO r a len cap w (w3.setCell ⟨q,1,n_⟩ (i_ j_ n2)) q _ n2 0 ⟨#[]⟩):=H4.I.set rfl;clear hn2 hb3 hr3 uL;obtain ⟨⟨o0,o1,o2,o3⟩,⟨r0,r1,r2,r3⟩,fD,fB⟩:=H4.I.cells;have q0:=fD 0;have q1:=fD 1;have q2:=fD 2;have q3:=fD 3;have y0:=fB 0;have y1:=fB 1;have y2:=fB 2;have y3:=fB 3;have hlt:=H4.I.lt;have hne:w.heap.size≠q:=by omega
   have mD:q≠w.heap.size:=by omega
   clear fD fB;go_wp2_with fail;clear o0 o1 o2 o3 r0 r1 r2 r3 q0 q1 q2 q3 y0 y1 y2 y3 hlt hne mD;refine (jt r a len cap 60 _ hl (by omega) (by omega) H5.I.rd).mono ?_;rintro e w8 ⟨bb,rfl,Aq,BM⟩;have H8:Hid (fO r a len cap w w8 q _ n2 0 ⟨#[]⟩):=H5.I.move Aq BM;clear Aq BM H5;cases bb with
   | false=>
    obtain ⟨⟨o0,o1,o2,o3⟩,⟨r0,r1,r2,r3⟩,fD,fB⟩:=H8.I.cells;have q0:=fD 0;have q1:=fD 1;have q2:=fD 2;have q3:=fD 3;have y0:=fB 0;have y1:=fB 1;have y2:=fB 2;have y3:=fB 3;have hlt:=H8.I.lt;have hne:w.heap.size≠q:=by omega
    have mD:q≠w.heap.size:=by omega
    clear fD fB;go_wp2;refine KT (K9 results72 _ _ w.heap.size 40 _ (0,0) _ (by rfl) H8.I.ends.1 underlying40 rfl jy) rfl ?_;exact ⟨(_,n2,0,⟨#[]⟩),Ky _,rfl,H8.I.ends.2.1,H8.I.ends.2.2⟩
   | true=>
    go_wp2_with fail;refine (pj r a len cap (-1) 9 _ hl (by omega) (by omega) (by omega) H8.I.rd).mono ?_;rintro e w9 ⟨VX,rfl,kN,zT⟩;have YU:Hid (fO r a len cap w w9 q _ n2 0 ⟨#[]⟩):=H8.I.move kN zT;have HA:Hid (fO r a len cap w (w9.setCell ⟨q,2,n_⟩ (i_ j_ VX)) q _ n2 VX ⟨#[]⟩):=YU.I.set rfl;clear kN zT H8;obtain ⟨⟨o0,o1,o2,o3⟩,⟨r0,r1,r2,r3⟩,fD,fB⟩:=YU.I.cells;have q0:=fD 0;have q1:=fD 1;have q2:=fD 2;have q3:=fD 3;have y0:=fB 0;have y1:=fB 1;have y2:=fB 2;have y3:=fB 3;have hlt:=YU.I.lt;have hne:w.heap.size≠q:=by omega
    have mD:q≠w.heap.size:=by omega
    clear fD fB;go_wp2;refine KT (K9 results72 _ _ w.heap.size 40 _ (0,0) _ (by rfl) HA.I.ends.1 underlying40 rfl jy) rfl ?_;exact ⟨(_,n2,VX,⟨#[]⟩),Ky _,rfl,HA.I.ends.2.1,HA.I.ends.2.2⟩
 by_cases c2:k=3∨k=7∨k=9∨k=12
 ·rcases c2 with rfl | rfl | rfl | rfl
  all_goals
   go_wp2_with fail;rw [hq] at *;have H3:=H2.I n;generalize w2.alloc (c_ #[i_ j_ _,i_ j_ n,i_ j_ 0,t_ ⟨#[]⟩] 40)=X at *;have uL:Hid (fO r a len cap w X q _ n 0 ⟨#[]⟩):=H3;clear H3;refine (ajJ r a len cap _ hl uL.I.rd).mono ?_;rintro e w3 ⟨b,rfl,hb3,hr3⟩;have H4:Hid (fO r a len cap w w3 q _ n 0 ⟨#[]⟩):=uL.I.move hb3 hr3;have H5:Hid (fO r a len cap w (w3.setCell ⟨q,2,n_⟩ (i_ j_ b)) q _ n b ⟨#[]⟩):=H4.I.set rfl;clear hb3 hr3 uL;obtain ⟨⟨o0,o1,o2,o3⟩,⟨r0,r1,r2,r3⟩,fD,fB⟩:=H4.I.cells;have q0:=fD 0;have q1:=fD 1;have q2:=fD 2;have q3:=fD 3;have y0:=fB 0;have y1:=fB 1;have y2:=fB 2;have y3:=fB 3;have hlt:=H4.I.lt;have hne:w.heap.size≠q:=by omega
   have mD:q≠w.heap.size:=by omega
   clear fD fB;go_wp2_with fail;clear o0 o1 o2 o3 r0 r1 r2 r3 q0 q1 q2 q3 y0 y1 y2 y3 hlt hne mD;refine (jt r a len cap 60 _ hl (by omega) (by omega) H5.I.rd).mono ?_;rintro e w8 ⟨bb,rfl,Aq,BM⟩;have H8:Hid (fO r a len cap w w8 q _ n b ⟨#[]⟩):=H5.I.move Aq BM;clear Aq BM H5;cases bb with
   | false=>
    obtain ⟨⟨o0,o1,o2,o3⟩,⟨r0,r1,r2,r3⟩,fD,fB⟩:=H8.I.cells;have q0:=fD 0;have q1:=fD 1;have q2:=fD 2;have q3:=fD 3;have y0:=fB 0;have y1:=fB 1;have y2:=fB 2;have y3:=fB 3;have hlt:=H8.I.lt;have hne:w.heap.size≠q:=by omega
    have mD:q≠w.heap.size:=by omega
    clear fD fB;go_wp2;refine KT (K9 results72 _ _ w.heap.size 40 _ (0,0) _ (by rfl) H8.I.ends.1 underlying40 rfl jy) rfl ?_;exact ⟨(_,n,b,⟨#[]⟩),Ky _,rfl,H8.I.ends.2.1,H8.I.ends.2.2⟩
   | true=>
    go_wp2_with fail;refine (pj r a len cap (-1) 9 _ hl (by omega) (by omega) (by omega) H8.I.rd).mono ?_;rintro e w9 ⟨VX,rfl,kN,zT⟩;have YU:Hid (fO r a len cap w w9 q _ n b ⟨#[]⟩):=H8.I.move kN zT;have HA:Hid (fO r a len cap w (w9.setCell ⟨q,2,n_⟩ (i_ j_ VX)) q _ n VX ⟨#[]⟩):=YU.I.set rfl;clear kN zT H8;obtain ⟨⟨o0,o1,o2,o3⟩,⟨r0,r1,r2,r3⟩,fD,fB⟩:=YU.I.cells;have q0:=fD 0;have q1:=fD 1;have q2:=fD 2;have q3:=fD 3;have y0:=fB 0;have y1:=fB 1;have y2:=fB 2;have y3:=fB 3;have hlt:=YU.I.lt;have hne:w.heap.size≠q:=by omega
    have mD:q≠w.heap.size:=by omega
    clear fD fB;go_wp2;refine KT (K9 results72 _ _ w.heap.size 40 _ (0,0) _ (by rfl) HA.I.ends.1 underlying40 rfl jy) rfl ?_;exact ⟨(_,n,VX,⟨#[]⟩),Ky _,rfl,HA.I.ends.2.1,HA.I.ends.2.2⟩
 by_cases c3:k=8
 ·subst c3
  go_wp2_with fail;rw [hq] at *;have H3:=H2.I n;generalize w2.alloc (c_ #[i_ j_ _,i_ j_ n,i_ j_ 0,t_ ⟨#[]⟩] 40)=X at *;have uL:Hid (fO r a len cap w X q _ n 0 ⟨#[]⟩):=H3;clear H3;refine (ajJ r a len cap _ hl uL.I.rd).mono ?_;rintro e w3 ⟨b,rfl,hb3,hr3⟩;have H4:Hid (fO r a len cap w w3 q _ n 0 ⟨#[]⟩):=uL.I.move hb3 hr3;have H5:Hid (fO r a len cap w (w3.setCell ⟨q,2,n_⟩ (i_ j_ b)) q _ n b ⟨#[]⟩):=H4.I.set rfl;clear hb3 hr3 uL;obtain ⟨⟨o0,o1,o2,o3⟩,⟨r0,r1,r2,r3⟩,fD,fB⟩:=H4.I.cells;have q0:=fD 0;have q1:=fD 1;have q2:=fD 2;have q3:=fD 3;have y0:=fB 0;have y1:=fB 1;have y2:=fB 2;have y3:=fB 3;have hlt:=H4.I.lt;have hne:w.heap.size≠q:=by omega
  have mD:q≠w.heap.size:=by omega
  clear fD fB;go_wp2_with fail;clear o0 o1 o2 o3 r0 r1 r2 r3 q0 q1 q2 q3 y0 y1 y2 y3 hlt hne mD;generalize w3.setCell ⟨q,2,n_⟩ (i_ j_ b)=X3 at *;refine (B0 r a len cap _ hl H5.I.rd).mono ?_;rintro e w4 ⟨tx,htx,rfl,hb4,hr4⟩;have H6:Hid (fO r a len cap w w4 q _ n b ⟨#[]⟩):=H5.I.move hb4 hr4;have H7:Hid (fO r a len cap w (w4.setCell ⟨q,3,n_⟩ (t_ tx)) q _ n b tx):=H6.I.set rfl;clear hb4 hr4 H5;obtain ⟨⟨o0,o1,o2,o3⟩,⟨r0,r1,r2,r3⟩,fD,fB⟩:=H6.I.cells;have q0:=fD 0;have q1:=fD 1;have q2:=fD 2;have q3:=fD 3;have y0:=fB 0;have y1:=fB 1;have y2:=fB 2;have y3:=fB 3;have hlt:=H6.I.lt;have hne:w.heap.size≠q:=by omega
  have mD:q≠w.heap.size:=by omega
  clear fD fB;go_wp2_with fail;clear o0 o1 o2 o3 r0 r1 r2 r3 q0 q1 q2 q3 y0 y1 y2 y3 hlt hne mD;refine (jt r a len cap 60 _ hl (by omega) (by omega) H7.I.rd).mono ?_;rintro e w8 ⟨bb,rfl,Aq,BM⟩;have H8:Hid (fO r a len cap w w8 q _ n b tx):=H7.I.move Aq BM;clear Aq BM H7;cases bb with
  | false=>
   obtain ⟨⟨o0,o1,o2,o3⟩,⟨r0,r1,r2,r3⟩,fD,fB⟩:=H8.I.cells;have q0:=fD 0;have q1:=fD 1;have q2:=fD 2;have q3:=fD 3;have y0:=fB 0;have y1:=fB 1;have y2:=fB 2;have y3:=fB 3;have hlt:=H8.I.lt;have hne:w.heap.size≠q:=by omega
   have mD:q≠w.heap.size:=by omega
   clear fD fB;go_wp2;refine KT (K9 results72 _ _ w.heap.size 40 _ (0,0) _ (by rfl) H8.I.ends.1 underlying40 rfl jy) rfl ?_;exact ⟨(_,n,b,tx),htx,rfl,H8.I.ends.2.1,H8.I.ends.2.2⟩
  | true=>
   go_wp2_with fail;refine (pj r a len cap (-1) 9 _ hl (by omega) (by omega) (by omega) H8.I.rd).mono ?_;rintro e w9 ⟨VX,rfl,kN,zT⟩;have YU:Hid (fO r a len cap w w9 q _ n b tx):=H8.I.move kN zT;have HA:Hid (fO r a len cap w (w9.setCell ⟨q,2,n_⟩ (i_ j_ VX)) q _ n VX tx):=YU.I.set rfl;clear kN zT H8;obtain ⟨⟨o0,o1,o2,o3⟩,⟨r0,r1,r2,r3⟩,fD,fB⟩:=YU.I.cells;have q0:=fD 0;have q1:=fD 1;have q2:=fD 2;have q3:=fD 3;have y0:=fB 0;have y1:=fB 1;have y2:=fB 2;have y3:=fB 3;have hlt:=YU.I.lt;have hne:w.heap.size≠q:=by omega
   have mD:q≠w.heap.size:=by omega
   clear fD fB;go_wp2;refine KT (K9 results72 _ _ w.heap.size 40 _ (0,0) _ (by rfl) HA.I.ends.1 underlying40 rfl jy) rfl ?_;exact ⟨(_,n,VX,tx),htx,rfl,HA.I.ends.2.1,HA.I.ends.2.2⟩
 by_cases c4:k=10∨k=13
 ·rcases c4 with rfl | rfl
  all_goals
   go_wp2_with fail;rw [hq] at *;have H3:=H2.I n;generalize w2.alloc (c_ #[i_ j_ _,i_ j_ n,i_ j_ 0,t_ ⟨#[]⟩] 40)=X at *;have uL:Hid (fO r a len cap w X q _ n 0 ⟨#[]⟩):=H3;clear H3;refine (B0 r a len cap _ hl uL.I.rd).mono ?_;rintro e w4 ⟨tx,htx,rfl,hb4,hr4⟩;have H6:Hid (fO r a len cap w w4 q _ n 0 ⟨#[]⟩):=uL.I.move hb4 hr4;have H7:Hid (fO r a len cap w (w4.setCell ⟨q,3,n_⟩ (t_ tx)) q _ n 0 tx):=H6.I.set rfl;clear hb4 hr4 uL;obtain ⟨⟨o0,o1,o2,o3⟩,⟨r0,r1,r2,r3⟩,fD,fB⟩:=H6.I.cells;have q0:=fD 0;have q1:=fD 1;have q2:=fD 2;have q3:=fD 3;have y0:=fB 0;have y1:=fB 1;have y2:=fB 2;have y3:=fB 3;have hlt:=H6.I.lt;have hne:w.heap.size≠q:=by omega
   have mD:q≠w.heap.size:=by omega
   clear fD fB;go_wp2_with fail;clear o0 o1 o2 o3 r0 r1 r2 r3 q0 q1 q2 q3 y0 y1 y2 y3 hlt hne mD;refine (jt r a len cap 60 _ hl (by omega) (by omega) H7.I.rd).mono ?_;rintro e w8 ⟨bb,rfl,Aq,BM⟩;have H8:Hid (fO r a len cap w w8 q _ n 0 tx):=H7.I.move Aq BM;clear Aq BM H7;cases bb with
   | false=>
    obtain ⟨⟨o0,o1,o2,o3⟩,⟨r0,r1,r2,r3⟩,fD,fB⟩:=H8.I.cells;have q0:=fD 0;have q1:=fD 1;have q2:=fD 2;have q3:=fD 3;have y0:=fB 0;have y1:=fB 1;have y2:=fB 2;have y3:=fB 3;have hlt:=H8.I.lt;have hne:w.heap.size≠q:=by omega
    have mD:q≠w.heap.size:=by omega
    clear fD fB;go_wp2;refine KT (K9 results72 _ _ w.heap.size 40 _ (0,0) _ (by rfl) H8.I.ends.1 underlying40 rfl jy) rfl ?_;exact ⟨(_,n,0,tx),htx,rfl,H8.I.ends.2.1,H8.I.ends.2.2⟩
   | true=>
    go_wp2_with fail;refine (pj r a len cap (-1) 9 _ hl (by omega) (by omega) (by omega) H8.I.rd).mono ?_;rintro e w9 ⟨VX,rfl,kN,zT⟩;have YU:Hid (fO r a len cap w w9 q _ n 0 tx):=H8.I.move kN zT;have HA:Hid (fO r a len cap w (w9.setCell ⟨q,2,n_⟩ (i_ j_ VX)) q _ n VX tx):=YU.I.set rfl;clear kN zT H8;obtain ⟨⟨o0,o1,o2,o3⟩,⟨r0,r1,r2,r3⟩,fD,fB⟩:=YU.I.cells;have q0:=fD 0;have q1:=fD 1;have q2:=fD 2;have q3:=fD 3;have y0:=fB 0;have y1:=fB 1;have y2:=fB 2;have y3:=fB 3;have hlt:=YU.I.lt;have hne:w.heap.size≠q:=by omega
    have mD:q≠w.heap.size:=by omega
    clear fD fB;go_wp2;refine KT (K9 results72 _ _ w.heap.size 40 _ (0,0) _ (by rfl) HA.I.ends.1 underlying40 rfl jy) rfl ?_;exact ⟨(_,n,VX,tx),htx,rfl,HA.I.ends.2.1,HA.I.ends.2.2⟩
 by_cases c5:k=17
 ·subst c5
  go_wp2_with fail;rw [hq] at *;have H3:=H2.I 0;generalize w2.alloc (c_ #[i_ j_ _,i_ j_ 0,i_ j_ 0,t_ ⟨#[]⟩] 40)=X at *;have uL:Hid (fO r a len cap w X q _ 0 0 ⟨#[]⟩):=H3;clear H3;refine (jt r a len cap 60 _ hl (by omega) (by omega) uL.I.rd).mono ?_;rintro e w8 ⟨bb,rfl,Aq,BM⟩;have H8:Hid (fO r a len cap w w8 q _ 0 0 ⟨#[]⟩):=uL.I.move Aq BM;clear Aq BM uL;cases bb with
  | false=>
   obtain ⟨⟨o0,o1,o2,o3⟩,⟨r0,r1,r2,r3⟩,fD,fB⟩:=H8.I.cells;have q0:=fD 0;have q1:=fD 1;have q2:=fD 2;have q3:=fD 3;have y0:=fB 0;have y1:=fB 1;have y2:=fB 2;have y3:=fB 3;have hlt:=H8.I.lt;have hne:w.heap.size≠q:=by omega
   have mD:q≠w.heap.size:=by omega
   clear fD fB;go_wp2;refine KT (K9 results72 _ _ w.heap.size 40 _ (0,0) _ (by rfl) H8.I.ends.1 underlying40 rfl jy) rfl ?_;exact ⟨(_,0,0,⟨#[]⟩),Ky _,rfl,H8.I.ends.2.1,H8.I.ends.2.2⟩
  | true=>
   go_wp2_with fail;refine (pj r a len cap (-1) 9 _ hl (by omega) (by omega) (by omega) H8.I.rd).mono ?_;rintro e w9 ⟨VX,rfl,kN,zT⟩;have YU:Hid (fO r a len cap w w9 q _ 0 0 ⟨#[]⟩):=H8.I.move kN zT;have HA:Hid (fO r a len cap w (w9.setCell ⟨q,2,n_⟩ (i_ j_ VX)) q _ 0 VX ⟨#[]⟩):=YU.I.set rfl;clear kN zT H8;obtain ⟨⟨o0,o1,o2,o3⟩,⟨r0,r1,r2,r3⟩,fD,fB⟩:=YU.I.cells;have q0:=fD 0;have q1:=fD 1;have q2:=fD 2;have q3:=fD 3;have y0:=fB 0;have y1:=fB 1;have y2:=fB 2;have y3:=fB 3;have hlt:=YU.I.lt;have hne:w.heap.size≠q:=by omega
   have mD:q≠w.heap.size:=by omega
   clear fD fB;go_wp2;refine KT (K9 results72 _ _ w.heap.size 40 _ (0,0) _ (by rfl) HA.I.ends.1 underlying40 rfl jy) rfl ?_;exact ⟨(_,0,VX,⟨#[]⟩),Ky _,rfl,HA.I.ends.2.1,HA.I.ends.2.2⟩
 have d1:(k == 1)=false:=by simp; omega
 have d2:(k == 2)=false:=by simp; omega
 have d3:(k == 3)=false:=by simp; omega
 have d7:(k == 7)=false:=by simp; omega
 have d9:(k == 9)=false:=by simp; omega
 have d12:(k == 12)=false:=by simp; omega
 have d8:(k == 8)=false:=by simp; omega
 have tH:(k == 10)=false:=by simp; omega
 have d13:(k == 13)=false:=by simp; omega
 have d17:(k == 17)=false:=by simp; omega
 clear c1 c2 c3 c4 c5;go_wp2_with fail;rw [hq] at *;have H3:=H2.I n;generalize w2.alloc (c_ #[i_ j_ _,i_ j_ n,i_ j_ 0,t_ ⟨#[]⟩] 40)=X at *;have uL:Hid (fO r a len cap w X q _ n 0 ⟨#[]⟩):=H3;clear H3;refine (jt r a len cap 60 _ hl (by omega) (by omega) uL.I.rd).mono ?_;rintro e w8 ⟨bb,rfl,Aq,BM⟩;have H8:Hid (fO r a len cap w w8 q _ n 0 ⟨#[]⟩):=uL.I.move Aq BM;clear Aq BM uL;cases bb with
 | false=>
  obtain ⟨⟨o0,o1,o2,o3⟩,⟨r0,r1,r2,r3⟩,fD,fB⟩:=H8.I.cells;have q0:=fD 0;have q1:=fD 1;have q2:=fD 2;have q3:=fD 3;have y0:=fB 0;have y1:=fB 1;have y2:=fB 2;have y3:=fB 3;have hlt:=H8.I.lt;have hne:w.heap.size≠q:=by omega
  have mD:q≠w.heap.size:=by omega
  clear fD fB;go_wp2;refine KT (K9 results72 _ _ w.heap.size 40 _ (0,0) _ (by rfl) H8.I.ends.1 underlying40 rfl jy) rfl ?_;exact ⟨(_,n,0,⟨#[]⟩),Ky _,rfl,H8.I.ends.2.1,H8.I.ends.2.2⟩
 | true=>
  go_wp2_with fail;refine (pj r a len cap (-1) 9 _ hl (by omega) (by omega) (by omega) H8.I.rd).mono ?_;rintro e w9 ⟨VX,rfl,kN,zT⟩;have YU:Hid (fO r a len cap w w9 q _ n 0 ⟨#[]⟩):=H8.I.move kN zT;have HA:Hid (fO r a len cap w (w9.setCell ⟨q,2,n_⟩ (i_ j_ VX)) q _ n VX ⟨#[]⟩):=YU.I.set rfl;clear kN zT H8;obtain ⟨⟨o0,o1,o2,o3⟩,⟨r0,r1,r2,r3⟩,fD,fB⟩:=YU.I.cells;have q0:=fD 0;have q1:=fD 1;have q2:=fD 2;have q3:=fD 3;have y0:=fB 0;have y1:=fB 1;have y2:=fB 2;have y3:=fB 3;have hlt:=YU.I.lt;have hne:w.heap.size≠q:=by omega
  have mD:q≠w.heap.size:=by omega
  clear fD fB;go_wp2;refine KT (K9 results72 _ _ w.heap.size 40 _ (0,0) _ (by rfl) HA.I.ends.1 underlying40 rfl jy) rfl ?_;exact ⟨(_,n,VX,⟨#[]⟩),Ky _,rfl,HA.I.ends.2.1,HA.I.ends.2.2⟩
end
def ahX (ts:List ByteArray):List dN:=ts.map fun t=>(8,1,-1,t)
def ags (n:Nat):List dN:=List.replicate n (9,1,-1,rM)
def akI (p:aE):Nat→aE
 | 0=>p
 | n+1=>mS (0+(n:Int)) (akI p n)
theorem ak9 {p:aE} (hr:aQ p): ∀ n:Nat,n≤200→(∀ j,j < n→(akI p j).next≤999999980)→agI 0 p n (akI p n)
 | 0,_,_=>agI.start hr
 | n+1,h,hn=>(ak9 hr n (by omega) (fun j hj=>hn j (by omega))).next (by
   rw [J7,decide_eq_true_eq];exact ⟨bz.2 (by omega),hn n (by omega)⟩)
theorem alF {p:aE} (hr:aQ p) (n:Nat) (h:n≤6) (hn:((List.range 6).all fun j=>decide ((akI p j).next≤999999980))=true):agc p 0 (n:Int)=o_ (akI p n):=by
 unfold agc;rw [(ch p).2 hr,bz.2 (by omega)];exact (ak9 hr n (by omega) (fun j hj=>of_decide_eq_true (PZ.1 hn j (List.mem_range.2 (by omega))))).is
theorem alz {ts:List ByteArray} (h0:1≤ts.length) (h1:ts.length≤20) (h: ∀ t∈ts,bw t=true):jm (ahX ts)=true:=by
 refine vM ⟨by simp [ahX]; omega,by simp [ahX]; omega,fun i hi=> ?_⟩;have hi':i < ts.length:=by simpa [ahX] using hi
 have e:(ahX ts)[i]? =o_ (8,1,-1,ts[i]):=by simp [ahX,hi']
 simp only [j8,Cd,Cg,Ea,Ce,e,Ka]
 have:=h _ (List.getElem_mem hi')
 simp [mQ,this,cv]
theorem alx {n:Nat} (h0:1≤n) (h1:n≤3):jm (ags n)=true:=by
 rcases (by omega:n=1∨n=2∨n=3) with rfl | rfl | rfl <;> kernel_rfl
def ahY (l:List dN) (k s:Int):aE:=⟨1,k,[⟨1,5,l,s,0,0,0,0,⟨#[]⟩,⟨#[]⟩,0,s⟩],[⟨1,0,1⟩],[],[],[⟨1,3,[]⟩],[]⟩
def agM (l m:List dN) (k s:Int):aE:=⟨1,k,[⟨1,5,l,1,0,0,0,0,⟨#[]⟩,⟨#[]⟩,0,1⟩,⟨2,1,m,s,0,0,0,0,⟨#[]⟩,⟨#[]⟩,0,s+s⟩],[⟨1,0,1⟩],[],[],[⟨1,3,[]⟩],[]⟩
theorem akJ {x:aD} (h:jm x.prog=true) (h2:(cv x.RX 1 50 && bw x.held && bw x.got && cv x.code 0 3 && bO x)=true):cH x=true:=by
 unfold cH;rw [h];simpa using h2
section
variable {l m:List dN} {k s:Int}
theorem alh (hl:jm l=true) (h2:bO ⟨1,5,l,s,0,0,0,0,⟨#[]⟩,⟨#[]⟩,0,s⟩=true) (h:(s=0∧k=1)∨(s=1∧k=2)):bK (ahY l k s)=true:=by
 have e:cH ⟨1,5,l,s,0,0,0,0,⟨#[]⟩,⟨#[]⟩,0,s⟩=true:=akJ hl (by rw [h2]; rfl);rcases h with ⟨rfl,rfl⟩ | ⟨rfl,rfl⟩
 all_goals
  refine (ch _).2 ⟨by rfl,by rfl,by simp [ahY],by simp [ahY],by simp [ahY],by simp [ahY],by simp [ahY],by simp [ahY],?_,by rfl,by rfl,by rfl,by rfl,by rfl,by simp [ahY,rb]⟩;simp only [ahY,aw,e,aeN,Bool.and_true];rfl
theorem alf (hl:jm l=true) (hm:jm m=true) (h1:bO ⟨1,5,l,1,0,0,0,0,⟨#[]⟩,⟨#[]⟩,0,1⟩=true) (h2:bO ⟨2,1,m,s,0,0,0,0,⟨#[]⟩,⟨#[]⟩,0,s+s⟩=true) (h:(s=0∧k=2)∨(s=1∧k=3)):bK (agM l m k s)=true:=by
 have e:cH ⟨1,5,l,1,0,0,0,0,⟨#[]⟩,⟨#[]⟩,0,1⟩=true:=akJ hl (by rw [h1]; rfl);have e2:cH ⟨2,1,m,s,0,0,0,0,⟨#[]⟩,⟨#[]⟩,0,s+s⟩=true:=akJ hm (by rw [h2]; rfl);rcases h with ⟨rfl,rfl⟩ | ⟨rfl,rfl⟩
 all_goals
  refine (ch _).2 ⟨by rfl,by rfl,by simp [agM],by simp [agM],by simp [agM],by simp [agM],by simp [agM],by simp [agM],?_,by rfl,by rfl,by rfl,by rfl,by rfl,by simp [agM,rb]⟩;simp only [agM,aw,e,e2,aeN,Bool.and_true];rfl
theorem alL (hl:jm l=true) (hm:jm m=true) (h1:bO ⟨1,5,l,1,0,0,0,0,⟨#[]⟩,⟨#[]⟩,0,1⟩=true) (h2:bO ⟨2,1,m,1,0,0,0,0,⟨#[]⟩,⟨#[]⟩,0,1+1⟩=true):
  air ahc 1 5 l=o_ (ahY l 1 0)∧agA l=o_ (ahY l 2 1)∧air (ahY l 2 1) 2 1 m=o_ (agM l m 2 0)∧kD (agM l m 2 0) 2=o_ (agM l m 3 1)∧bK (agM l m 3 1)=true:=by
 have a1:bK (ahY l 1 0)=true:=alh hl (by kernel_rfl) (.inl ⟨rfl,rfl⟩);have a2:bK (ahY l 2 1)=true:=alh hl h1 (.inr ⟨rfl,rfl⟩);have a3:bK (agM l m 2 0)=true:=alf hl hm h1 (by kernel_rfl) (.inl ⟨rfl,rfl⟩);have a4:bK (agM l m 3 1)=true:=alf hl hm h1 h2 (.inr ⟨rfl,rfl⟩);have b1:air ahc 1 5 l=o_ (ahY l 1 0):=by
  show (if bK ahc && bK (ahY l 1 0) then o_ (ahY l 1 0) else n_)=_
  rw [a1,show bK ahc=true by kernel_rfl];rfl
 have b3:air (ahY l 2 1) 2 1 m=o_ (agM l m 2 0):=by
  show (if bK (ahY l 2 1) && bK (agM l m 2 0) then o_ (agM l m 2 0) else n_)=_
  rw [a2,a3];rfl
 refine ⟨b1,?_,b3,?_,a4⟩
 ·unfold agA
  rw [b1]
  show kD (ahY l 1 0) 1=_
  unfold kD hU;rw [a1];rfl
 ·unfold kD hU
  rw [a3];rfl
end
theorem alM {p:aE} {id:Int} {t:ByteArray} (hp:bK p=true) (h:(p.L8.find? (fun x=>decide (x.id=id))).map (·.got)=o_ t):((ew p id).getD uK).got=t:=by
 unfold ew;rw [hp];cases hx:p.L8.find? (fun x=>decide (x.id=id)) with
 | none=>rw [hx] at h; cases h
 | some x=>rw [hx] at h; exact KC h
theorem alZ {ts:List ByteArray} (h0:1≤ts.length) (h1:ts.length≤3) (h: ∀ t∈ts,bw t=true):
  (air ahc 1 5 (ahX ts)).isSome=true∧(agA (ahX ts)).isSome=true∧(air (ahG (agA (ahX ts))) 2 1 (ags ts.length)).isSome=true∧(kD (ahG (air (ahG (agA (ahX ts))) 2 1 (ags ts.length))) 2).isSome=true∧
   ∀ i,i < ts.length→ ∃ q,agc (ahG (kD (ahG (air (ahG (agA (ahX ts))) 2 1 (ags ts.length))) 2)) 0 ((ts.length:Int)+i+1)=o_ q∧ ∀ t,ts[i]? =o_ t→((ew q 2).getD uK).got=t:=by
 have hl:=alz h0 (by omega) h;have hm:=alx h0 h1;have key:bO ⟨1,5,ahX ts,1,0,0,0,0,⟨#[]⟩,⟨#[]⟩,0,1⟩=true∧bO ⟨2,1,ags ts.length,1,0,0,0,0,⟨#[]⟩,⟨#[]⟩,0,1+1⟩=true∧((List.range 6).all fun j=>decide ((akI (agM (ahX ts) (ags ts.length) 3 1) j).next≤999999980))=true∧
   ∀ i,i < ts.length→((akI (agM (ahX ts) (ags ts.length) 3 1) (ts.length+i+1)).L8.find? (fun x=>decide (x.id=2))).map (·.got)=ts[i]? :=by
  clear hl hm h
  match ts,h0,h1 with
  | [a],_,_=>
   refine ⟨by kernel_rfl,by kernel_rfl,by kernel_rfl,fun i hi=> ?_⟩;obtain rfl:i=0:=by simp at hi; omega
   kernel_rfl
  | [a,b],_,_=>
   refine ⟨by kernel_rfl,by kernel_rfl,by kernel_rfl,fun i hi=> ?_⟩;rcases (by simp at hi; omega:i=0∨i=1) with rfl | rfl <;> kernel_rfl
  | [a,b,c],_,_=>
   refine ⟨by kernel_rfl,by kernel_rfl,by kernel_rfl,fun i hi=> ?_⟩;rcases (by simp at hi; omega:i=0∨i=1∨i=2) with rfl | rfl | rfl <;> kernel_rfl
 obtain ⟨c1,c2,c3,c4,c5⟩:=alL hl hm key.1 key.2.1;rw [c1,c2];simp only [ahG,Ka,c3,c4,Option.isSome_some,true_and];intro i hi;have hr:=(ch _).1 c5;have e:=alF hr (ts.length+i+1) (by omega) key.2.2.1;refine ⟨akI (agM (ahX ts) (ags ts.length) 3 1) (ts.length+i+1),by rw [← e]; rfl,fun t ht=>alM ?_ ((key.2.2.2 i hi).trans ht)⟩;exact (ch _).2 (ak9 hr (ts.length+i+1) (by omega) (fun j hj=>of_decide_eq_true (PZ.1 key.2.2.1 j (List.mem_range.2 (by omega))))).right
section
open Go.RowKit
theorem xh {w:w_} {base n:Nat} {v:v_} {xs:List v_} (h:w.ownsRow base 40 4 v (n+1) xs): ∃ g c,v=s_ (o_ ⟨g,0,n_⟩) (n+1) c:=by
 rcases h.2 with ⟨_,h2⟩ | ⟨g,cap,cur,h1,_⟩
 ·omega
 ·exact ⟨g,cap,h1⟩
theorem Ii:(Tryz.prog.info? 40).map (fun i=>(i.zero,i.size,i.bytes))=o_ (o_ (a_ #[i_ j_ 0,i_ j_ 0,i_ j_ 0,t_ ⟨#[]⟩]),4,40):=by kernel_rfl
theorem uz (r:Nat) (a:Option d_) (len cap:Nat) (w:w_) (hl:len≤1048576) (h:Rd r a len cap w):
  k_ J3 34 #[p_ (o_ ⟨r,0,n_⟩)] w fun e w'=> ∃ (g c:Nat) (os:List dN),e=r_ (s_ (o_ ⟨g,0,n_⟩) os.length c)∧os.length≤6∧mM r a len cap w w' g c os:=by
 obtain ⟨i0,hi,e0⟩:=Kw.1 Ii;simp only [Kx] at e0;have HI:Hid (Tryz.prog.info? 40=o_ i0∧i0.zero=o_ (a_ #[i_ j_ 0,i_ j_ 0,i_ j_ 0,t_ ⟨#[]⟩])∧i0.size=4∧i0.bytes=40):=⟨hi,e0⟩
 clear hi e0;have HA:Hid (mM r a len cap w (w.alloc (c_ #[] 40)) w.heap.size 0 []):=
  ⟨⟨rfl,.inr ⟨w.heap.size,0,#[],rfl,Ki _,Kj _ _,Ki _,Ky _,rfl,rfl⟩⟩,(gG.refl _ _).alloc _,h.below ((Kp _ _).alloc (Ki _) _),h,fun o ho=>by simp at ho⟩
 clear h
 go_enter func34,ntmps34
 go_wp2_with fail;generalize w.alloc (c_ #[] 40)=W0 at *;generalize hgs:w.heap.size=g0 at *;refine (dh r a len cap 5 _ hl (by omega) (by omega) HA.I.rd).mono ?_;rintro e w1 ⟨v,v0,v1,rfl,hb1,hr1⟩;have H1:Hid (mM r a len cap w w1 g0 0 []):=HA.I.move hb1 hr1;have e1:IntKind.i64.wrap (1+v)=1+v:=by rw [K8]; omega
 clear hb1 hr1 HA;go_wp2_with fail
 go_loopw [3,4] (fun v i wr=> ∃ (g c:Nat) (os:List dN) (m:Int),v=s_ (o_ ⟨g,0,n_⟩) os.length c∧i=i_ j_ m∧0≤m∧(os.length:Int)+m≤5∧Hid (mM r a len cap w wr g c os)) (fun _ i _=>(intOf i).toNat)
 case atStart=>exact ⟨g0,0,[],1+v,rfl,rfl,by omega,by simp; omega,H1⟩
 case round=>
  clear H1;obtain ⟨g,c,os,m,rfl,rfl,hm0,hm5,H⟩:=hrel;by_cases hm:0 < m
  ·go_wp2_with fail
   refine (op_any r a len cap _ hl H.I.rd).mono ?_;rintro e w4 ⟨o,hoz,rfl,hb4,hr4⟩;have H4:Hid (mM r a len cap w w4 g c os):=H.I.move hb4 hr4;have HX:Hid (mM r a len cap w (w4.alloc (c_ #[i_ j_ o.1,i_ j_ o.2.1,i_ j_ o.2.2.1,t_ o.2.2.2] 40)) g c os):=H4.I.alloc _;have e2:IntKind.i64.wrap (m - 1)=m - 1:=by rw [K8]; omega
   have hw4:=H4.I.but.size;clear hb4 hr4 H;go_wp2_with (at_builtin; refine KD _ rfl _ _ 41 rfl w.heap.size 40 i0 (a_ #[i_ j_ 0,i_ j_ 0,i_ j_ 0,t_ ⟨#[]⟩]) 4 40 underlying41 HI.I.1 HI.I.2.1 HI.I.2.2.1 HI.I.2.2.2 rfl (by decide) (s_ (o_ ⟨g,0,n_⟩) os.length c) os.length (gO os) rfl HX.I.own ⟨w4.heap.size,0,n_⟩ 1 1 [i_ j_ o.1,i_ j_ o.2.1,i_ j_ o.2.2.1,t_ o.2.2.2] (by rfl) rfl (KE (cs:= #[i_ j_ o.1,i_ j_ o.2.1,i_ j_ o.2.2.1,t_ o.2.2.2]) (t:=40) (fr:=(0,0)) (Kj w4 _)) (by simp [Value.oneCell']) (by unfold maxLen; omega) (by omega) (by simp; omega) ?_; intro v' w5 hown' hgrow hnil jV; obtain ⟨gg,cp,rfl⟩:=xh hown'; have HN:Hid (mM r a len cap w w5 gg cp (os ++ [o])):=HX.I.next hoz hgrow hown'; clear hown' hgrow hnil jV HX);go_roundw
   case rel=>exact ⟨gg,cp,os ++ [o],m - 1,by rw [nt],rfl,by omega,by rw [nt]; omega,HN⟩
   case measure=>simp [intOf]; omega
  ·go_wp2_with fail
   refine (jt r a len cap 3 _ hl (by omega) (by omega) H.I.rd).mono ?_;rintro e w3 ⟨bb,rfl,hb3,hr3⟩;have H3:Hid (mM r a len cap w w3 g c os):=H.I.move hb3 hr3;clear hb3 hr3 H;cases bb with
   | false=>
    go_wp2;go_ret;exact ⟨g,c,os,rfl,by omega,H3.I⟩
   | true=>
    have HX:Hid (mM r a len cap w (w3.alloc (c_ #[i_ j_ 17,i_ j_ 0,i_ j_ 0,t_ ⟨#[]⟩] 40)) g c os):=H3.I.alloc _;have hw4:=H3.I.but.size;go_wp2_with (at_builtin; refine KD _ rfl _ _ 41 rfl w.heap.size 40 i0 (a_ #[i_ j_ 0,i_ j_ 0,i_ j_ 0,t_ ⟨#[]⟩]) 4 40 underlying41 HI.I.1 HI.I.2.1 HI.I.2.2.1 HI.I.2.2.2 rfl (by decide) (s_ (o_ ⟨g,0,n_⟩) os.length c) os.length (gO os) rfl HX.I.own ⟨w3.heap.size,0,n_⟩ 1 1 [i_ j_ 17,i_ j_ 0,i_ j_ 0,t_ ⟨#[]⟩] (by rfl) rfl (KE (cs:= #[i_ j_ 17,i_ j_ 0,i_ j_ 0,t_ ⟨#[]⟩]) (t:=40) (fr:=(0,0)) (Kj w3 _)) (by simp [Value.oneCell']) (by unfold maxLen; omega) (by omega) (by simp; omega) ?_; intro v' w5 hown' hgrow hnil jV; obtain ⟨gg,cp,rfl⟩:=xh hown'; have HN:Hid (mM r a len cap w w5 gg cp (os ++ [(17,0,0,⟨#[]⟩)])):=HX.I.next (Ky 3) hgrow hown'; clear hown' hgrow hnil jV HX);go_ret;exact ⟨gg,cp,os ++ [(17,0,0,⟨#[]⟩)],by rw [nt]; rfl,by rw [nt]; omega,HN.I⟩
theorem vP: ∀ os:List dN,gO os=fk.flat os
 | [] =>rfl
 | o :: os=>by
  show _=fk.vals o ++ fk.flat os
  rw [← vP os];rfl
section
variable {r len cap X:Nat} {a:Option d_} {w W W2:w_} {q q2:af} {M M2:Int}
end
end
section
open Go.RowKit Go.Maps
attribute [local go_sem ↓] Go.wp_at_zero Go.wp_at_succ
theorem alk (a:Option d_) (len cap:Nat) (w:w_) (hl:len≤1048576) (hb:Bytes w a len):
  k_ J3 16 #[s_ a len cap] w fun e w'=> ∃ (g c:Nat) (os:List dN),e=r_ (s_ (o_ ⟨g,0,n_⟩) os.length c)∧os.length≤6∧Row w' (o_ ⟨g,0,n_⟩) (fk.flat os)∧(∀ o∈os,o.2.2.2.size≤3)∧B_ w.heap.size w w':=by
 go_enter func16,ntmps16
 go_wp2_with fail;refine (Gj a len cap _ hb).mono ?_;rintro e w1 ⟨rfl,hb1,hr1,-⟩;have hl1:=hr1.lt;go_wp2_with fail;refine (uz _ a len cap w1 hl hr1).mono ?_;rintro e w2 ⟨g,c,os,rfl,hn,hp⟩;have HP:Hid (mM w.heap.size a len cap w1 w2 g c os∧B_ w.heap.size w w2):=⟨hp,hb1.trans (hp.but.below (Ki _) (by omega))⟩
 clear hp hb1;go_wp2;go_ret;refine ⟨g,c,os,rfl,hn,?_,HP.I.1.sz,HP.I.2⟩;obtain ⟨a1,c1,h1,h2⟩:=cr HP.I.1.own;cases h1
 rwa [vP] at h2
structure HdS (B:w_) (g c:Nat) (l:List dN) (W:w_):Prop where
 own:W.ownsRow B.heap.size 40 4 (s_ (o_ ⟨g,0,n_⟩) l.length c) l.length (gO l)
 low:B_ B.heap.size B W
section
variable {B W A:w_} {g c g' c':Nat} {l:List dN} {o:dN}
theorem HdS.start:HdS B B.heap.size 0 [] (B.alloc (c_ #[] 40)):=
 ⟨⟨rfl,.inr ⟨B.heap.size,0,#[],rfl,Ki _,Kj _ _,Ki _,Ky _,rfl,rfl⟩⟩,(Kp _ _).alloc (Ki _) _⟩
theorem HdS.below (h:HdS B g c l W) (hb:B_ W.heap.size W A):HdS B g c l A:=⟨cR h.own hb,h.low.trans (hb.mono h.low.size)⟩
theorem HdS.alloc (h:HdS B g c l W) (x:Obj):HdS B g c l (W.alloc x):=h.below ((Kp _ _).alloc (Ki _) _)
theorem HdS.ge (h:HdS B g c l W):B.heap.size≤g:=by
 rcases Fa h.own rfl with ⟨h1,_⟩ | ⟨g',c',h1,h2,h3,_⟩
 ·cases h1
 ·cases h1
  exact h2
theorem HdS.row (h:HdS B g c l W):Row W (o_ ⟨g,0,n_⟩) (fk.flat l):=by
 obtain ⟨a1,c1,h1,h2⟩:=cr h.own;cases h1
 rwa [vP] at h2
theorem HdS.next (h:HdS B g c l W) (hg:W.grownBy A (o_ g))
  (hown:A.ownsRow B.heap.size 40 4 (s_ (o_ ⟨g',0,n_⟩) (l.length+1) c') (l.length+1) (gO l ++ [i_ j_ o.1,i_ j_ o.2.1,i_ j_ o.2.2.1,t_ o.2.2.2])):HdS B g' c' (l ++ [o]) A:=by
 have hf:=h.ge;refine ⟨?_,h.low.grown hg h.low.size (fun k hk=>by cases hk; exact hf)⟩;rw [pK,nt];simpa [gO] using hown
end
def akG (l:List dN):Prop:=l.length≤3∧ ∃ ts:List ByteArray,l=ahX ts∧ ∀ t∈ts,bw t=true
theorem akG.nil:akG [] :=⟨by simp,[],rfl,by simp⟩
theorem akG.snoc {l:List dN} {t:ByteArray} (h:akG l) (hl:l.length < 3) (ht:bw t=true):akG (l ++ [(8,1,-1,t)]):=by
 obtain ⟨h1,ts,rfl,h2⟩:=h;refine ⟨by simp; omega,ts ++ [t],by simp [ahX],fun x hx=> ?_⟩;rcases List.mem_append.1 hx with hx | hx
 ·exact h2 x hx
 ·rw [List.mem_singleton.1 hx]; exact ht
theorem alJ {k n m:Int} {s:ByteArray} (h:mQ k n m s=true) (hs:0 < s.size):bw s=true:=by
 have he:bI s=false:=by
  cases he:bI s with
  | false=>rfl
  | true=>
   have:=empty_eq he
   subst this;exact absurd hs (by decide)
 unfold mQ at h;rw [he] at h
 repeat' split at h
 all_goals simp_all
theorem alD (n:Nat):ags n ++ [(9,1,-1,rM)] =ags (n+1):=by simp [ags,List.replicate_succ']
theorem aly (n:Nat):(ags n).length=n:=by simp [ags]
abbrev alA (l:List dN):Option aE:=kD (ahG (air (ahG (agA l)) 2 1 (ags l.length))) 2
theorem al3 {l:List dN} (h:akG l) (h0:1≤l.length):
  (air ahc 1 5 l).isSome=true∧(agA l).isSome=true∧(air (ahG (agA l)) 2 1 (ags l.length)).isSome=true∧(alA l).isSome=true∧
   ∀ i,i < l.length→ ∃ q,agc (ahG (alA l)) 0 ((l.length:Int)+i+1)=o_ q∧ ∀ o,l[i]? =o_ o→((ew q 2).getD uK).got=o.2.2.2:=by
 obtain ⟨h1,ts,rfl,h2⟩:=h;have e:(ahX ts).length=ts.length:=by simp [ahX]
 rw [e] at h0 h1;unfold alA;rw [e];obtain ⟨c1,c2,c3,c4,c5⟩:=alZ h0 h1 h2;refine ⟨c1,c2,c3,c4,fun i hi=> ?_⟩;obtain ⟨q,hq,hg⟩:=c5 i hi;refine ⟨q,hq,fun o ho=>hg _ ?_⟩;simp only [ahX,List.getElem?_map,Kw] at ho;obtain ⟨t,ht,rfl⟩:=ho;exact ht
theorem alI {l:List dN} (h:akG l):l.length≤1048576∧ ∀ o∈l,o.2.2.2.size≤1048576:=by
 obtain ⟨h1,ts,rfl,h2⟩:=h;refine ⟨by omega,fun o ho=> ?_⟩;obtain ⟨t,ht,rfl⟩:=List.mem_map.1 ho
 have:=h2 t ht
 simp only [bw,J7,decide_eq_true_eq] at this
 show t.size≤_
 omega
theorem alH (n:Nat) (h:n≤3):(ags n).length≤1048576∧ ∀ o∈ags n,o.2.2.2.size≤1048576:=
 ⟨by rw [aly]; omega,fun o ho=>by rw [(List.mem_replicate.1 ho).2]; decide⟩
theorem alE (a:Option d_) (len cap:Nat) (E:d_ × d_ × d_) (w:w_) (he:Ers w w.heap.size E) (hb:len≤1048576→Bytes w a len):
  k_ J3 6 #[s_ a len cap] w fun e w'=>e=r_ (b_ true)∧B_ w.heap.size w w':=by
 by_cases hl:1048576 < len
 ·have hd:decide (1048576 < len)=true:=by simp [hl]
  go_enter func6,ntmps6
  go_wp2_with (go_at_call 7; refine (DG _ _ _ _).mono ?_; rintro e w' ⟨rfl,rfl⟩; rw [hd]);go_ret;exact ⟨rfl,by go_grown⟩
 have hd:decide (1048576 < len)=false:=by simp [hl]
 have HBY:Hid (Bytes w a len):=hb (by omega);clear hb;have HER:=aA he;clear he;have HL:Hid (len≤1048576):=(by omega:len≤1048576)
 clear hl
 go_enter func6,ntmps6
 go_wp2_with (go_at_call 7; refine (DG _ _ _ _).mono ?_; rintro e w' ⟨rfl,rfl⟩; rw [hd]);clear hd;have Mb:=alk a len cap w' HL.I HBY.I;go_wp2_with fail;refine Mb.mono ?_;clear Mb HBY HL;rintro e SH ⟨gp,cp0,os,rfl,hn,hr,hz,hb⟩;have HA:=aA (show Row SH (o_ ⟨gp,0,n_⟩) (fk.flat os)∧(∀ o∈os,o.2.2.2.size≤3)∧B_ w'.heap.size w' SH from ⟨hr,hz,hb⟩);clear hr hz hb;have HD:Hid (HdS SH SH.heap.size 0 [] (SH.alloc (c_ #[] 40))):=HdS.start;obtain ⟨i0,hi,e0⟩:=Kw.1 Ii;simp only [Kx] at e0;have HI:Hid (Tryz.prog.info? 40=o_ i0∧i0.zero=o_ (a_ #[i_ j_ 0,i_ j_ 0,i_ j_ 0,t_ ⟨#[]⟩])∧i0.size=4∧i0.bytes=40):=⟨hi,e0⟩
 clear hi e0;go_upto_region 6 with fail;generalize SH.alloc (c_ #[] 40)=af8 at *;obtain ⟨g0,hg0⟩: ∃ g,g=SH.heap.size:=⟨_,rfl⟩
 rw [← hg0] at HD ⊢;clear hg0
 go_loopw [4,5] (fun v i wr=> ∃ (j g c:Nat) (l:List dN),v=s_ (o_ ⟨g,0,n_⟩) l.length c∧i=i_ j_ j∧j≤os.length∧l.length≤3∧Hid (akG l∧HdS SH g c l wr)) (fun _ i _=>os.length - (Go.RowKit.intOf i).toNat)
 case atStart=>exact ⟨0,g0,0,[],rfl,rfl,by omega,by simp,akG.nil,HD.I⟩
 case round=>
  clear HD;obtain ⟨j,g,c,l,rfl,rfl,hj,hl3,HS⟩:=hrel
  rename w_=>W0
  go_upto_region 6 with fail
  go_cut [33] from 25 to 32 (fun v wx=>v=b_ (decide (j < os.length∧l.length < 3))∧wx=W0)
  case first=>
   by_cases h1:j < os.length
   ·have d1:decide ((j:Int) < (os.length:Int))=true:=decide_eq_true (by omega)
    by_cases h2:l.length < 3
    ·have d2:decide ((l.length:Int) < 3)=true:=decide_eq_true (by omega)
     go_wp2;go_meet;exact ⟨by simp [h1,h2],rfl⟩
    ·have d2:decide ((l.length:Int) < 3)=false:=decide_eq_false (by omega)
     go_wp2;go_meet;exact ⟨by simp [h1,h2],rfl⟩
   ·have d1:decide ((j:Int) < (os.length:Int))=false:=decide_eq_false (by omega)
    go_wp2;go_meet;exact ⟨by simp [h1],rfl⟩
  case rest=>
   obtain ⟨rfl,hw⟩:=hcut;rw [hw];clear hw wc;by_cases hc:j < os.length∧l.length < 3
   ·obtain ⟨h1,h2⟩:=hc
    have i0_:(0:Int)≤(j:Int):=by omega
    have i1_:(j:Int) < (os.length:Int):=by omega
    obtain ⟨o,ho⟩: ∃ o,os[j]? =o_ o:=⟨_,Kz h1⟩
    have HZ:=aA (HA.I.2.1 o (List.mem_of_getElem? ho));obtain ⟨afz,hq,m0,m1,m2,m3⟩:=Jm (HA.I.1.below HS.I.2.low) ho;cases hq;have HC:Hid (∀ W,B_ W0.heap.size W0 W→W.cell? ⟨gp,j * 4+3,n_⟩=o_ (t_ o.2.2.2)):=fun W hb=>by
     obtain ⟨afz,hq,-,-,-,n3⟩:=Jm (HA.I.1.below (HS.I.2.below hb).low) ho;cases hq;exact n3
    clear ho;go_wp2_with fail;refine (yx o.1 o.2.1 o.2.2.1 o.2.2.2 _ (by have:=HZ.I; omega)).mono ?_;rintro e W1 ⟨rfl,hb⟩;have n3:=HC.I W1 hb;have mH:=aA (HS.I.2.below hb);clear m0 m1 m2 m3 hb HC;cases hop:mQ o.1 o.2.1 o.2.2.1 o.2.2.2
    case false=>
     go_wp2;go_roundw
     case rel=>exact ⟨j+1,g,c,l,rfl,by go_num,by omega,hl3,HS.I.1,mH.I⟩
     case measure=>simp [Go.RowKit.intOf]; omega
    case true=>
     by_cases hsz:0 < o.2.2.2.size
     ·have d3:decide ((o.2.2.2.size:Int) > 0)=true:=decide_eq_true (by omega)
      have HP:=aA (alJ hop hsz);clear hop;have HX:=aA (mH.I.alloc (c_ #[i_ j_ 8,i_ j_ 1,i_ j_ (-1),t_ o.2.2.2] 40));have hw4:=HX.I.low.size;go_wp2_with (at_builtin; refine KD _ rfl _ _ 41 rfl SH.heap.size 40 i0 (a_ #[i_ j_ 0,i_ j_ 0,i_ j_ 0,t_ ⟨#[]⟩]) 4 40 underlying41 HI.I.1 HI.I.2.1 HI.I.2.2.1 HI.I.2.2.2 rfl (by decide) (s_ (o_ ⟨g,0,n_⟩) l.length c) l.length (gO l) rfl HX.I.own ⟨W1.heap.size,0,n_⟩ 1 1 [i_ j_ 8,i_ j_ 1,i_ j_ (-1),t_ o.2.2.2] (by rfl) rfl (KE (cs:= #[i_ j_ 8,i_ j_ 1,i_ j_ (-1),t_ o.2.2.2]) (t:=40) (fr:=(0,0)) (Kj W1 _)) (by simp [Value.oneCell']) (by unfold maxLen; omega) (by omega) (by simp at hw4 ⊢; omega) ?_; intro v' w5 hown' hgrow hnil jV; obtain ⟨gg,cp,rfl⟩:=xh hown'; have HN:=aA (HX.I.next (o:=(8,1,-1,o.2.2.2)) hgrow hown'); clear hown' hgrow hnil jV HX hw4);go_roundw
      case rel=>exact ⟨j+1,gg,cp,l ++ [(8,1,-1,o.2.2.2)],by rw [nt],by go_num,by omega,by rw [nt]; omega,HS.I.1.snoc h2 HP.I,HN.I⟩
      case measure=>simp [Go.RowKit.intOf]; omega
     ·have d3:decide ((o.2.2.2.size:Int) > 0)=false:=decide_eq_false (by omega)
      clear hop;go_wp2;go_roundw
      case rel=>exact ⟨j+1,g,c,l,rfl,by go_num,by omega,hl3,HS.I.1,mH.I⟩
      case measure=>simp [Go.RowKit.intOf]; omega
   ·rw [show decide (j < os.length∧l.length < 3)=false from decide_eq_false hc]
    clear hc;obtain ⟨bz,hbz⟩: ∃ b,Hid (b=((l.length:Int) == 0)):=⟨_,rfl⟩
    go_upto_if 61 with fail
    rw [← hbz.I]
    go_cut [4] from 59 to 65 (fun v wx=> ∃ (g c:Nat) (l:List dN),v=s_ (o_ ⟨g,0,n_⟩) l.length c∧1≤l.length∧Hid (akG l∧HdS SH g c l wx))
    case first=>
     cases bz
     case true=>
      have HZ:=aA (show l.length=0 from by have h5:=hbz.I.symm; simpa using h5);clear hbz;have HX:=aA (HS.I.2.alloc (c_ #[i_ j_ 8,i_ j_ 1,i_ j_ (-1),t_ ⟨#[97]⟩] 40));have hw4:=HX.I.low.size;go_wp2_with (at_builtin; refine KD _ rfl _ _ 41 rfl SH.heap.size 40 i0 (a_ #[i_ j_ 0,i_ j_ 0,i_ j_ 0,t_ ⟨#[]⟩]) 4 40 underlying41 HI.I.1 HI.I.2.1 HI.I.2.2.1 HI.I.2.2.2 rfl (by decide) (s_ (o_ ⟨g,0,n_⟩) l.length c) l.length (gO l) rfl HX.I.own ⟨W0.heap.size,0,n_⟩ 1 1 [i_ j_ 8,i_ j_ 1,i_ j_ (-1),t_ ⟨#[97]⟩] (by rfl) rfl (KE (cs:= #[i_ j_ 8,i_ j_ 1,i_ j_ (-1),t_ ⟨#[97]⟩]) (t:=40) (fr:=(0,0)) (Kj W0 _)) (by simp [Value.oneCell']) (by unfold maxLen; omega) (by omega) (by simp at hw4 ⊢; omega) ?_; intro v' w5 hown' hgrow hnil jV; obtain ⟨gg,cp,rfl⟩:=xh hown'; have HN:=aA (HX.I.next (o:=(8,1,-1,⟨#[97]⟩)) hgrow hown'); clear hown' hgrow hnil jV HX hw4);go_meet;exact ⟨gg,cp,l ++ [(8,1,-1,⟨#[97]⟩)],by rw [nt],by simp,HS.I.1.snoc (by have:=HZ.I; omega) (by decide),HN.I⟩
     case false=>
      have HZ:=aA (show 1≤l.length from by have h5:=hbz.I.symm; simp at h5; have:=List.length_pos_iff.2 h5; omega);clear hbz;go_wp2;go_meet;exact ⟨g,c,l,rfl,HZ.I,HS.I⟩
    case rest=>
     clear HS hl3 hj hbz bz;obtain ⟨g2,c2,l2,rfl,h1,HS⟩:=hcut;have al1:Hid (B_ w'.heap.size w' wc):=HA.I.2.2.trans (HS.I.2.low.mono HA.I.2.2.size);replace HER:=aA ((HER.I.below al1.I).up al1.I.size);have h3:l2.length≤3:=HS.I.1.1;have HK:=aA (al3 HS.I.1 h1);have S:Hid (RnS wc [] [] wc):=⟨by simp,by simp,Kp _ _⟩
     have Mb:=akw (o_ ⟨g2,0,n_⟩) l2 c2 wc (alI HS.I.1) HS.I.2.row;rw [show ((air ahc 1 5 l2).isSome && (agA l2).isSome)=true by rw [HK.I.1,HK.I.2.1]; rfl] at Mb;clear HA;go_wp2_with fail;refine Mb.mono ?_;clear Mb;rintro e A2 ⟨p,rfl,ho,hp,hb⟩;replace S:=aA (S.I.put hb ho (by rw [hp]; exact wZ (ahL _ _ _ _)));have S5:=aA hp;clear ho hb hp;go_upto_region 13 with (refine ec 6 69 p.cells (Kj _ _) ?_);generalize (A2.alloc (c_ ar 36)).setRow A2.heap.size p.cells=WX1 at *;generalize A2.heap.size=X1 at *;have HD:Hid (HdS WX1 WX1.heap.size 0 [] (WX1.alloc (c_ #[] 40))):=HdS.start;go_upto_region 16 with fail;generalize WX1.alloc (c_ #[] 40)=B1 at *;obtain ⟨g1,CT⟩: ∃ g,g=WX1.heap.size:=⟨_,rfl⟩
     rw [← CT] at HD ⊢;clear CT
     go_loopw [9,10] (fun v i wr=> ∃ (j g c:Nat) (l:List dN),v=s_ (o_ ⟨g,0,n_⟩) l.length c∧i=i_ j_ j∧j≤l2.length∧Hid (l.length=j∧l=ags j∧HdS WX1 g c l wr)) (fun _ i _=>l2.length - (Go.RowKit.intOf i).toNat)
     case atStart=>exact ⟨0,g1,0,[],rfl,rfl,by omega,rfl,rfl,HD.I⟩
     case round=>
      clear HD;obtain ⟨j,g,c,l,rfl,rfl,hj,HD⟩:=hrel
      rename w_=>W0
      have hl3:l.length≤3:=by have:=HD.I.1; omega
      by_cases hlt:j < l2.length
      ·have d1:decide ((j:Int) < (l2.length:Int))=true:=decide_eq_true (by omega)
       have HX:=aA (HD.I.2.2.alloc (c_ #[i_ j_ 9,i_ j_ 1,i_ j_ (-1),t_ ⟨#[]⟩] 40));have hw4:=HX.I.low.size;go_wp2_with (at_builtin; refine KD _ rfl _ _ 41 rfl WX1.heap.size 40 i0 (a_ #[i_ j_ 0,i_ j_ 0,i_ j_ 0,t_ ⟨#[]⟩]) 4 40 underlying41 HI.I.1 HI.I.2.1 HI.I.2.2.1 HI.I.2.2.2 rfl (by decide) (s_ (o_ ⟨g,0,n_⟩) l.length c) l.length (gO l) rfl HX.I.own ⟨W0.heap.size,0,n_⟩ 1 1 [i_ j_ 9,i_ j_ 1,i_ j_ (-1),t_ ⟨#[]⟩] (by rfl) rfl (KE (cs:= #[i_ j_ 9,i_ j_ 1,i_ j_ (-1),t_ ⟨#[]⟩]) (t:=40) (fr:=(0,0)) (Kj W0 _)) (by simp [Value.oneCell']) (by unfold maxLen; omega) (by omega) (by simp at hw4 ⊢; omega) ?_; intro v' w5 hown' hgrow hnil jV; obtain ⟨gg,cp,rfl⟩:=xh hown'; have HN:=aA (HX.I.next (o:=(9,1,-1,⟨#[]⟩)) hgrow hown'); clear hown' hgrow hnil jV HX hw4);go_roundw
       case rel=>exact ⟨j+1,gg,cp,l ++ [(9,1,-1,⟨#[]⟩)],by rw [nt],by go_num,by omega,by rw [nt,HD.I.1],by rw [HD.I.2.1]; exact alD j,HN.I⟩
       case measure=>simp [Go.RowKit.intOf]; omega
      ·have d1:decide ((j:Int) < (l2.length:Int))=false:=decide_eq_false (by omega)
       obtain rfl:j=l2.length:=by omega
       clear hlt hj;go_upto_region 19 with fail;clear d1;rw [HD.I.1];replace S:=aA (S.I.below HD.I.2.2.low);have S1:=S;have Mb:=SL p 2 1 (o_ ⟨g,0,n_⟩) (ags l2.length) c W0 (by decide) (alH _ h3) (by rw [← HD.I.2.1]; exact HD.I.2.2.row) (S1.I.good (x:=(X1,p)) (by simp));rw [S5.I,show cB (ahG (agA l2)) { ahG (agA l2) with L8:=bY (·.id) (newP 2 1 (ags l2.length)) (ahG (agA l2)).L8 } =air (ahG (agA l2)) 2 1 (ags l2.length) from rfl,aly] at Mb;go_wp2_with (refine eT 6 (g:=X1) (cs:=p.cells) (S.I.ins (X1,p) (by simp)).1.1 ?_);refine Mb.mono ?_;clear Mb;rintro e A3 ⟨p2,rfl,ho,hp,hb⟩;rw [HK.I.2.2.1];have HB:=aA ((S1.I.below hb).ins (X1,p) (by simp)).1.1;replace S:=aA (S1.I.set hb ho (by rw [hp]; exact ahL _ _ _ _));have Pp2:=aA hp;clear ho hb hp S1 HD;go_upto_region 20 with (refine ec 6 87 p2.cells HB.I ?_);clear HB;generalize A3.setRow X1 p2.cells=W2 at *;have Mb:=Nt p2 2 W2 (by decide) (S.I.good (x:=(X1,p2)) (by simp));rw [Pp2.I,aj8,show kD (ahG (air (ahG (agA l2)) 2 1 (ags l2.length))) 2=alA l2 from rfl] at Mb;go_wp2_with (refine eT 6 (g:=X1) (cs:=p2.cells) (S.I.ins (X1,p2) (by simp)).1.1 ?_);refine Mb.mono ?_;clear Mb;rintro e afT ⟨p3,rfl,ho,hp,hb⟩;rw [HK.I.2.2.2.1];have HB:=aA ((S.I.below hb).ins (X1,p2) (by simp)).1.1;replace S:=aA (S.I.set hb ho (by rw [hp]; exact wZ (ahL _ _ _ _)));have Pp3:=aA hp;clear ho hb hp Pp2 S5;go_upto_region 24 with (refine ec 6 92 p3.cells HB.I ?_);clear HB;generalize afT.setRow X1 p3.cells=W3 at *
       go_loopw [13] (fun i wr=> ∃ j:Nat,i=i_ j_ j∧j≤l2.length∧Hid (RnS wc [(X1,p3)] [] wr)) (fun i _=>l2.length - (Go.RowKit.intOf i).toNat)
       case atStart=>exact ⟨0,rfl,by omega,S⟩
       case round=>
        clear S;obtain ⟨j,rfl,hj,S⟩:=hrel
        rename w_=>YI
        by_cases hlt:j < l2.length
        ·have d1:decide ((j:Int) < (l2.length:Int))=true:=decide_eq_true (by omega)
         obtain ⟨R1,Ps,CT⟩:=HK.I.2.2.2.2 j hlt;obtain ⟨R2,Po⟩: ∃ R,Hid (R=agc (ahG (alA l2)) 0 ((l2.length:Int)+j+1)):=⟨_,rfl⟩
         obtain ⟨o,ho⟩: ∃ o,l2[j]? =o_ o:=⟨_,Kz hlt⟩
         have HY:Hid (R2.isSome=true∧((ew (R2.getD cN) 2).getD uK).got=o.2.2.2):=by rw [Po.I,Ps]; exact ⟨rfl,CT o ho⟩
         have HC:Hid (∀ L B W,RnS wc L B W→W.cell? ⟨g2,j * 4+3,n_⟩=o_ (t_ o.2.2.2)):=fun L B W h=>by
          obtain ⟨afz,hq,-,-,-,n3⟩:=Jm (HS.I.2.row.below h.low) ho;cases hq;exact n3
         clear ho Ps CT R1;have i0_:(0:Int)≤(j:Int):=by omega
         have i1_:(j:Int) < (l2.length:Int):=by omega
         have i2_:(l2.length:Int)≤3:=by omega
         go_upto_region 26 with fail;have Mb:=agC p3 0 ((l2.length:Int)+j+1) E _ (S.I.good (x:=(X1,p3)) (by simp)) ((HER.I.below S.I.low).up S.I.low.size) (by decide);rw [Pp3.I] at Mb;rw [aj8,← Po.I] at Mb;go_wp2_with (refine eT 6 (g:=X1) (cs:=p3.cells) (S.I.ins (X1,p3) (by simp)).1.1 ?_);refine Mb.mono ?_;clear Mb;rintro e AX3 ⟨b,rfl,ho,hp,hb⟩;replace S:=aA (S.I.put hb ho (by rw [hp]; exact (by rw [Po.I]; exact agJ)));have xa:=aA hp;clear ho hb hp;go_upto_region 27 with (refine ec 14 116 b.cells (Kj _ _) ?_);generalize (AX3.alloc (c_ ar 36)).setRow AX3.heap.size b.cells=WX3 at *;generalize AX3.heap.size=X3 at *;have Mb:=ahR p3 0 ((l2.length:Int)+j+1) _ (dV (S.I.ins (X1,p3) (by simp)).2.1) (fun x hx=>(cY (S.I.ins (X1,p3) (by simp)).2.1 hx).1) (S.I.ins (X1,p3) (by simp)).1.2.at (by decide);rw [Pp3.I] at Mb;rw [aj8,← Po.I] at Mb;go_wp2_with (refine eT 6 (g:=X1) (cs:=p3.cells) (S.I.ins (X1,p3) (by simp)).1.1 ?_);refine Mb.mono ?_;clear Mb;rintro e AX4 ⟨r,rfl,ho,hp,hb⟩;replace S:=aA (S.I.put hb ho (by rw [hp]; exact (by rw [Po.I]; exact agJ)));have yc:=aA hp;clear ho hb hp;go_upto_region 28 with (refine ec 16 125 r.cells (Kj _ _) ?_);generalize (AX4.alloc (c_ ar 36)).setRow AX4.heap.size r.cells=WX4 at *;generalize AX4.heap.size=X4 at *;have Mb:=uN b 2 _ (by decide) (S.I.good (x:=(X3,b)) (by simp));go_wp2_with (refine eT 14 (g:=X3) (cs:=b.cells) (S.I.ins (X3,b) (by simp)).1.1 ?_);refine Mb.mono ?_;clear Mb;rintro e AX6 ⟨y,rfl,-,hp,hb⟩;replace S:=aA (S.I.OS (x:=y) hb);have t7:=aA hp;clear hb hp;go_upto_region 29 with (refine wpList_store_row rfl 44 (.tmp 18) (.tmp 130) rfl AX6.heap.size _ _ (aX y) rfl rfl (Kj _ _) (by kernel_rfl) rfl (by kernel_rfl) ?_);generalize (AX6.alloc (c_ cE 44)).setRow AX6.heap.size (aX y)=WX6 at *;generalize AX6.heap.size=BT at *;rw [HY.I.1];have z:y.got=o.2.2.2:=by have h5:=HY.I.2; rw [← xa.I,← t7.I] at h5; exact h5
         refine aT (fun W=>RnS wc [(X4,r),(X3,b),(X1,p3)] [(BT,y)] W) (by kernel_rfl) (S.I.below (Kp _ _).drew) ?_
         iterate 7 (refine PI ?_)
         refine PI ?_ (hy:=fun w0 hS0=>by obtain ⟨m0,m1,m2,m3,m4,m5,m6,m7⟩:=(hS0.ins (X3,b) (by simp)).1.1.cells; go_simp; try with_reducible rfl);refine PI ?_ (hy:=fun w0 hS0=>by obtain ⟨m0,m1,m2,m3,m4,m5,m6,m7⟩:=(hS0.ins (X4,r) (by simp)).1.1.cells; go_simp; try with_reducible rfl);refine cl (b_ true) 13 #[a_ b.cells,a_ r.cells] ?_ (fun w0 h0=>(Nn b r w0 _ _ (h0.ins (X3,b) (by simp)).2.1 (h0.ins (X3,b) (by simp)).1.2 (h0.ins (X4,r) (by simp)).2.1 (h0.ins (X4,r) (by simp)).1.2 (xa.I.trans yc.I.symm)).mono fun e w1 h=>⟨h.1,h0.below h.2⟩) ?_
         ·intro w0 hS0
          unfold af.cells
          go_simp
         simp only [pt,sb,s0,s1]
         iterate 4 (refine PI ?_)
         refine PI ?_ (hy:=fun w0 hS0=>by obtain ⟨u0,u1,u2,u3,u4,u5,u6,u7,u8,u9,u10,u11⟩:=bo (hS0.box (BT,y) (by simp)); go_simp; try with_reducible rfl)
         iterate 4 (refine PI ?_)
         refine PI ?_ (hy:=fun w0 hS0=>by have n3:=HC.I _ _ w0 hS0; go_simp; try with_reducible rfl)
         iterate 2 (refine PI ?_)
         refine bk (by kernel_rfl) (fun JA hS9=> ?_) _;go_wp2;go_roundw
         case rel=>exact ⟨j+1,by go_num,by omega,fun x hx=>hS9.ins x (by simp at hx ⊢; simp [hx]),by simp,hS9.low⟩
         case measure=>simp [Go.RowKit.intOf]; omega
        ·have d1:decide ((j:Int) < (l2.length:Int))=false:=decide_eq_false (by omega)
         go_wp2;go_ret;exact ⟨rfl,al1.I.trans (S.I.low.mono al1.I.size)⟩
end
end Go.Proofs.YtgdmbemagdbmaaaGreatDoor
