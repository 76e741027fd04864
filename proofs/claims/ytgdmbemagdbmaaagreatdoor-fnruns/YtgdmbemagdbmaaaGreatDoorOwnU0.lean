/- What the proof leans on, part 0. -/
import Derived.Test.YtgdmbemagdbmaaaGreatDoorOwnR13
set_option linter.unusedVariables false
set_option maxRecDepth 100000
set_option maxHeartbeats 8000000
open Go.Proofs.Tryz
open Go renaming World->w_,Calls->k_,Addr->d_
open Go.Ending renaming returned->r_
open Go.IntKind renaming i64->j_
open Go.Obj renaming cells->c_
open Go.RowKit renaming Below->B_
open Go.Value renaming int->i_,slice->s_,bool->b_,string->t_
open Option renaming some->o_,none->n_
open Bool renaming and_eq_true->J7
open Go renaming heap_alloc_new->Kj

namespace Go.Proofs.YtgdmbemagdbmaaaGreatDoor
open Go.RowKit Go.Maps
attribute [local go_sem ↓] Go.wp_at_zero Go.wp_at_succ
theorem ak7 (a:Option d_) (len cap:Nat) (E:d_ × d_ × d_) (w:w_) (he:Ers w w.heap.size E) (hb:len≤1048576→Bytes w a len):
  k_ Tryz.prog 3 #[s_ a len cap] w fun e w'=>e=r_ (b_ true)∧B_ w.heap.size w w':=by
 by_cases hl:1048576 < len
 ·have hd:decide (1048576 < len)=true:=by simp [hl]
  go_enter func3,ntmps3
  go_wp2_with (go_at_call 7; refine (DG _ _ _ _).mono ?_; rintro e w' ⟨rfl,rfl⟩; rw [hd]);go_ret;exact ⟨rfl,by go_grown⟩
 have hd:decide (1048576 < len)=false:=by simp [hl]
 have HBY:Hid (Bytes w a len):=hb (by omega);clear hb;have HER:=aA he;clear he;have HL:Hid (len≤1048576):=(by omega:len≤1048576)
 clear hl
 go_enter func3,ntmps3
 go_wp2_with (go_at_call 7; refine (DG _ _ _ _).mono ?_; rintro e w' ⟨rfl,rfl⟩; rw [hd]);clear hd;have Mb:=ai7 a len cap w' HL.I HBY.I;go_wp2_with fail;refine Mb.mono ?_;clear Mb HBY HL;rintro e SH ⟨mj,t,g,n,c,Z,rfl,-,-,-,-,hb⟩;have S:Hid (RnS w' [] [] (SH.alloc (c_ #[i_ j_ mj,s_ (o_ ⟨g,0,n_⟩) n c] 26))):=⟨by simp,by simp,hb.alloc hb.size _⟩
 clear hb;go_upto_region 4 with fail;generalize SH.alloc (c_ #[i_ j_ mj,s_ (o_ ⟨g,0,n_⟩) n c] 26)=W0 at *;obtain ⟨k,hk,ek⟩:=alu t;go_upto_region 5 with fail;have HN:=aA (akO hk);have n0:(1:Int)≤1+(k:Int):=by omega
 have n1:1+(k:Int)≤32:=by omega
 generalize 1+(k:Int)=v at *;clear ek hk;unfold akQ at HN;obtain ⟨HN1,HN2⟩:=(J7 _ _).mp HN.I;obtain ⟨HN3,HN4⟩:=(J7 _ _).mp HN1;have WY:=aA HN3;have HX:=aA (aiM HN4);have HY:=aA (aiM HN2);clear HN HN1 HN2 HN3 HN4;have Mb:=akw (o_ ⟨W0.heap.size,0,n_⟩) [(1,v,0,rM)] 1 (W0.alloc (c_ #[i_ j_ 1,i_ j_ v,i_ j_ 0,t_ rM] 40)) ⟨by simp,fun o ho=>by rw [List.mem_singleton.1 ho]; exact ajK⟩ (ake W0 [i_ j_ 1,i_ j_ v,i_ j_ 0,t_ rM] 40);rw [WY.I] at Mb;replace S:=aA (S.I.below ((Below.refl _ _).alloc (Nat.le_refl _) (c_ #[i_ j_ 1,i_ j_ v,i_ j_ 0,t_ rM] 40)));go_wp2_with fail;refine Mb.mono ?_;clear Mb;rintro e af8 ⟨p,rfl,ho,hp,hb⟩;replace S:=aA (S.I.put hb ho (by rw [hp]; exact wZ (ahL _ _ _ _)));have S5:=aA hp;clear ho hb hp;go_upto_region 8 with (refine ec 6 33 p.cells (Kj _ _) ?_);generalize (af8.alloc (c_ ar 36)).setRow af8.heap.size p.cells=WX1 at *;generalize af8.heap.size=X1 at *;obtain ⟨R1,Ps⟩: ∃ R,Hid (R=agc (ahG (agA [(1,v,0,rM)])) 7 (v - 1)):=⟨_,rfl⟩
 obtain ⟨R2,Po⟩: ∃ R,Hid (R=agc (ahG (agA [(1,v,0,rM)])) 7 v):=⟨_,rfl⟩
 rw [← Ps.I] at HX;rw [← Po.I] at HY;have Mb:=agC p 7 (v - 1) E _ (S.I.good (x:=(X1,p)) (by simp)) ((HER.I.below S.I.low).up S.I.low.size) (by decide);rw [S5.I] at Mb;rw [← Ps.I] at Mb;go_wp2_with (refine eT 6 (g:=X1) (cs:=p.cells) (S.I.ins (X1,p) (by simp)).1.1 ?_);refine Mb.mono ?_;clear Mb;rintro e AX2 ⟨q,rfl,ho,hp,hb⟩;replace S:=aA (S.I.put hb ho (by rw [hp]; exact (by rw [Ps.I]; exact agJ)));have b8:=aA hp;clear ho hb hp;go_upto_region 9 with (refine ec 8 42 q.cells (Kj _ _) ?_);generalize (AX2.alloc (c_ ar 36)).setRow AX2.heap.size q.cells=WX2 at *;generalize AX2.heap.size=X2 at *;have Mb:=agC p 7 (v) E _ (S.I.good (x:=(X1,p)) (by simp)) ((HER.I.below S.I.low).up S.I.low.size) (by decide);rw [S5.I] at Mb;rw [← Po.I] at Mb;go_wp2_with (refine eT 6 (g:=X1) (cs:=p.cells) (S.I.ins (X1,p) (by simp)).1.1 ?_);refine Mb.mono ?_;clear Mb;rintro e AX3 ⟨b,rfl,ho,hp,hb⟩;replace S:=aA (S.I.put hb ho (by rw [hp]; exact (by rw [Po.I]; exact agJ)));have xa:=aA hp;clear ho hb hp;go_upto_region 10 with (refine ec 10 48 b.cells (Kj _ _) ?_);generalize (AX3.alloc (c_ ar 36)).setRow AX3.heap.size b.cells=WX3 at *;generalize AX3.heap.size=X3 at *;have Mb:=ahR p 7 (v) _ (dV (S.I.ins (X1,p) (by simp)).2.1) (fun x hx=>(cY (S.I.ins (X1,p) (by simp)).2.1 hx).1) (S.I.ins (X1,p) (by simp)).1.2.at (by decide);rw [S5.I] at Mb;rw [← Po.I] at Mb;go_wp2_with (refine eT 6 (g:=X1) (cs:=p.cells) (S.I.ins (X1,p) (by simp)).1.1 ?_);refine Mb.mono ?_;clear Mb;rintro e AX4 ⟨r,rfl,ho,hp,hb⟩;replace S:=aA (S.I.put hb ho (by rw [hp]; exact (by rw [Po.I]; exact agJ)));have yc:=aA hp;clear ho hb hp;go_upto_region 11 with (refine ec 12 54 r.cells (Kj _ _) ?_);generalize (AX4.alloc (c_ ar 36)).setRow AX4.heap.size r.cells=WX4 at *;generalize AX4.heap.size=X4 at *;have Mb:=uN q 1 _ (by decide) (S.I.good (x:=(X2,q)) (by simp));go_wp2_with (refine eT 8 (g:=X2) (cs:=q.cells) (S.I.ins (X2,q) (by simp)).1.1 ?_);refine Mb.mono ?_;clear Mb;rintro e AX5 ⟨x,rfl,-,hp,hb⟩;replace S:=aA (S.I.OS (x:=x) hb);have W7:=aA hp;clear hb hp;go_upto_region 12 with (refine wpList_store_row rfl 44 (.tmp 14) (.tmp 59) rfl AX5.heap.size _ _ (aX x) rfl rfl (Kj _ _) ZcI rfl ZcI ?_);generalize (AX5.alloc (c_ cE 44)).setRow AX5.heap.size (aX x)=WX5 at *;generalize AX5.heap.size=YV at *;have Mb:=uN b 1 _ (by decide) (S.I.good (x:=(X3,b)) (by simp));go_wp2_with (refine eT 10 (g:=X3) (cs:=b.cells) (S.I.ins (X3,b) (by simp)).1.1 ?_);refine Mb.mono ?_;clear Mb;rintro e AX6 ⟨y,rfl,-,hp,hb⟩;replace S:=aA (S.I.OS (x:=y) hb);have t7:=aA hp;clear hb hp;go_upto_region 13 with (refine wpList_store_row rfl 44 (.tmp 16) (.tmp 64) rfl AX6.heap.size _ _ (aX y) rfl rfl (Kj _ _) ZcI rfl ZcI ?_);generalize (AX6.alloc (c_ cE 44)).setRow AX6.heap.size (aX y)=WX6 at *;generalize AX6.heap.size=BT at *;rw [HY.I.1];have f1:R2.isSome=true:=HY.I.1;have Mb:=Nn b r _ _ _ (S.I.ins (X3,b) (by simp)).2.1 (S.I.ins (X3,b) (by simp)).1.2 (S.I.ins (X4,r) (by simp)).2.1 (S.I.ins (X4,r) (by simp)).1.2 (xa.I.trans yc.I.symm);unfold af.cells at Mb;obtain ⟨m0,m1,m2,m3,m4,m5,m6,m7⟩:=(S.I.ins (X3,b) (by simp)).1.1.cells;obtain ⟨k0,k1,k2,k3,k4,k5,k6,k7⟩:=(S.I.ins (X4,r) (by simp)).1.1.cells;go_wp2_with fail;clear m0 m1 m2 m3 m4 m5 m6 m7 k0 k1 k2 k3 k4 k5 k6 k7;refine Mb.mono ?_;clear Mb;rintro e B1 ⟨rfl,hb⟩;replace S:=aA (S.I.below hb);clear hb;obtain ⟨o0,o1,o2,o3,o4,o5,o6,afI,Mt,MB,o10,o11⟩:=bo (S.I.box (YV,x) (by simp));obtain ⟨u0,u1,u2,u3,u4,u5,u6,u7,u8,u9,u10,u11⟩:=bo (S.I.box (BT,y) (by simp));have z1:x.Md=1:=of_decide_eq_true (by have h5:=HX.I.2; rw [← b8.I,← W7.I] at h5; exact h5);have z2:y.Md=0:=of_decide_eq_true (by have h5:=HY.I.2; rw [← xa.I,← t7.I] at h5; exact h5);rw [z1] at o3;rw [z2] at u3;go_wp2;go_ret;exact ⟨rfl,S.I.low⟩
end Go.Proofs.YtgdmbemagdbmaaaGreatDoor
