/- What the proof leans on, part 0. -/
import Derived.Test.YtgdmbemagdbmaaaGreatDoorOwnR13
set_option maxRecDepth 100000
set_option maxHeartbeats 8000000
open Go.Proofs.Tryz
open Go renaming World->w_,Calls->k_,Addr->d_
open Go.Ending renaming returned->r_
open Go.IntKind renaming i64->j_
open Go.Obj renaming cells->c_
open Go.RowKit renaming Below->B_
open Go.Value renaming int->i_,slice->s_,bool->b_,string->t_
open Option renaming some->o_,none->n_
open Bool renaming and_eq_true->J7
open Go renaming heap_alloc_new->Kj
open Go.RowKit.Below renaming refl->Kp
open List renaming mem_cons->Kt,mem_singleton->KB
open Nat renaming le_refl->Ki

namespace Go.Proofs.YtgdmbemagdbmaaaGreatDoor
def timeOp (k n:Int):dN:=if k=3 then (3,1,n,rM) else (k,n,0,rM)
def akP (k n:Int):List dN:= [timeOp k n,(1,9,0,rM)]
def akB (k n:Int):Bool:=(air ahc 1 5 (akP k n)).isSome && (agA (akP k n)).isSome && ah8 (agc (ahG (agA (akP k n))) 0 n) 1 (fun x=>decide (2≤x.Md)) && ah8 (agc (ahG (agA (akP k n))) 0 (n+1)) 1 (fun x=>decide (x.Md=1) && decide (x.pc=1) && decide (x.left=8) && decide (x.code=if k=3 then 2 else 0))
theorem akU:((List.range 32).all fun k=>akB 2 (k+1) && akB 3 (k+1))=true:=by kernel_rfl
section
open Go.RowKit Go.Maps
attribute [local go_sem ↓] Go.wp_at_zero Go.wp_at_succ
section
variable {w0 W A:w_} {L:List (Nat × af)} {B:List (Nat × ao)} {p q:af} {x:ao} {X:Nat}
end
theorem alo {k:Nat} (hk:k < 32):akB 2 (1+k)=true∧akB 3 (1+k)=true:=by
 have:=List.all_eq_true.1 akU k (List.mem_range.2 hk)
 rw [Int.add_comm,J7] at this;exact this
section
variable {w W A:w_} {p q:af} {X:Nat}
end
theorem alb (a:Option d_) (len cap:Nat) (E:d_ × d_ × d_) (w:w_) (he:Ers w w.heap.size E) (hb:len≤1048576→Bytes w a len):
  k_ Tryz.prog 4 #[s_ a len cap] w fun e w'=>e=r_ (b_ true)∧B_ w.heap.size w w':=by
 by_cases hl:1048576 < len
 ·have hd:decide (1048576 < len)=true:=by simp [hl]
  go_enter func4,ntmps4
  go_wp2_with (go_at_call 7; refine (DG _ _ _ _).mono ?_; rintro e w' ⟨rfl,rfl⟩; rw [hd]);go_ret;exact ⟨rfl,by go_grown⟩
 have hd:decide (1048576 < len)=false:=by simp [hl]
 have HBY:Hid (Bytes w a len):=hb (by omega);clear hb;have HER:=aA he;clear he;have HL:Hid (len≤1048576):=(by omega:len≤1048576)
 clear hl
 go_enter func4,ntmps4
 go_wp2_with (go_at_call 7; refine (DG _ _ _ _).mono ?_; rintro e w' ⟨rfl,rfl⟩; rw [hd]);clear hd;have Mb:=ai7 a len cap w' HL.I HBY.I;go_wp2_with fail;refine Mb.mono ?_;clear Mb HBY HL;rintro e SH ⟨mj,t,g,n,c,Z,rfl,-,-,-,-,hb⟩;have S:Hid (RnS w' [] [] (SH.alloc (c_ #[i_ j_ mj,s_ (o_ ⟨g,0,n_⟩) n c] 26))):=⟨by simp,by simp,hb.alloc hb.size _⟩
 clear hb;go_upto_region 4 with fail;generalize SH.alloc (c_ #[i_ j_ mj,s_ (o_ ⟨g,0,n_⟩) n c] 26)=W0 at *;obtain ⟨k,hk,ek⟩:=alu t;go_upto_region 5 with fail;have HT:=aA (alo hk);have n0:(1:Int)≤1+(k:Int):=by omega
 have n1:1+(k:Int)≤32:=by omega
 generalize 1+(k:Int)=v at *;clear ek hk;go_upto_region 6 with fail
 go_loopw [6] (fun i wr=> ∃ j:Nat,j≤2∧i=i_ j_ (2+(j:Int))∧Hid (RnS w' [] [] wr)) (fun i _=>4 - (Go.RowKit.intOf i).toNat)
 case atStart=>exact ⟨0,by omega,rfl,S⟩
 case round=>
  clear S;obtain ⟨j,hj,rfl,S⟩:=hrel
  rename w_=>W0
  rcases (by omega:j=0∨j=1∨j=2) with rfl | rfl | rfl
  ·have HN:=aA HT.I.1
   unfold akB at HN;obtain ⟨HN1,HN2⟩:=(J7 _ _).mp HN.I;obtain ⟨HN3,HN4⟩:=(J7 _ _).mp HN1;have WY:=aA HN3;have HX:=aA (aiM HN4);have HY:=aA (aiM HN2);clear HN HN1 HN2 HN3 HN4;rw [show akP 2 v= [(2,v,0,rM),(1,9,0,rM)] from rfl] at WY HX HY;go_upto_region 11 with fail;have Mb:=akw (o_ ⟨W0.heap.size+1,0,n_⟩) [(2,v,0,rM),(1,9,0,rM)] 2 ((W0.alloc (c_ #[i_ j_ 2,i_ j_ v,i_ j_ 0,t_ rM] 40)).alloc (c_ #[i_ j_ 2,i_ j_ v,i_ j_ 0,t_ rM,i_ j_ 1,i_ j_ 9,i_ j_ 0,t_ rM] 40)) ⟨by simp,fun o ho=>by rcases Kt.1 ho with rfl | ho; exact ajK; rw [KB.1 ho]; exact ajK⟩ (by have h:=ake (W0.alloc (c_ #[i_ j_ 2,i_ j_ v,i_ j_ 0,t_ rM] 40)) [i_ j_ 2,i_ j_ v,i_ j_ 0,t_ rM,i_ j_ 1,i_ j_ 9,i_ j_ 0,t_ rM] 40; rwa [show (W0.alloc (c_ #[i_ j_ 2,i_ j_ v,i_ j_ 0,t_ rM] 40)).heap.size=W0.heap.size+1 by simp] at h);rw [WY.I] at Mb;replace S:=aA (S.I.below (((Kp _ _).alloc (Ki _) (c_ #[i_ j_ 2,i_ j_ v,i_ j_ 0,t_ rM] 40)).alloc (by simp) (c_ #[i_ j_ 2,i_ j_ v,i_ j_ 0,t_ rM,i_ j_ 1,i_ j_ 9,i_ j_ 0,t_ rM] 40)));go_wp2_with fail;refine Mb.mono ?_;clear Mb;rintro e af8 ⟨p,rfl,ho,hp,hb⟩;replace S:=aA (S.I.put hb ho (by rw [hp]; exact wZ (ahL _ _ _ _)));have S5:=aA hp;clear ho hb hp;go_upto_region 14 with (refine ec 8 47 p.cells (Kj _ _) ?_);generalize (af8.alloc (c_ ar 36)).setRow af8.heap.size p.cells=WX1 at *;generalize af8.heap.size=X1 at *;obtain ⟨R1,Ps⟩: ∃ R,Hid (R=agc (ahG (agA [(2,v,0,rM),(1,9,0,rM)])) 0 v):=⟨_,rfl⟩
   obtain ⟨R2,Po⟩: ∃ R,Hid (R=agc (ahG (agA [(2,v,0,rM),(1,9,0,rM)])) 0 (v+1)):=⟨_,rfl⟩
   rw [← Ps.I] at HX;rw [← Po.I] at HY;have Mb:=agC p 0 (v) E _ (S.I.good (x:=(X1,p)) (by simp)) ((HER.I.below S.I.low).up S.I.low.size) (by decide);rw [S5.I] at Mb;rw [← Ps.I] at Mb;go_wp2_with (refine eT 8 (g:=X1) (cs:=p.cells) (S.I.ins (X1,p) (by simp)).1.1 ?_);refine Mb.mono ?_;clear Mb;rintro e AX2 ⟨q,rfl,ho,hp,hb⟩;replace S:=aA (S.I.put hb ho (by rw [hp]; exact (by rw [Ps.I]; exact agJ)));have b8:=aA hp;clear ho hb hp;go_upto_region 15 with (refine ec 10 55 q.cells (Kj _ _) ?_);generalize (AX2.alloc (c_ ar 36)).setRow AX2.heap.size q.cells=WX2 at *;generalize AX2.heap.size=X2 at *;have Mb:=agC p 0 (v+1) E _ (S.I.good (x:=(X1,p)) (by simp)) ((HER.I.below S.I.low).up S.I.low.size) (by decide);rw [S5.I] at Mb;rw [← Po.I] at Mb;go_wp2_with (refine eT 8 (g:=X1) (cs:=p.cells) (S.I.ins (X1,p) (by simp)).1.1 ?_);refine Mb.mono ?_;clear Mb;rintro e AX3 ⟨b,rfl,ho,hp,hb⟩;replace S:=aA (S.I.put hb ho (by rw [hp]; exact (by rw [Po.I]; exact agJ)));have xa:=aA hp;clear ho hb hp;go_upto_region 16 with (refine ec 12 62 b.cells (Kj _ _) ?_);generalize (AX3.alloc (c_ ar 36)).setRow AX3.heap.size b.cells=WX3 at *;generalize AX3.heap.size=X3 at *;have Mb:=ahR p 0 (v+1) _ (dV (S.I.ins (X1,p) (by simp)).2.1) (fun x hx=>(cY (S.I.ins (X1,p) (by simp)).2.1 hx).1) (S.I.ins (X1,p) (by simp)).1.2.at (by decide);rw [S5.I] at Mb;rw [← Po.I] at Mb;go_wp2_with (refine eT 8 (g:=X1) (cs:=p.cells) (S.I.ins (X1,p) (by simp)).1.1 ?_);refine Mb.mono ?_;clear Mb;rintro e AX4 ⟨r,rfl,ho,hp,hb⟩;replace S:=aA (S.I.put hb ho (by rw [hp]; exact (by rw [Po.I]; exact agJ)));have yc:=aA hp;clear ho hb hp;go_upto_region 17 with (refine ec 14 69 r.cells (Kj _ _) ?_);generalize (AX4.alloc (c_ ar 36)).setRow AX4.heap.size r.cells=WX4 at *;generalize AX4.heap.size=X4 at *;have Mb:=uN q 1 _ (by decide) (S.I.good (x:=(X2,q)) (by simp));go_wp2_with (refine eT 10 (g:=X2) (cs:=q.cells) (S.I.ins (X2,q) (by simp)).1.1 ?_);refine Mb.mono ?_;clear Mb;rintro e AX5 ⟨x,rfl,-,hp,hb⟩;replace S:=aA (S.I.OS (x:=x) hb);have W7:=aA hp;clear hb hp;go_upto_region 18 with (refine wpList_store_row rfl 44 (.tmp 16) (.tmp 74) rfl AX5.heap.size _ _ (aX x) rfl rfl (Kj _ _) (by kernel_rfl) rfl (by kernel_rfl) ?_);generalize (AX5.alloc (c_ cE 44)).setRow AX5.heap.size (aX x)=WX5 at *;generalize AX5.heap.size=YV at *;have Mb:=uN b 1 _ (by decide) (S.I.good (x:=(X3,b)) (by simp));go_wp2_with (refine eT 12 (g:=X3) (cs:=b.cells) (S.I.ins (X3,b) (by simp)).1.1 ?_);refine Mb.mono ?_;clear Mb;rintro e AX6 ⟨y,rfl,-,hp,hb⟩;replace S:=aA (S.I.OS (x:=y) hb);have t7:=aA hp;clear hb hp;go_upto_region 19 with (refine wpList_store_row rfl 44 (.tmp 18) (.tmp 79) rfl AX6.heap.size _ _ (aX y) rfl rfl (Kj _ _) (by kernel_rfl) rfl (by kernel_rfl) ?_);generalize (AX6.alloc (c_ cE 44)).setRow AX6.heap.size (aX y)=WX6 at *;generalize AX6.heap.size=BT at *;rw [HY.I.1];have f1:R2.isSome=true:=HY.I.1;have Mb:=Nn b r _ _ _ (S.I.ins (X3,b) (by simp)).2.1 (S.I.ins (X3,b) (by simp)).1.2 (S.I.ins (X4,r) (by simp)).2.1 (S.I.ins (X4,r) (by simp)).1.2 (xa.I.trans yc.I.symm);unfold af.cells at Mb;obtain ⟨m0,m1,m2,m3,m4,m5,m6,m7⟩:=(S.I.ins (X3,b) (by simp)).1.1.cells;obtain ⟨k0,k1,k2,k3,k4,k5,k6,k7⟩:=(S.I.ins (X4,r) (by simp)).1.1.cells;go_wp2_with fail;clear m0 m1 m2 m3 m4 m5 m6 m7 k0 k1 k2 k3 k4 k5 k6 k7;refine Mb.mono ?_;clear Mb;rintro e B1 ⟨rfl,hb⟩;replace S:=aA (S.I.below hb);clear hb;obtain ⟨o0,o1,o2,o3,o4,o5,o6,afI,Mt,MB,o10,o11⟩:=bo (S.I.box (YV,x) (by simp));obtain ⟨u0,u1,u2,u3,u4,u5,u6,u7,u8,u9,u10,u11⟩:=bo (S.I.box (BT,y) (by simp));have z1:2≤x.Md:=of_decide_eq_true (by have h5:=HX.I.2; rw [← b8.I,← W7.I] at h5; exact h5);have z2:((y.Md=1∧y.pc=1)∧y.left=8)∧y.code=0:=by have h5:=HY.I.2; rw [← xa.I,← t7.I,J7,J7,J7,decide_eq_true_eq,decide_eq_true_eq,decide_eq_true_eq,decide_eq_true_eq] at h5; exact h5
   have z3:decide (x.Md < 2)=false:=decide_eq_false (by omega);rw [z2.1.1.1] at u3;rw [z2.1.1.2] at u4;rw [z2.1.2] at u5;rw [z2.2] at u10;clear z1 z2;go_wp2;go_roundw
   case rel=>exact ⟨1,by omega,by go_num,⟨by simp,by simp,S.I.low⟩⟩
   case measure=>simp [Go.RowKit.intOf]
  ·have HN:=aA HT.I.2
   unfold akB at HN;obtain ⟨HN1,HN2⟩:=(J7 _ _).mp HN.I;obtain ⟨HN3,HN4⟩:=(J7 _ _).mp HN1;have WY:=aA HN3;have HX:=aA (aiM HN4);have HY:=aA (aiM HN2);clear HN HN1 HN2 HN3 HN4;rw [show akP 3 v= [(3,1,v,rM),(1,9,0,rM)] from rfl] at WY HX HY;go_upto_region 11 with fail;have Mb:=akw (o_ ⟨W0.heap.size+1,0,n_⟩) [(3,1,v,rM),(1,9,0,rM)] 2 ((W0.alloc (c_ #[i_ j_ 3,i_ j_ 1,i_ j_ v,t_ rM] 40)).alloc (c_ #[i_ j_ 3,i_ j_ 1,i_ j_ v,t_ rM,i_ j_ 1,i_ j_ 9,i_ j_ 0,t_ rM] 40)) ⟨by simp,fun o ho=>by rcases Kt.1 ho with rfl | ho; exact ajK; rw [KB.1 ho]; exact ajK⟩ (by have h:=ake (W0.alloc (c_ #[i_ j_ 3,i_ j_ 1,i_ j_ v,t_ rM] 40)) [i_ j_ 3,i_ j_ 1,i_ j_ v,t_ rM,i_ j_ 1,i_ j_ 9,i_ j_ 0,t_ rM] 40; rwa [show (W0.alloc (c_ #[i_ j_ 3,i_ j_ 1,i_ j_ v,t_ rM] 40)).heap.size=W0.heap.size+1 by simp] at h);rw [WY.I] at Mb;replace S:=aA (S.I.below (((Kp _ _).alloc (Ki _) (c_ #[i_ j_ 3,i_ j_ 1,i_ j_ v,t_ rM] 40)).alloc (by simp) (c_ #[i_ j_ 3,i_ j_ 1,i_ j_ v,t_ rM,i_ j_ 1,i_ j_ 9,i_ j_ 0,t_ rM] 40)));go_wp2_with fail;refine Mb.mono ?_;clear Mb;rintro e af8 ⟨p,rfl,ho,hp,hb⟩;replace S:=aA (S.I.put hb ho (by rw [hp]; exact wZ (ahL _ _ _ _)));have S5:=aA hp;clear ho hb hp;go_upto_region 14 with (refine ec 8 47 p.cells (Kj _ _) ?_);generalize (af8.alloc (c_ ar 36)).setRow af8.heap.size p.cells=WX1 at *;generalize af8.heap.size=X1 at *;obtain ⟨R1,Ps⟩: ∃ R,Hid (R=agc (ahG (agA [(3,1,v,rM),(1,9,0,rM)])) 0 v):=⟨_,rfl⟩
   obtain ⟨R2,Po⟩: ∃ R,Hid (R=agc (ahG (agA [(3,1,v,rM),(1,9,0,rM)])) 0 (v+1)):=⟨_,rfl⟩
   rw [← Ps.I] at HX;rw [← Po.I] at HY;have Mb:=agC p 0 (v) E _ (S.I.good (x:=(X1,p)) (by simp)) ((HER.I.below S.I.low).up S.I.low.size) (by decide);rw [S5.I] at Mb;rw [← Ps.I] at Mb;go_wp2_with (refine eT 8 (g:=X1) (cs:=p.cells) (S.I.ins (X1,p) (by simp)).1.1 ?_);refine Mb.mono ?_;clear Mb;rintro e AX2 ⟨q,rfl,ho,hp,hb⟩;replace S:=aA (S.I.put hb ho (by rw [hp]; exact (by rw [Ps.I]; exact agJ)));have b8:=aA hp;clear ho hb hp;go_upto_region 15 with (refine ec 10 55 q.cells (Kj _ _) ?_);generalize (AX2.alloc (c_ ar 36)).setRow AX2.heap.size q.cells=WX2 at *;generalize AX2.heap.size=X2 at *;have Mb:=agC p 0 (v+1) E _ (S.I.good (x:=(X1,p)) (by simp)) ((HER.I.below S.I.low).up S.I.low.size) (by decide);rw [S5.I] at Mb;rw [← Po.I] at Mb;go_wp2_with (refine eT 8 (g:=X1) (cs:=p.cells) (S.I.ins (X1,p) (by simp)).1.1 ?_);refine Mb.mono ?_;clear Mb;rintro e AX3 ⟨b,rfl,ho,hp,hb⟩;replace S:=aA (S.I.put hb ho (by rw [hp]; exact (by rw [Po.I]; exact agJ)));have xa:=aA hp;clear ho hb hp;go_upto_region 16 with (refine ec 12 62 b.cells (Kj _ _) ?_);generalize (AX3.alloc (c_ ar 36)).setRow AX3.heap.size b.cells=WX3 at *;generalize AX3.heap.size=X3 at *;have Mb:=ahR p 0 (v+1) _ (dV (S.I.ins (X1,p) (by simp)).2.1) (fun x hx=>(cY (S.I.ins (X1,p) (by simp)).2.1 hx).1) (S.I.ins (X1,p) (by simp)).1.2.at (by decide);rw [S5.I] at Mb;rw [← Po.I] at Mb;go_wp2_with (refine eT 8 (g:=X1) (cs:=p.cells) (S.I.ins (X1,p) (by simp)).1.1 ?_);refine Mb.mono ?_;clear Mb;rintro e AX4 ⟨r,rfl,ho,hp,hb⟩;replace S:=aA (S.I.put hb ho (by rw [hp]; exact (by rw [Po.I]; exact agJ)));have yc:=aA hp;clear ho hb hp;go_upto_region 17 with (refine ec 14 69 r.cells (Kj _ _) ?_);generalize (AX4.alloc (c_ ar 36)).setRow AX4.heap.size r.cells=WX4 at *;generalize AX4.heap.size=X4 at *;have Mb:=uN q 1 _ (by decide) (S.I.good (x:=(X2,q)) (by simp));go_wp2_with (refine eT 10 (g:=X2) (cs:=q.cells) (S.I.ins (X2,q) (by simp)).1.1 ?_);refine Mb.mono ?_;clear Mb;rintro e AX5 ⟨x,rfl,-,hp,hb⟩;replace S:=aA (S.I.OS (x:=x) hb);have W7:=aA hp;clear hb hp;go_upto_region 18 with (refine wpList_store_row rfl 44 (.tmp 16) (.tmp 74) rfl AX5.heap.size _ _ (aX x) rfl rfl (Kj _ _) (by kernel_rfl) rfl (by kernel_rfl) ?_);generalize (AX5.alloc (c_ cE 44)).setRow AX5.heap.size (aX x)=WX5 at *;generalize AX5.heap.size=YV at *;have Mb:=uN b 1 _ (by decide) (S.I.good (x:=(X3,b)) (by simp));go_wp2_with (refine eT 12 (g:=X3) (cs:=b.cells) (S.I.ins (X3,b) (by simp)).1.1 ?_);refine Mb.mono ?_;clear Mb;rintro e AX6 ⟨y,rfl,-,hp,hb⟩;replace S:=aA (S.I.OS (x:=y) hb);have t7:=aA hp;clear hb hp;go_upto_region 19 with (refine wpList_store_row rfl 44 (.tmp 18) (.tmp 79) rfl AX6.heap.size _ _ (aX y) rfl rfl (Kj _ _) (by kernel_rfl) rfl (by kernel_rfl) ?_);generalize (AX6.alloc (c_ cE 44)).setRow AX6.heap.size (aX y)=WX6 at *;generalize AX6.heap.size=BT at *;rw [HY.I.1];have f1:R2.isSome=true:=HY.I.1;have Mb:=Nn b r _ _ _ (S.I.ins (X3,b) (by simp)).2.1 (S.I.ins (X3,b) (by simp)).1.2 (S.I.ins (X4,r) (by simp)).2.1 (S.I.ins (X4,r) (by simp)).1.2 (xa.I.trans yc.I.symm);unfold af.cells at Mb;obtain ⟨m0,m1,m2,m3,m4,m5,m6,m7⟩:=(S.I.ins (X3,b) (by simp)).1.1.cells;obtain ⟨k0,k1,k2,k3,k4,k5,k6,k7⟩:=(S.I.ins (X4,r) (by simp)).1.1.cells;go_wp2_with fail;clear m0 m1 m2 m3 m4 m5 m6 m7 k0 k1 k2 k3 k4 k5 k6 k7;refine Mb.mono ?_;clear Mb;rintro e B1 ⟨rfl,hb⟩;replace S:=aA (S.I.below hb);clear hb;obtain ⟨o0,o1,o2,o3,o4,o5,o6,afI,Mt,MB,o10,o11⟩:=bo (S.I.box (YV,x) (by simp));obtain ⟨u0,u1,u2,u3,u4,u5,u6,u7,u8,u9,u10,u11⟩:=bo (S.I.box (BT,y) (by simp));have z1:2≤x.Md:=of_decide_eq_true (by have h5:=HX.I.2; rw [← b8.I,← W7.I] at h5; exact h5);have z2:((y.Md=1∧y.pc=1)∧y.left=8)∧y.code=2:=by have h5:=HY.I.2; rw [← xa.I,← t7.I,J7,J7,J7,decide_eq_true_eq,decide_eq_true_eq,decide_eq_true_eq,decide_eq_true_eq] at h5; exact h5
   have z3:decide (x.Md < 2)=false:=decide_eq_false (by omega);rw [z2.1.1.1] at u3;rw [z2.1.1.2] at u4;rw [z2.1.2] at u5;rw [z2.2] at u10;clear z1 z2;go_wp2;go_roundw
   case rel=>exact ⟨2,by omega,by go_num,⟨by simp,by simp,S.I.low⟩⟩
   case measure=>simp [Go.RowKit.intOf]
  ·go_wp2
   go_ret;exact ⟨rfl,S.I.low⟩
end
end Go.Proofs.YtgdmbemagdbmaaaGreatDoor
