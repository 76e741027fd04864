/- What the proof leans on, part 1. -/
import Derived.Test.YtfncpmaefninjaaGreatDoorOwnT22
import Derived.Test.YtfncpmaefninjaaGreatDoorOwnT25
import Derived.Test.YtfncpmaefninjaaGreatDoorOwnU0
set_option linter.all false
set_option maxRecDepth 100000
set_option maxHeartbeats 8000000
open Go.Proofs.Tryz
open Go renaming World->w_,Calls->k_,Addr->d_
open Go.Ending renaming returned->r_
open Go.Obj renaming cells->c_
open Go.RowKit renaming Below->B_,Hid->bE
open Go.Value renaming slice->s_,bool->b_

namespace Go.Proofs.YtfncpmaefninjaaGreatDoor
open Go.RowKit Go.Maps
attribute [local go_sem ↓] Go.wp_at_zero Go.wp_at_succ
theorem anv (a:Option d_) (len cap:Nat) (E:d_ × d_ × d_) (w:w_) (he:Ers w w.heap.size E) (hb:len<=1048576->Bytes w a len):
  k_ Tryz.prog 3 #[s_ a len cap] w fun e w'=>e=r_ (b_ true)/\B_ w.heap.size w w':=by
 by_cases hl:1048576 < len
 .have hd:decide (1048576 < len)=true:=by simp [hl]
  go_enter func3,ntmps3
  go_wp2_with (go_at_call 7; refine (DG _ _ _ _).mono ?_; rintro e w' ⟨rfl,rfl⟩; rw [hd]);go_ret;exact ⟨rfl,by go_grown⟩
 have hd:decide (1048576 < len)=false:=by simp [hl]
 have HBY:bE (Bytes w a len):=hb zo;clear hb;have HER:=aA he;clear he;have HL:bE (len<=1048576):=(by omega:len<=1048576)
 clear hl
 go_enter func3,ntmps3
 go_wp2_with (go_at_call 7; refine (DG _ _ _ _).mono ?_; rintro e w' ⟨rfl,rfl⟩; rw [hd]);clear hd;have S:bE (TqS w' [] [] [] w'):=⟨by simp,by simp,by simp,by simp,Kp _ _⟩
 have Mb:=alQ a len cap w' HL.I HBY.I;go_wp2_with fail;refine Mb.mono ?_;clear Mb HBY HL;rintro e af8 ⟨p,bA,rfl,hi,ho,hs,-,hb⟩;have HI:=aA hi;clear hi;replace S:=aA (S.I.put hb ho hs);clear ho hs hb;go_upto_region 4 with (refine ec 3 16 p.cells (Kj _ _) ?_);generalize (af8.alloc (c_ ar 31)).setRow af8.heap.size p.cells=WX1 at *;generalize af8.heap.size=X1 at *;obtain ⟨R1,Ps⟩: ∃ R,bE (R=hZ p.pure bA):=⟨_,rfl⟩
 have Mb:=ahg p bA E _ (S.I.good (x:=(X1,p)) zw) ((HER.I.below S.I.low).up S.I.low.size) HI.I;rw [<- Ps.I] at Mb;go_wp2_with (refine eT 3 (g:=X1) (cs:=p.cells) (S.I.ins (X1,p) zw).1.1 ?_);refine Mb.mono ?_;clear Mb;rintro e A2 ⟨q,rfl,ho,hp,hb⟩;replace S:=aA (S.I.put hb ho (by rw [hp]; exact (by rw [Ps.I]; exact za)));have b8:=aA hp;clear ho hb hp;go_upto_region 5 with (refine ec 5 22 q.cells (Kj _ _) ?_);generalize (A2.alloc (c_ ar 31)).setRow A2.heap.size q.cells=WX2 at *;generalize A2.heap.size=X2 at *;have Mb:=vu p bA _ (dV (S.I.ins (X1,p) zw).2.1) (fun x hx=>(cY (S.I.ins (X1,p) zw).2.1 hx).1) (S.I.ins (X1,p) zw).1.2.at;rw [<- Ps.I] at Mb;go_wp2_with (refine eT 3 (g:=X1) (cs:=p.cells) (S.I.ins (X1,p) zw).1.1 ?_);refine Mb.mono ?_;clear Mb;rintro e A3 ⟨r,rfl,ho,hp,hb⟩;replace S:=aA (S.I.put hb ho (by rw [hp]; exact (by rw [Ps.I]; exact za)));have yc:=aA hp;clear ho hb hp;go_upto_region 6 with (refine ec 7 28 r.cells (Kj _ _) ?_);generalize (A3.alloc (c_ ar 31)).setRow A3.heap.size r.cells=WX3 at *;generalize A3.heap.size=X3 at *;obtain ⟨c,hc⟩: ∃ c,bE (c=R1.isSome):=⟨_,rfl⟩
 rw [<- hc.I];have n1:(c != c)=false:=by simp
 have Mb:=Nn q r _ _ _ (S.I.ins (X2,q) zw).2.1 (S.I.ins (X2,q) zw).1.2 (S.I.ins (X3,r) zw).2.1 (S.I.ins (X3,r) zw).1.2 (b8.I.trans yc.I.symm);unfold af.cells at Mb;obtain ⟨m0,m1,m2,m3,m4,m5,m6,m7⟩:=(S.I.ins (X2,q) zw).1.1.cells;obtain ⟨k0,k1,k2,k3,k4,k5,k6,k7⟩:=(S.I.ins (X3,r) zw).1.1.cells;go_wp2_with fail;clear m0 m1 m2 m3 m4 m5 m6 m7 k0 k1 k2 k3 k4 k5 k6 k7;refine Mb.mono ?_;clear Mb;rintro e B2 ⟨rfl,hb⟩;replace S:=aA (S.I.below hb);clear hb;cases c
 case false=>
  clear n1;have Mb:=Nn q r _ _ _ (S.I.ins (X2,q) zw).2.1 (S.I.ins (X2,q) zw).1.2 (S.I.ins (X3,r) zw).2.1 (S.I.ins (X3,r) zw).1.2 (b8.I.trans yc.I.symm);unfold af.cells at Mb;obtain ⟨m0,m1,m2,m3,m4,m5,m6,m7⟩:=(S.I.ins (X2,q) zw).1.1.cells;obtain ⟨k0,k1,k2,k3,k4,k5,k6,k7⟩:=(S.I.ins (X3,r) zw).1.1.cells;go_wp2_with fail;clear m0 m1 m2 m3 m4 m5 m6 m7 k0 k1 k2 k3 k4 k5 k6 k7;refine Mb.mono ?_;clear Mb;rintro e B2 ⟨rfl,hb⟩;replace S:=aA (S.I.below hb);clear hb;go_wp2;go_ret;exact ⟨al zw,S.I.low⟩
 have HF:=aA (amL Ps.I hc.I.symm);clear n1;go_upto_region 8 with fail;have Mb:=R3 p bA _ (S.I.good (x:=(X1,p)) zw);rw [HF.I.1] at Mb;go_wp2_with (refine eT 3 (g:=X1) (cs:=p.cells) (S.I.ins (X1,p) zw).1.1 ?_);refine Mb.mono ?_;clear Mb;rintro e afT ⟨u,rfl,ho,hp,hb⟩;replace S:=aA (S.I.put hb ho (by rw [hp]; exact (ta (ru (alT (Ps.I.symm.trans (Option.eq_some_of_isSome hc.I.symm))).1 (by have:=(alT (Ps.I.symm.trans (Option.eq_some_of_isSome hc.I.symm))).2.2.1; omega)).1)));have u3:=aA hp;clear ho hb hp;go_upto_region 9 with (refine ec 9 55 u.cells (Kj _ _) ?_);generalize (afT.alloc (c_ ar 31)).setRow afT.heap.size u.cells=WX4 at *;generalize afT.heap.size=X4 at *;have Mb:=um u _ (S.I.good (x:=(X4,u)) zw);go_wp2_with (refine eT 9 (g:=X4) (cs:=u.cells) (S.I.ins (X4,u) zw).1.1 ?_);refine Mb.mono ?_;clear Mb;rintro e B3 ⟨rfl,hb⟩;replace S:=aA (S.I.below hb);clear hb;have Vn:=aA HF.I.2.2.2.2;rw [show gj bA p.pure=u.pure from u3.I.symm] at Vn;by_cases h0:da u.pure=0
 .have z0:(da u.pure == 0)=true:=by simp [h0]
  have e0:=aA (Vn.I h0);clear h0;have y4:bE (q.pure=u.pure):=b8.I.trans e0.I;have Mb:=Nn q u _ _ _ (S.I.ins (X2,q) zw).2.1 (S.I.ins (X2,q) zw).1.2 (S.I.ins (X4,u) zw).2.1 (S.I.ins (X4,u) zw).1.2 y4.I;unfold af.cells at Mb;obtain ⟨m0,m1,m2,m3,m4,m5,m6,m7⟩:=(S.I.ins (X2,q) zw).1.1.cells;obtain ⟨k0,k1,k2,k3,k4,k5,k6,k7⟩:=(S.I.ins (X4,u) zw).1.1.cells;go_wp2_with fail;clear m0 m1 m2 m3 m4 m5 m6 m7 k0 k1 k2 k3 k4 k5 k6 k7;refine Mb.mono ?_;clear Mb;rintro e hE ⟨rfl,hb⟩;replace S:=aA (S.I.below hb);clear hb;go_wp2;go_ret;exact ⟨rfl,S.I.low⟩
 .have z0:(da u.pure == 0)=false:=by simp [h0]
  clear h0 Vn;go_upto_region 11 with fail;clear z0;have Mb:=FQ q _ (S.I.good (x:=(X2,q)) zw);rw [b8.I,HF.I.2.1] at Mb;unfold af.cells at Mb;obtain ⟨m0,m1,m2,m3,m4,m5,m6,m7⟩:=(S.I.ins (X2,q) zw).1.1.cells;go_wp2_with fail;clear m0 m1 m2 m3 m4 m5 m6 m7;refine Mb.mono ?_;clear Mb;rintro e hE ⟨rfl,hb⟩;replace S:=aA (S.I.below hb);clear hb;obtain ⟨m0,m1,m2,m3,m4,m5,m6,m7⟩:=(S.I.ins (X2,q) zw).1.1.cells;obtain ⟨k0,k1,k2,k3,k4,k5,k6,k7⟩:=(S.I.ins (X1,p) zw).1.1.cells;have g1:decide (q.next>=p.next)=true:=decide_eq_true (by have h5:=HF.I.2.2.1; rw [<- b8.I] at h5; exact h5);have g2:((q.L8.length:Int) == (p.L8.length:Int))=true:=by have h5:=HF.I.2.2.2.1; rw [<- b8.I] at h5; simp only [af.pure,KG] at h5; simp [h5]
  go_wp2;go_ret;exact ⟨rfl,S.I.low⟩
end Go.Proofs.YtfncpmaefninjaaGreatDoor
