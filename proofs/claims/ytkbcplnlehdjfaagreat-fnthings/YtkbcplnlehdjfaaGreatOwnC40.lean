/- What the proof leans on, part 40: DwPart. -/
import Derived.Test.YtkbcplnlehdjfaaGreatOwnC19
import Derived.Test.YtkbcplnlehdjfaaGreatOwnC39
import Derived.Laws.Rows
import Derived.Deep.Cut
set_option maxRecDepth 100000
set_option maxHeartbeats 8000000
open Go renaming heap_alloc_new->Kj,setRow_other->KH,wpAnyH_done->K3,wp_region_held_drew->Kr
open Go.IntKind renaming wrap_i64->K8
open Go.RowKit.Below renaming refl->Kp
open List renaming length_nil->K4,length_set->LI
open Nat renaming le_refl->Ki,zero_add->Li

namespace Go.Proofs.YtkbcplnlehdjfaaGreat
open Go.RowKit Go.Maps
attribute [local go_sem ↓] Go.wp_at_zero Go.wp_at_succ
theorem GN (r:Nat) (a:Option Addr) (len cap:Nat) (w:World) (hl:len≤1048576) (h:Rd r a len cap w):
  Calls Tryz.prog 81 #[.pointer (some ⟨r,0,none⟩)] w fun e w'=> ∃ (q:af) (now:Int),e= .returned (.tuple #[.agg q.cells,.int .i64 now])∧(0≤now∧now≤26)∧ap w' w.heap.size q∧q.pure.Small∧gG r w w'∧Rd r a len cap w':=by
 have h5:=(Kp w.heap.size w).alloc (Ki _) (.cells ar 32);have S:Hid (Rd r a len cap w∧Rd r a len cap (w.alloc (.cells ar 32))∧gG r w (w.alloc (.cells ar 32))∧(w.alloc (.cells ar 32)).heap[w.heap.size]? =some (.cells ar 32 (0,0))∧(w.alloc (.cells ar 32)).heap.size=w.heap.size+1):=⟨h,h.below h5,gG.dI h5,Kj _ _,by simp⟩
 clear h h5
 go_enter Tryz.func81,Tryz.ntmps81
 go_upto_region 1 with fail;generalize w.alloc (.cells ar 32)=A at *;go_wp2_with fail;refine (FL r a len cap 1 A hl rfl S.out.2.1).mono ?_;rintro e A2 ⟨q,rfl,ho,hs,hb,hr⟩;have HD:Hid (Dw r a len cap w A2.heap.size q ((A2.alloc (.cells ar 32)).setRow A2.heap.size q.cells)):=by
  have hz:=S.out.2.2.2.2;have hrl:=S.out.1.lt;exact Dw.first hr S.out.1 (S.out.2.2.1.trans hb) (ho.lower (by omega)) hs ((hb.block _ (by omega) (by omega)).trans S.out.2.2.2.1)
 clear ho hs hb hr S;go_upto_region 2 with (refine ec 4 8 _ q.cells (Kj _ _) ?_);generalize (A2.alloc (.cells ar 32)).setRow A2.heap.size q.cells=B at *;generalize A2.heap.size=X at *;go_wp2_with fail;refine (dh r a len cap 14 _ hl (by omega) (by omega) HD.out.rd).mono ?_;rintro e B1 ⟨u,ua,ub,rfl,hb1,hr1⟩;replace HD:=aA (HD.out.drawn hb1 hr1);clear hb1 hr1;go_wp2_with fail
 go_loopw [5,6] (fun n i wr=> ∃ (k now:Int) (q:af),i= .int .i64 k∧n= .int .i64 now∧0≤k∧k≤13∧0≤now∧now+2 * k≤26∧Hid (Dw r a len cap w X q wr)) (fun _ i _=>(Go.RowKit.intOf i).toNat)
 case atStart=>exact ⟨u,0,q,rfl,rfl,ua,by omega,by omega,by omega,HD⟩
 case round=>
  clear HD;obtain ⟨qo,qP⟩: ∃ qo:af,qo=q:=⟨_,rfl⟩
  subst qP;obtain ⟨k,now,q,rfl,rfl,k0,k1,n0,n1,HD⟩:=hrel;by_cases hk:0 < k
  ·have Mb:=vu q now _ (dV HD.out.small) (fun x hx=>(cY HD.out.small hx).1) HD.out.own.at
   go_wp2_with (refine eT 4 X q.cells HD.out.box ?_);refine Mb.mono ?_;clear Mb;rintro e W1 ⟨q2,rfl,ho,hp,hb⟩;have HB:=aA ((HD.out.reads hb).box);replace HD:=aA (HD.out.put hb ho (by rw [hp]; exact za));clear hb ho hp;go_upto_region 7 with (refine ec 4 19 (X) q2.cells HB.out ?_);generalize W1.setRow X q2.cells=W2 at *;clear HB;have e3:IntKind.wrap .i64 (k - 1)=k - 1:=by rw [K8]; omega
   go_wp2_with fail;refine (dh r a len cap 2 _ hl (by omega) (by omega) HD.out.rd).mono ?_;rintro e W3 ⟨v,va,vb,rfl,hb1,hr1⟩;replace HD:=aA (HD.out.drawn hb1 hr1);clear hb1 hr1;have e4:IntKind.wrap .i64 (1+v)=1+v:=by rw [K8]; omega
   have e5:IntKind.wrap .i64 (now+(1+v))=now+(1+v):=by rw [K8]; omega
   go_wp2_with fail;go_roundw
   case rel=>exact ⟨k - 1,now+(1+v),q2,rfl,rfl,by omega,by omega,by omega,by omega,HD⟩
   case measure=>simp [Go.RowKit.intOf]; omega
  go_wp2_with fail;refine (dh r a len cap 40 _ hl (by omega) (by omega) HD.out.rd).mono ?_;rintro e W3 ⟨v,va,vb,rfl,hb1,hr1⟩;replace HD:=aA (HD.out.drawn hb1 hr1);clear hb1 hr1;by_cases h38:v=38
  ·have e1:(v == 38)=true:=by simp [h38]
   clear h38;rcases hps:q.L8 with _ | ⟨x,xs⟩
   ·have il:(q.L8.length:Int)=0:=by rw [hps]; rfl
    have m2:=HD.out.box.cells.2.2.1;rw [hps] at m2;simp only [K4] at m2;clear il hps;go_wp2_with (first | (refine eT 4 X q.cells HD.out.box ?_) | (refine ec 2 52 (w.heap.size) q.cells HD.out.mK ?_));refine mG Tryz.results81 (w.heap.size) q.cells (.int .i64 now) HD.out.mK ?_;have hx:=HD.out.hx;have hl:=HD.out.st.lt;refine ⟨q,now,rfl,⟨n0,by omega⟩,(HD.out.own.lower (by omega)).same fun g hg=>KH _ _ _ _ (by have:=(HD.out.own.lt g hg).1; omega),HD.out.small,HD.out.but.setRow (Ki _) _,⟨?_,HD.out.st.2.but (HD.out.but.setRow (Ki _) _)⟩⟩;obtain ⟨p,hp,hc⟩:=HD.out.rd.1;exact ⟨p,hp,(KH _ _ _ _ (by omega)).trans hc⟩
   have hx:q.L8[0]? =some x:=by rw [hps]; rfl
   have il:0 < q.L8.length:=by rw [hps]; simp
   have il2:(0:Int) < (q.L8.length:Int):=by omega
   have il3: ¬ q.L8.length=0:=by omega
   have HX:Hid (q.L8[0]? =some x):=hx;clear hps hx;obtain ⟨gs,ha,-⟩:=cn HD.out.own.at.1 HX.out;have m2:=HD.out.box.cells.2.2.1;rw [ha] at m2;have HA:Hid (q.aN=some ⟨gs,0,none⟩):=ha;clear ha;go_upto_region 11 with fail;clear m2;replace HD:=aA (HD.out.reads (Kp _ _).drew);refine Kr (S:=fun w'=>av w' X q) (by kernel_rfl) HD.out.box (fun hHeld=> ?_);generalize World.drew _=V at *;refine tk 0 (v:= ?_) ?_ hHeld ?_; rotate_left; (intro w0 hS0; have q0:=hS0.cells.2.2.1; rw [HA.out] at q0; go_simp; try with_reducible rfl); simp only [pt,sb,s0,s1];refine tk 1 (v:= ?_) ?_ hHeld ?_; rotate_left; (intro w0 hS0; have q0:=hS0.cells.2.2.1; rw [HA.out] at q0; go_simp; try with_reducible rfl); simp only [pt,sb,s0,s1];refine tk 2 (v:= ?_) ?_ hHeld ?_; rotate_left; (intro w0 hS0; have q0:=hS0.cells.2.2.1; rw [HA.out] at q0; go_simp; try with_reducible rfl); simp only [pt,sb,s0,s1];clear hHeld;refine L7 3 (fun K hK=> ?_);go_wp2_with fail;refine (Gk r a len cap 0 3 _ hl (by omega) (by omega) (by omega) HD.out.rd).mono ?_;rintro e V2 ⟨z,rfl,hzw,hb1,hr1⟩;replace HD:=aA (HD.out.drawn hb1 hr1);have HZ:Hid ((Lit.int .i64 z).wf=true):=hzw;clear hb1 hr1 hzw;refine hK.out _ _ HD.out.box (fun hHeld=> ?_);clear hK K
   try simp only [pt,sb,s0,s1]
   refine tk 4 (v:= ?_) ?_ hHeld ?_; rotate_left; (intro w0 hS0; have q0:=hS0.cells.2.2.1; rw [HA.out] at q0; go_simp; try with_reducible rfl); simp only [pt,sb,s0,s1];refine tk 5 (v:= ?_) ?_ hHeld ?_; rotate_left; (intro w0 hS0; have q0:=hS0.cells.2.2.1; rw [HA.out] at q0; go_simp; try with_reducible rfl); simp only [pt,sb,s0,s1];clear hHeld;obtain ⟨s1,⟨u9,c⟩,f⟩:=HD.out.cell (n:=0) (j:=11) (v:= .int .i64 z) (y:= { x with since:=z }) HX.out HA.out ⟨rfl,rfl,rfl⟩ (by decide) rfl (Ao HD.out.small HX.out HZ.out);simp only [Nat.zero_mul,Li] at s1 c f;have HS:=aA s1;clear s1;refine L7 6 (fun K hK=> ?_);go_wp2_with fail;refine hK.out _ _ (by have h5:=HS.out.box; unfold av at h5 ⊢; simpa only [LI] using h5) (fun hHeld=> ?_);clear hK K;refine K3 (by kernel_rfl) ?_ _;clear c f u9 HD hHeld;have HD:=HS;clear HS;obtain ⟨q9,hq9⟩: ∃ q9:af,q9= { q with L8:=q.L8.set 0 { x with since:=z } } :=⟨_,rfl⟩
   rw [← hq9] at HD;clear hq9;go_upto_region 15 with fail;generalize V2.setCell ⟨gs,11,none⟩ (.int .i64 z)=V3 at *;go_wp2_with (first | (refine eT 4 X q9.cells HD.out.box ?_) | (refine ec 2 52 (w.heap.size) q9.cells HD.out.mK ?_));refine mG Tryz.results81 (w.heap.size) q9.cells (.int .i64 now) HD.out.mK ?_;have hx:=HD.out.hx;have hl:=HD.out.st.lt;refine ⟨q9,now,rfl,⟨n0,by omega⟩,(HD.out.own.lower (by omega)).same fun g hg=>KH _ _ _ _ (by have:=(HD.out.own.lt g hg).1; omega),HD.out.small,HD.out.but.setRow (Ki _) _,⟨?_,HD.out.st.2.but (HD.out.but.setRow (Ki _) _)⟩⟩;obtain ⟨p,hp,hc⟩:=HD.out.rd.1;exact ⟨p,hp,(KH _ _ _ _ (by omega)).trans hc⟩
  have e1:(v == 38)=false:=by simp [h38]
  clear h38;by_cases h39:v=39
  ·have e2:(v == 39)=true:=by simp [h39]
   clear h39;rcases hps:q.L8 with _ | ⟨x,xs⟩
   ·have il:(q.L8.length:Int)=0:=by rw [hps]; rfl
    have m2:=HD.out.box.cells.2.2.1;rw [hps] at m2;simp only [K4] at m2;clear il hps;go_wp2_with (first | (refine eT 4 X q.cells HD.out.box ?_) | (refine ec 2 52 (w.heap.size) q.cells HD.out.mK ?_));refine mG Tryz.results81 (w.heap.size) q.cells (.int .i64 now) HD.out.mK ?_;have hx:=HD.out.hx;have hl:=HD.out.st.lt;refine ⟨q,now,rfl,⟨n0,by omega⟩,(HD.out.own.lower (by omega)).same fun g hg=>KH _ _ _ _ (by have:=(HD.out.own.lt g hg).1; omega),HD.out.small,HD.out.but.setRow (Ki _) _,⟨?_,HD.out.st.2.but (HD.out.but.setRow (Ki _) _)⟩⟩;obtain ⟨p,hp,hc⟩:=HD.out.rd.1;exact ⟨p,hp,(KH _ _ _ _ (by omega)).trans hc⟩
   have hx:q.L8[0]? =some x:=by rw [hps]; rfl
   have il:0 < q.L8.length:=by rw [hps]; simp
   have il2:(0:Int) < (q.L8.length:Int):=by omega
   have il3: ¬ q.L8.length=0:=by omega
   have HX:Hid (q.L8[0]? =some x):=hx;clear hps hx;obtain ⟨gs,ha,-⟩:=cn HD.out.own.at.1 HX.out;have m2:=HD.out.box.cells.2.2.1;rw [ha] at m2;have HA:Hid (q.aN=some ⟨gs,0,none⟩):=ha;clear ha;go_upto_region 14 with fail;clear m2;replace HD:=aA (HD.out.reads (Kp _ _).drew);refine Kr (S:=fun w'=>av w' X q) (by kernel_rfl) HD.out.box (fun hHeld=> ?_);generalize World.drew _=V at *;refine tk 0 (v:= ?_) ?_ hHeld ?_; rotate_left; (intro w0 hS0; have q0:=hS0.cells.2.2.1; rw [HA.out] at q0; go_simp; try with_reducible rfl); simp only [pt,sb,s0,s1];refine tk 1 (v:= ?_) ?_ hHeld ?_; rotate_left; (intro w0 hS0; have q0:=hS0.cells.2.2.1; rw [HA.out] at q0; go_simp; try with_reducible rfl); simp only [pt,sb,s0,s1];refine tk 2 (v:= ?_) ?_ hHeld ?_; rotate_left; (intro w0 hS0; have q0:=hS0.cells.2.2.1; rw [HA.out] at q0; go_simp; try with_reducible rfl); simp only [pt,sb,s0,s1];clear hHeld;refine L7 3 (fun K hK=> ?_);go_wp2_with fail;refine (Gk r a len cap 0 7 _ hl (by omega) (by omega) (by omega) HD.out.rd).mono ?_;rintro e V2 ⟨z,rfl,hzw,hb1,hr1⟩;replace HD:=aA (HD.out.drawn hb1 hr1);have HZ:Hid ((Lit.int .i64 z).wf=true):=hzw;clear hb1 hr1 hzw;refine hK.out _ _ HD.out.box (fun hHeld=> ?_);clear hK K
   try simp only [pt,sb,s0,s1]
   refine tk 4 (v:= ?_) ?_ hHeld ?_; rotate_left; (intro w0 hS0; have q0:=hS0.cells.2.2.1; rw [HA.out] at q0; go_simp; try with_reducible rfl); simp only [pt,sb,s0,s1];refine tk 5 (v:= ?_) ?_ hHeld ?_; rotate_left; (intro w0 hS0; have q0:=hS0.cells.2.2.1; rw [HA.out] at q0; go_simp; try with_reducible rfl); simp only [pt,sb,s0,s1];clear hHeld;obtain ⟨s1,⟨u9,c⟩,f⟩:=HD.out.cell (n:=0) (j:=3) (v:= .int .i64 z) (y:= { x with Md:=z }) HX.out HA.out ⟨rfl,rfl,rfl⟩ (by decide) rfl (Ax HD.out.small HX.out);simp only [Nat.zero_mul,Li] at s1 c f;have HS:=aA s1;clear s1;refine L7 6 (fun K hK=> ?_);go_wp2_with fail;refine hK.out _ _ (by have h5:=HS.out.box; unfold av at h5 ⊢; simpa only [LI] using h5) (fun hHeld=> ?_);clear hK K;refine K3 (by kernel_rfl) ?_ _;clear c f u9 HD hHeld;have HD:=HS;clear HS;obtain ⟨q9,hq9⟩: ∃ q9:af,q9= { q with L8:=q.L8.set 0 { x with Md:=z } } :=⟨_,rfl⟩
   rw [← hq9] at HD;clear hq9;go_upto_region 15 with fail;generalize V2.setCell ⟨gs,3,none⟩ (.int .i64 z)=V3 at *;go_wp2_with (first | (refine eT 4 X q9.cells HD.out.box ?_) | (refine ec 2 52 (w.heap.size) q9.cells HD.out.mK ?_));refine mG Tryz.results81 (w.heap.size) q9.cells (.int .i64 now) HD.out.mK ?_;have hx:=HD.out.hx;have hl:=HD.out.st.lt;refine ⟨q9,now,rfl,⟨n0,by omega⟩,(HD.out.own.lower (by omega)).same fun g hg=>KH _ _ _ _ (by have:=(HD.out.own.lt g hg).1; omega),HD.out.small,HD.out.but.setRow (Ki _) _,⟨?_,HD.out.st.2.but (HD.out.but.setRow (Ki _) _)⟩⟩;obtain ⟨p,hp,hc⟩:=HD.out.rd.1;exact ⟨p,hp,(KH _ _ _ _ (by omega)).trans hc⟩
  have e2:(v == 39)=false:=by simp [h39]
  clear h39;go_wp2_with (first | (refine eT 4 X q.cells HD.out.box ?_) | (refine ec 2 52 (w.heap.size) q.cells HD.out.mK ?_));refine mG Tryz.results81 (w.heap.size) q.cells (.int .i64 now) HD.out.mK ?_;have hx:=HD.out.hx;have hl:=HD.out.st.lt;refine ⟨q,now,rfl,⟨n0,by omega⟩,(HD.out.own.lower (by omega)).same fun g hg=>KH _ _ _ _ (by have:=(HD.out.own.lt g hg).1; omega),HD.out.small,HD.out.but.setRow (Ki _) _,⟨?_,HD.out.st.2.but (HD.out.but.setRow (Ki _) _)⟩⟩;obtain ⟨p,hp,hc⟩:=HD.out.rd.1;exact ⟨p,hp,(KH _ _ _ _ (by omega)).trans hc⟩
end Go.Proofs.YtkbcplnlehdjfaaGreat
