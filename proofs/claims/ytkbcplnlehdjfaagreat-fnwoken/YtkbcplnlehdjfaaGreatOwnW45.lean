/- What the proof leans on, part 45. -/
import Derived.Test.YtkbcplnlehdjfaaGreatOwnW44
set_option maxRecDepth 100000
set_option maxHeartbeats 8000000
open Go renaming heap_alloc2_new->Kq,heap_alloc_new->Kj,setRow_heap->KU,setRow_other->KH,wpAnyH_done->K3,wpAnyH_ready->KW,wp_at_succ->Kd,wp_at_zero->Kc,wp_region_held_drew->Kr
open Go.AllReadyH renaming cons->KX,nil->KY
open Go.IntKind renaming wrap_i64->K8
open Go.Proofs.Tryz renaming prog->J3,results81->Qv
open Go.RowKit.Below renaming refl->Kp
open List renaming getElem?_eq_getElem->Kz,getElem_cons_succ->K1,getElem_cons_zero->K0,getElem_toArray->KZ,length_nil->K4,length_set->LI,mem_cons->Kt,mem_of_getElem?->KA
open Nat renaming le_refl->Ki,zero_add->Li,zero_le->Ky

namespace Go.Proofs.YtkbcplnlehdjfaaGreat
section
open Go.RowKit Go.Maps
attribute [local go_sem ↓] Kc Kd
theorem GN (r:Nat) (a:Option Addr) (len cap:Nat) (w:World) (hl:len≤1048576) (h:Rd r a len cap w):
  Calls J3 81 #[.pointer (some ⟨r,0,none⟩)] w fun e w'=> ∃ (q:af) (now:Int),e= .returned (.tuple #[.agg q.cells,.int .i64 now])∧(0≤now∧now≤26)∧ap w' w.heap.size q∧q.pure.Small∧q.next≤1000∧gG r w w'∧Rd r a len cap w':=by
 have h5:=(Kp w.heap.size w).alloc (Ki _) (.cells ar 32);have S:Hid (Rd r a len cap w∧Rd r a len cap (w.alloc (.cells ar 32))∧gG r w (w.alloc (.cells ar 32))∧(w.alloc (.cells ar 32)).heap[w.heap.size]? =some (.cells ar 32 (0,0))∧(w.alloc (.cells ar 32)).heap.size=w.heap.size+1):=⟨h,h.below h5,gG.dI h5,Kj _ _,by simp⟩
 clear h h5
 go_enter Tryz.func81,Tryz.ntmps81
 go_upto_region 1 with fail;generalize w.alloc (.cells ar 32)=A at *;go_wp2_with fail;refine (FL r a len cap 1 A hl rfl S.I.2.1).mono ?_;rintro e A2 ⟨q,rfl,ho,hs,hn,hb,hr⟩;have HD:Hid (Dw 4 r a len cap w A2.heap.size q ((A2.alloc (.cells ar 32)).setRow A2.heap.size q.cells)):=by
  have hz:=S.I.2.2.2.2;have hrl:=S.I.1.lt;exact Dw.first hr S.I.1 (S.I.2.2.1.trans hb) (ho.lower (by omega)) hs ⟨by decide,hn⟩ ((hb.block _ (by omega) (by omega)).trans S.I.2.2.2.1)
 clear ho hs hn hb hr S;go_upto_region 2 with (refine ec 4 8 q.cells (Kj _ _) ?_);generalize (A2.alloc (.cells ar 32)).setRow A2.heap.size q.cells=B at *;generalize A2.heap.size=X at *;go_wp2_with fail;refine (dh r a len cap 14 _ hl (by omega) (by omega) HD.I.rd).mono ?_;rintro e B1 ⟨u,ua,ub,rfl,hb1,hr1⟩;replace HD:=aA (HD.I.drawn hb1 hr1);clear hb1 hr1;go_wp2_with fail
 go_loopw [5,6] (fun n i wr=> ∃ (k now:Int) (q:af),i= .int .i64 k∧n= .int .i64 now∧0≤k∧k≤13∧0≤now∧now+2 * k≤26∧Hid (Dw (4+13 * (13 - k)) r a len cap w X q wr)) (fun _ i _=>(Go.RowKit.intOf i).toNat)
 case atStart=>exact ⟨u,0,q,rfl,rfl,ua,by omega,by omega,by omega,aA (HD.I.up (by omega))⟩
 case round=>
  clear HD;obtain ⟨qo,qP⟩: ∃ qo:af,qo=q:=⟨_,rfl⟩
  subst qP;obtain ⟨k,now,q,rfl,rfl,k0,k1,n0,n1,HD⟩:=hrel;by_cases hk:0 < k
  ·have Mb:=vu q now _ (dV HD.I.small) (fun x hx=>(cY HD.I.small hx).1) HD.I.own.at
   go_wp2_with (refine eT 4 HD.I.box ?_);refine Mb.mono ?_;clear Mb;rintro e W1 ⟨q2,rfl,ho,hp,hb⟩;have HB:=aA ((HD.I.reads hb).box);replace HD:=aA (HD.I.put hb ho (by rw [hp]; exact za) (Sk hp HD.I.low));clear hb ho hp;go_upto_region 7 with (refine ec 4 19 q2.cells HB.I ?_);generalize W1.setRow X q2.cells=W2 at *;clear HB;have e3:IntKind.wrap .i64 (k - 1)=k - 1:=by rw [K8]; omega
   go_wp2_with fail;refine (dh r a len cap 2 _ hl (by omega) (by omega) HD.I.rd).mono ?_;rintro e W3 ⟨v,va,vb,rfl,hb1,hr1⟩;replace HD:=aA (HD.I.drawn hb1 hr1);clear hb1 hr1;have e4:IntKind.wrap .i64 (1+v)=1+v:=by rw [K8]; omega
   have e5:IntKind.wrap .i64 (now+(1+v))=now+(1+v):=by rw [K8]; omega
   go_wp2_with fail;go_roundw
   case rel=>exact ⟨k - 1,now+(1+v),q2,rfl,rfl,by omega,by omega,by omega,by omega,aA (HD.I.up (by omega))⟩
   case measure=>simp [Go.RowKit.intOf]; omega
  go_wp2_with fail;refine (dh r a len cap 40 _ hl (by omega) (by omega) HD.I.rd).mono ?_;rintro e W3 ⟨v,va,vb,rfl,hb1,hr1⟩;replace HD:=aA (HD.I.drawn hb1 hr1);clear hb1 hr1;by_cases h38:v=38
  ·have e1:(v == 38)=true:=by simp [h38]
   clear h38;rcases hps:q.L8 with _ | ⟨x,xs⟩
   ·have il:(q.L8.length:Int)=0:=by rw [hps]; rfl
    have m2:=HD.I.box.cells.2.2.1;rw [hps] at m2;simp only [K4] at m2;clear il hps;go_wp2_with (first | (refine eT 4 HD.I.box ?_) | (refine ec 2 52 q.cells HD.I.mK ?_));refine mG Qv (.int .i64 now) HD.I.mK ?_;exact ⟨q,now,rfl,⟨n0,by omega⟩,(HD.I.up (by omega)).fin⟩
   have hx:q.L8[0]? =some x:=by rw [hps]; rfl
   have il:0 < q.L8.length:=by rw [hps]; simp
   have il2:(0:Int) < (q.L8.length:Int):=by omega
   have il3: ¬ q.L8.length=0:=by omega
   have HX:Hid (q.L8[0]? =some x):=hx;clear hps hx;obtain ⟨gs,ha,-⟩:=cn HD.I.own.at.1 HX.I;have m2:=HD.I.box.cells.2.2.1;rw [ha] at m2;have HA:Hid (q.aN=some ⟨gs,0,none⟩):=ha;clear ha;go_upto_region 11 with fail;clear m2;replace HD:=aA (HD.I.reads (Kp _ _).drew);refine Kr (S:=fun w'=>av w' X q) (by kernel_rfl) HD.I.box (fun hHeld=> ?_);generalize World.drew _=V at *;refine tt 0 hHeld ?_ (hy:=fun w0 hS0=>by have q0:=hS0.cells.2.2.1; rw [HA.I] at q0; go_simp; try with_reducible rfl);refine tt 1 hHeld ?_ (hy:=fun w0 hS0=>by have q0:=hS0.cells.2.2.1; rw [HA.I] at q0; go_simp; try with_reducible rfl);refine tt 2 hHeld ?_ (hy:=fun w0 hS0=>by have q0:=hS0.cells.2.2.1; rw [HA.I] at q0; go_simp; try with_reducible rfl);clear hHeld;refine L7 3 (fun K hK=> ?_);go_wp2_with fail;refine (Gk r a len cap 0 3 _ hl (by omega) (by omega) (by omega) HD.I.rd).mono ?_;rintro e V2 ⟨z,rfl,hzw,hb1,hr1⟩;replace HD:=aA (HD.I.drawn hb1 hr1);have HZ:Hid ((Lit.int .i64 z).wf=true):=hzw;clear hb1 hr1 hzw;refine hK.out _ _ HD.I.box (fun hHeld=> ?_);clear hK K
   try simp only [pt,sb,s0,s1]
   refine tt 4 hHeld ?_ (hy:=fun w0 hS0=>by have q0:=hS0.cells.2.2.1; rw [HA.I] at q0; go_simp; try with_reducible rfl);refine tt 5 hHeld ?_ (hy:=fun w0 hS0=>by have q0:=hS0.cells.2.2.1; rw [HA.I] at q0; go_simp; try with_reducible rfl);clear hHeld;obtain ⟨s1,⟨u9,c⟩,f⟩:=HD.I.cell (n:=0) (j:=11) (v:= .int .i64 z) (y:= { x with RU:=z }) HX.I HA.I ⟨rfl,rfl,rfl⟩ (by decide) rfl (Ao HD.I.small HX.I HZ.I);simp only [Nat.zero_mul,Li] at s1 c f;have HS:=aA s1;clear s1;refine L7 6 (fun K hK=> ?_);go_wp2_with fail;refine hK.out _ _ (by have h5:=HS.I.box; unfold av at h5 ⊢; simpa only [LI] using h5) (fun hHeld=> ?_);clear hK K;refine K3 (by kernel_rfl) ?_ _;clear c f u9 HD hHeld;have HD:=HS;clear HS;obtain ⟨q9,hq9⟩: ∃ q9:af,q9= { q with L8:=q.L8.set 0 { x with RU:=z } } :=⟨_,rfl⟩
   rw [← hq9] at HD;clear hq9;go_upto_region 15 with fail;generalize V2.setCell ⟨gs,11,none⟩ (.int .i64 z)=V3 at *;go_wp2_with (first | (refine eT 4 HD.I.box ?_) | (refine ec 2 52 q9.cells HD.I.mK ?_));refine mG Qv (.int .i64 now) HD.I.mK ?_;exact ⟨q9,now,rfl,⟨n0,by omega⟩,(HD.I.up (by omega)).fin⟩
  have e1:(v == 38)=false:=by simp [h38]
  clear h38;by_cases h39:v=39
  ·have e2:(v == 39)=true:=by simp [h39]
   clear h39;rcases hps:q.L8 with _ | ⟨x,xs⟩
   ·have il:(q.L8.length:Int)=0:=by rw [hps]; rfl
    have m2:=HD.I.box.cells.2.2.1;rw [hps] at m2;simp only [K4] at m2;clear il hps;go_wp2_with (first | (refine eT 4 HD.I.box ?_) | (refine ec 2 52 q.cells HD.I.mK ?_));refine mG Qv (.int .i64 now) HD.I.mK ?_;exact ⟨q,now,rfl,⟨n0,by omega⟩,(HD.I.up (by omega)).fin⟩
   have hx:q.L8[0]? =some x:=by rw [hps]; rfl
   have il:0 < q.L8.length:=by rw [hps]; simp
   have il2:(0:Int) < (q.L8.length:Int):=by omega
   have il3: ¬ q.L8.length=0:=by omega
   have HX:Hid (q.L8[0]? =some x):=hx;clear hps hx;obtain ⟨gs,ha,-⟩:=cn HD.I.own.at.1 HX.I;have m2:=HD.I.box.cells.2.2.1;rw [ha] at m2;have HA:Hid (q.aN=some ⟨gs,0,none⟩):=ha;clear ha;go_upto_region 14 with fail;clear m2;replace HD:=aA (HD.I.reads (Kp _ _).drew);refine Kr (S:=fun w'=>av w' X q) (by kernel_rfl) HD.I.box (fun hHeld=> ?_);generalize World.drew _=V at *;refine tt 0 hHeld ?_ (hy:=fun w0 hS0=>by have q0:=hS0.cells.2.2.1; rw [HA.I] at q0; go_simp; try with_reducible rfl);refine tt 1 hHeld ?_ (hy:=fun w0 hS0=>by have q0:=hS0.cells.2.2.1; rw [HA.I] at q0; go_simp; try with_reducible rfl);refine tt 2 hHeld ?_ (hy:=fun w0 hS0=>by have q0:=hS0.cells.2.2.1; rw [HA.I] at q0; go_simp; try with_reducible rfl);clear hHeld;refine L7 3 (fun K hK=> ?_);go_wp2_with fail;refine (Gk r a len cap 0 7 _ hl (by omega) (by omega) (by omega) HD.I.rd).mono ?_;rintro e V2 ⟨z,rfl,hzw,hb1,hr1⟩;replace HD:=aA (HD.I.drawn hb1 hr1);have HZ:Hid ((Lit.int .i64 z).wf=true):=hzw;clear hb1 hr1 hzw;refine hK.out _ _ HD.I.box (fun hHeld=> ?_);clear hK K
   try simp only [pt,sb,s0,s1]
   refine tt 4 hHeld ?_ (hy:=fun w0 hS0=>by have q0:=hS0.cells.2.2.1; rw [HA.I] at q0; go_simp; try with_reducible rfl);refine tt 5 hHeld ?_ (hy:=fun w0 hS0=>by have q0:=hS0.cells.2.2.1; rw [HA.I] at q0; go_simp; try with_reducible rfl);clear hHeld;obtain ⟨s1,⟨u9,c⟩,f⟩:=HD.I.cell (n:=0) (j:=3) (v:= .int .i64 z) (y:= { x with Md:=z }) HX.I HA.I ⟨rfl,rfl,rfl⟩ (by decide) rfl (Ax HD.I.small HX.I);simp only [Nat.zero_mul,Li] at s1 c f;have HS:=aA s1;clear s1;refine L7 6 (fun K hK=> ?_);go_wp2_with fail;refine hK.out _ _ (by have h5:=HS.I.box; unfold av at h5 ⊢; simpa only [LI] using h5) (fun hHeld=> ?_);clear hK K;refine K3 (by kernel_rfl) ?_ _;clear c f u9 HD hHeld;have HD:=HS;clear HS;obtain ⟨q9,hq9⟩: ∃ q9:af,q9= { q with L8:=q.L8.set 0 { x with Md:=z } } :=⟨_,rfl⟩
   rw [← hq9] at HD;clear hq9;go_upto_region 15 with fail;generalize V2.setCell ⟨gs,3,none⟩ (.int .i64 z)=V3 at *;go_wp2_with (first | (refine eT 4 HD.I.box ?_) | (refine ec 2 52 q9.cells HD.I.mK ?_));refine mG Qv (.int .i64 now) HD.I.mK ?_;exact ⟨q9,now,rfl,⟨n0,by omega⟩,(HD.I.up (by omega)).fin⟩
  have e2:(v == 39)=false:=by simp [h39]
  clear h39;go_wp2_with (first | (refine eT 4 HD.I.box ?_) | (refine ec 2 52 q.cells HD.I.mK ?_));refine mG Qv (.int .i64 now) HD.I.mK ?_;exact ⟨q,now,rfl,⟨n0,by omega⟩,(HD.I.up (by omega)).fin⟩
structure th (A:World) (a:Option Addr) (len cap X:Nat) (q:af) (W:World):Prop where
 rd:Rd A.heap.size a len cap W
 low:Below A.heap.size A W
 own:ap W (A.heap.size+1) q
 small:q.pure.Small
 box:av W X q
 hx:A.heap.size < X
section
variable {len cap X:Nat} {a:Option Addr} {A A1 W W2:World} {q:af}
theorem th.drawn (h:th A a len cap X q W) (hb:gG A.heap.size W W2) (hr:Rd A.heap.size a len cap W2):th A a len cap X q W2:=by
 have hx:=h.hx;exact ⟨hr,h.low.trans (hb.below (Ki _) h.low.size),h.own.same fun g hg=>hb.block g (h.own.lt g hg).2 (by have:=(h.own.lt g hg).1; omega),h.small,(hb.block _ (av.lt h.box) (by omega)).trans h.box,hx⟩
theorem th.reads (h:th A a len cap X q W) (hb:Below W.heap.size W W2):th A a len cap X q W2:=h.drawn (gG.dI hb) (h.rd.below hb)
theorem th.first (h1:Below A.heap.size A A1) (hr1:Rd A.heap.size a len cap A1) (hb:gG A.heap.size A1 W) (ho:ap W A1.heap.size q) (hs:q.pure.Small) (hr:Rd A.heap.size a len cap W):th A a len cap W.heap.size q ((W.alloc (.cells ar 32)).setRow W.heap.size q.cells):=by
 have hz:Below W.heap.size W ((W.alloc (.cells ar 32)).setRow W.heap.size q.cells):=below_setRow ((Kp _ _).alloc (Ki _) _) (Ki _) _;have h2:=hr1.lt;have h3:=h1.size;have h4:=hb.size;exact ⟨hr.below hz,h1.trans ((hb.below (Ki _) h3).trans (hz.mono (by omega))),(ho.lower (by omega)).below hz,hs,KU _ _ _ _ _ _ (Kj _ _),by omega⟩
end
end
section
open Go.RowKit Go.Maps
structure JR (w0:World) (a:Option Addr) (len:Nat) (L:List (Nat × af)) (B:List (Nat × Array Value × TypeId)) (W:World):Prop where
 ins: ∀ x∈L,o8 W x.1 w0.heap.size x.2
 box: ∀ x∈B,oc x.2.1 x.2.2 x.1 W
 low:Below w0.heap.size w0 W
 bytes:Bytes W a len
section
variable {w0 W A:World} {a:Option Addr} {len:Nat} {L:List (Nat × af)} {B:List (Nat × Array Value × TypeId)} {q:af}
theorem JR.below (h:JR w0 a len L B W) (hb:Below W.heap.size W A):JR w0 a len L B A:=
 ⟨fun x hx=>(h.ins x hx).below hb,fun x hx=>(h.box x hx).below hb,h.low.trans (hb.mono h.low.size),h.bytes.below hb⟩
theorem JR.add (h:JR w0 a len L B A) {X:Nat} (hp:o8 A X w0.heap.size q):JR w0 a len ((X,q) :: L) B A:=
 ⟨fun x hx=>(Kt.1 hx).elim (fun e=>by rw [e]; exact hp) (h.ins x),h.box,h.low,h.bytes⟩
theorem JR.put (h:JR w0 a len L B W) (hb:Below W.heap.size W A) (ho:ap A W.heap.size q):JR w0 a len ((A.heap.size,q) :: L) B ((A.alloc (.cells ar 32)).setRow A.heap.size q.cells):=by
 have hz:Below A.heap.size A ((A.alloc (.cells ar 32)).setRow A.heap.size q.cells):=below_setRow ((Kp _ _).alloc (Ki _) _) (Ki _) _;exact ((h.below hb).below hz).add ⟨KU _ _ _ _ _ _ (Kj _ _),(ho.lower h.low.size).below hz⟩
end
end
section
open Go.RowKit Go.Maps
attribute [local go_sem ↓] Kc Kd
theorem Pe (a:Option Addr) (len cap:Nat) (w:World) (hl:len≤1048576) (hb:Bytes w a len):
  Calls J3 55 #[.slice a len cap] w fun e w'=> ∃ (q:af) (now:Int),e= .returned (.tuple #[.agg q.cells,.int .i64 now])∧(0≤now∧now≤40)∧ap w' w.heap.size q∧q.pure.Small∧q.next≤1000∧Below w.heap.size w w':=by
 have h5:Below w.heap.size w (w.alloc (.cells ar 32)):=(Kp w.heap.size w).alloc (Ki _) _;have S:Hid (Below w.heap.size w (w.alloc (.cells ar 32))∧(w.alloc (.cells ar 32)).heap[w.heap.size]? =some (.cells ar 32 (0,0))∧(w.alloc (.cells ar 32)).heap.size=w.heap.size+1∧Bytes (w.alloc (.cells ar 32)) a len):=⟨h5,(Kj _ _),by simp,hb.below h5⟩
 clear hb h5
 go_enter Tryz.func55,Tryz.ntmps55
 go_upto_region 1 with fail;generalize w.alloc (.cells ar 32)=A at *;go_wp2_with fail;refine (Gj a len cap A S.I.2.2.2).mono ?_;rintro e A1 ⟨rfl,hb1,hr1,-⟩;have Mb:=GN A.heap.size a len cap A1 hl hr1;go_wp2_with fail;refine Mb.mono ?_;clear Mb;rintro e A2 ⟨q,now,rfl,hnw,ho,hs,hnx,hb2,hr2⟩;have HNW:=aA hnw; clear hnw; have Jf:=aA hnx; clear hnx;have HD:=aA (th.first hb1 hr1 hb2 ho hs hr2);clear hb1 hr1 hb2 ho hs hr2;go_upto_region 3 with (refine ec 5 12 q.cells (Kj _ _) ?_);generalize (A2.alloc (.cells ar 32)).setRow A2.heap.size q.cells=B at *;generalize A2.heap.size=X at *;replace HD:=aA (HD.I.reads (Kp _ _).drew);refine Kr (S:=fun W=>av W X q) (by kernel_rfl) HD.I.box (fun _=> ?_);generalize World.drew _=V at *;refine tkr 0 (v:= .agg q.cells) rfl (Ib (by rfl) 32 _ rfl X (by rfl) 32 _ _ (fun _ h=>h) Tryz.underlying32 rfl (by kernel_rfl)) HD.I.box ?_; simp only [pt,sb,s0,s1];refine tt 1 HD.I.box ?_;refine tt 2 HD.I.box ?_;refine KW (rs:= [3]) (by kernel_rfl) (by simp) ?_;refine KX rfl (fun K hK=> ?_) KY;simp only [KZ,K0,K1];rw [if_pos (by rfl)];go_wp2_with fail;refine (dh A.heap.size a len cap 9 _ hl (by omega) (by omega) HD.I.rd).mono ?_;rintro e W1 ⟨u,ua,ub,rfl,hb1,hr1⟩;replace HD:=aA (HD.I.drawn hb1 hr1);clear hb1 hr1;refine hK.out _ _ HD.I.box (fun _=> ?_);clear hK K
 try simp only [pt,sb,s0,s1]
 refine tt 4 HD.I.box ?_;have n0:=S.I.2.2.1;have hx:=HD.I.hx;have ha:=(HD.I.low.block _ (by omega)).trans S.I.2.1;refine KW (rs:= [5]) (by kernel_rfl) (by simp) ?_;refine KX rfl (fun K hK=> ?_) KY;simp only [KZ,K0,K1];rw [if_pos (by rfl)];refine wp_store_row 32 (.tmp 2) (.tmp 14) rfl w.heap.size q.cells rfl rfl _ _ ha (by kernel_rfl) rfl (by kernel_rfl) ?_;have b1:=(KH W1 w.heap.size X q.cells (by omega)).trans HD.I.box;refine hK.out _ _ b1 (fun _=> ?_);clear hK K;refine tk 6 (v:= ?_) ?_ b1 ?_; rotate_left; (intro w0 hS0; go_simp; try with_reducible rfl); simp only [pt];refine K3 (by kernel_rfl) ?_ _;go_wp2_with fail;refine mG Tryz.results55 (.int .i64 (IntKind.wrap .i64 (now+u))) ha ?_;exact ⟨q,IntKind.wrap .i64 (now+u),rfl,(by rw [K8]; have:=HNW.I; omega),(HD.I.own.lower (by omega)).same fun g hg=>KH _ _ _ _ (by have:=(HD.I.own.lt g hg).1; omega),HD.I.small,Jf.I,below_setRow (S.I.1.trans (HD.I.low.mono S.I.1.size)) (Ki _) _⟩
theorem Nn (p q:af) (w:World) (bp bq:Nat) (hsp:p.pure.Small) (hop:ap w bp p) (Pv:q.pure.Small) (hoq:ap w bq q) (h:p.pure=q.pure):
  Calls J3 29 #[.agg p.cells,.agg q.cells] w fun e w'=>e= .returned (.bool true)∧Below w.heap.size w w':=by
 have e0:(p.id == q.id)=true:=by have:=congrArg aE.id h; simpa [af.pure] using this
 have e1:(p.next == q.next)=true:=by have:=congrArg aE.next h; simpa [af.pure] using this
 have e2:((p.L8.length:Int) == (q.L8.length:Int))=true:=by have:=congrArg (fun x:aE=>x.L8.length) h; simp only [af.pure,List.length_map] at this; simp [this]
 have hz:Below w.heap.size w ((w.alloc (.cells p.cells 32)).alloc (.cells q.cells 32)):=((Kp _ _).alloc (Ki _) _).alloc (by simp) _;have S:Hid (o8 ((w.alloc (.cells p.cells 32)).alloc (.cells q.cells 32)) w.heap.size bp p∧o8 ((w.alloc (.cells p.cells 32)).alloc (.cells q.cells 32)) (w.heap.size+1) bq q∧Below w.heap.size w ((w.alloc (.cells p.cells 32)).alloc (.cells q.cells 32))):=⟨⟨(((Kp _ _).alloc (Ki _) _).block _ (by simp)).trans (Kj _ _),hop.below hz⟩,⟨Kq _ _ _,hoq.below hz⟩,hz⟩
 have HS:Hid (p.pure.Small∧q.pure.Small∧p.pure=q.pure):=⟨hsp,Pv,h⟩
 clear hsp hop Pv hoq h hz
 go_enter Tryz.func29,Tryz.ntmps29
 go_upto_region 1 with fail;generalize (w.alloc (.cells p.cells 32)).alloc (.cells q.cells 32)=A at *;generalize hX:w.heap.size+1=X at *;clear hX;have NR:Hid (∀ W W2:World,Hid (o8 W w.heap.size bp p∧o8 W X bq q∧Below w.heap.size w W)→Below W.heap.size W W2→Hid (o8 W2 w.heap.size bp p∧o8 W2 X bq q∧Below w.heap.size w W2)):=fun W W2 h hb=>⟨h.I.1.below hb,h.I.2.1.below hb,h.I.2.2.trans (hb.mono h.I.2.2.size)⟩
 refine aT (fun W=>Hid (o8 W w.heap.size bp p∧o8 W X bq q∧Below w.heap.size w W)) (by kernel_rfl) (NR.I _ _ S (Kp _ _).drew) ?_
 iterate 23 (refine PI ?_ (hy:=fun w0 hS0=>by obtain ⟨m0,m1,m2,m3,m4,m5,m6,m7⟩:=hS0.I.1.1.cells; obtain ⟨n0,n1,n2,n3,n4,n5,n6,n7⟩:=hS0.I.2.1.1.cells; go_simp; try with_reducible rfl))
 refine Sc (NF p.pure) 88 #[.agg p.row] (fun w0 h0=>(MS p w0 (dV HS.I.1) (fun x hx=>(cY HS.I.1 hx).1) h0.I.1.2.at).mono fun e w1 h=>⟨h.1,NR.I _ _ h0 h.2⟩) ?_;refine PI ?_ (hy:=fun w0 hS0=>by obtain ⟨m0,m1,m2,m3,m4,m5,m6,m7⟩:=hS0.I.1.1.cells; obtain ⟨n0,n1,n2,n3,n4,n5,n6,n7⟩:=hS0.I.2.1.1.cells; go_simp; try with_reducible rfl);refine Sc (NF p.pure) 88 #[.agg q.row] (fun w0 h0=>(MS q w0 (dV HS.I.2.1) (fun x hx=>(cY HS.I.2.1 hx).1) h0.I.2.1.2.at).mono fun e w1 h=>⟨by rw [HS.I.2.2]; exact h.1,NR.I _ _ h0 h.2⟩) ?_;generalize NF p.pure=T at *
 iterate 3 (refine PI ?_ (hy:=fun w0 hS0=>by obtain ⟨m0,m1,m2,m3,m4,m5,m6,m7⟩:=hS0.I.1.1.cells; obtain ⟨n0,n1,n2,n3,n4,n5,n6,n7⟩:=hS0.I.2.1.1.cells; go_simp; try with_reducible rfl))
 refine bk (by kernel_rfl) (fun A2 hS2=> ?_) _;clear S NR;go_wp2;go_ret;exact ⟨al (by simp),hS2.I.2.2⟩
theorem N1 (a b:Option Addr) (os:List dN) (ca cb:Nat) (w:World) (hl:os.length≤1048576) (ha:Row w a (fk.flat os)) (hb:Row w b (fk.flat os)):
  Calls J3 32 #[.slice a os.length ca,.slice b os.length cb] w fun e w'=>e= .returned (.bool true)∧Below w.heap.size w w':=by
 have HR:Hid (Row w a (fk.flat os)∧Row w b (fk.flat os)):=⟨ha,hb⟩
 clear ha hb
 go_enter Tryz.func32,Tryz.ntmps32
 go_wp2_with fail
 go_loopw [5] (fun i wr=> ∃ k:Nat,k≤os.length∧i= .int .i64 k∧Below w.heap.size w wr) (fun i _=>os.length - (Go.RowKit.intOf i).toNat)
 case atStart=>exact ⟨0,Ky _,rfl,Kp _ _⟩
 case round=>
  obtain ⟨k,hk,rfl,kj⟩:=hrel;by_cases hlt:k < os.length
  ·obtain ⟨⟨K,N,M,S⟩,hx⟩: ∃ x,os[k]? =some x:=⟨_,Kz hlt⟩
   obtain ⟨g,rfl,c0,c1,c2,c3⟩:=Jm (HR.I.1.below kj) hx;obtain ⟨g',rfl,d0,d1,d2,d3⟩:=Jm (HR.I.2.below kj) hx;clear HR hx;have i0:(0:Int)≤(k:Int):=by omega
   have i1:(k:Int) < (os.length:Int):=by omega
   go_wp2_with fail
   go_quiet (fail)
   go_wp2;go_roundw
   case rel=>exact ⟨k+1,by omega,by go_num,kj.os,kj.tape,kj.output,kj.size,kj.block⟩
   case measure=>simp [Go.RowKit.intOf]; omega
  ·have i1: ¬ (k:Int) < (os.length:Int):=by omega
   go_wp2;go_ret;exact ⟨rfl,kj⟩
theorem Nl (x y:ao) (w:World) (h:x.toaD=y.toaD) (hl:x.prog.length≤1048576) (hx:Row w x.aY (fk.flat x.prog)) (hy:Row w y.aY (fk.flat y.prog)):
  Calls J3 31 #[.agg (aX x),.agg (aX y)] w fun e w'=>e= .returned (.bool true)∧Below w.heap.size w w':=by
 obtain ⟨y0,ya,yc⟩:=y;obtain ⟨x0,xa,xc⟩:=x;cases h;have hz:Below w.heap.size w ((w.alloc (.cells #[.int .i64 y0.id,.int .i64 y0.RX,.slice xa y0.prog.length xc,.int .i64 y0.Md,.int .i64 y0.pc,.int .i64 y0.left,.int .i64 y0.Mg,.int .i64 y0.on,.string y0.held,.string y0.got,.int .i64 y0.code,.int .i64 y0.RU] 43)).alloc (.cells #[.int .i64 y0.id,.int .i64 y0.RX,.slice ya y0.prog.length yc,.int .i64 y0.Md,.int .i64 y0.pc,.int .i64 y0.left,.int .i64 y0.Mg,.int .i64 y0.on,.string y0.held,.string y0.got,.int .i64 y0.code,.int .i64 y0.RU] 43)):=((Kp _ _).alloc (Ki _) _).alloc (by simp) _;have S:Hid (((w.alloc (.cells #[.int .i64 y0.id,.int .i64 y0.RX,.slice xa y0.prog.length xc,.int .i64 y0.Md,.int .i64 y0.pc,.int .i64 y0.left,.int .i64 y0.Mg,.int .i64 y0.on,.string y0.held,.string y0.got,.int .i64 y0.code,.int .i64 y0.RU] 43)).alloc (.cells #[.int .i64 y0.id,.int .i64 y0.RX,.slice ya y0.prog.length yc,.int .i64 y0.Md,.int .i64 y0.pc,.int .i64 y0.left,.int .i64 y0.Mg,.int .i64 y0.on,.string y0.held,.string y0.got,.int .i64 y0.code,.int .i64 y0.RU] 43)).heap[w.heap.size]? =some (.cells (aX ⟨y0,xa,xc⟩) 43 (0,0))∧((w.alloc (.cells #[.int .i64 y0.id,.int .i64 y0.RX,.slice xa y0.prog.length xc,.int .i64 y0.Md,.int .i64 y0.pc,.int .i64 y0.left,.int .i64 y0.Mg,.int .i64 y0.on,.string y0.held,.string y0.got,.int .i64 y0.code,.int .i64 y0.RU] 43)).alloc (.cells #[.int .i64 y0.id,.int .i64 y0.RX,.slice ya y0.prog.length yc,.int .i64 y0.Md,.int .i64 y0.pc,.int .i64 y0.left,.int .i64 y0.Mg,.int .i64 y0.on,.string y0.held,.string y0.got,.int .i64 y0.code,.int .i64 y0.RU] 43)).heap[w.heap.size+1]? =some (.cells (aX ⟨y0,ya,yc⟩) 43 (0,0))∧Below w.heap.size w ((w.alloc (.cells #[.int .i64 y0.id,.int .i64 y0.RX,.slice xa y0.prog.length xc,.int .i64 y0.Md,.int .i64 y0.pc,.int .i64 y0.left,.int .i64 y0.Mg,.int .i64 y0.on,.string y0.held,.string y0.got,.int .i64 y0.code,.int .i64 y0.RU] 43)).alloc (.cells #[.int .i64 y0.id,.int .i64 y0.RX,.slice ya y0.prog.length yc,.int .i64 y0.Md,.int .i64 y0.pc,.int .i64 y0.left,.int .i64 y0.Mg,.int .i64 y0.on,.string y0.held,.string y0.got,.int .i64 y0.code,.int .i64 y0.RU] 43))∧Row ((w.alloc (.cells #[.int .i64 y0.id,.int .i64 y0.RX,.slice xa y0.prog.length xc,.int .i64 y0.Md,.int .i64 y0.pc,.int .i64 y0.left,.int .i64 y0.Mg,.int .i64 y0.on,.string y0.held,.string y0.got,.int .i64 y0.code,.int .i64 y0.RU] 43)).alloc (.cells #[.int .i64 y0.id,.int .i64 y0.RX,.slice ya y0.prog.length yc,.int .i64 y0.Md,.int .i64 y0.pc,.int .i64 y0.left,.int .i64 y0.Mg,.int .i64 y0.on,.string y0.held,.string y0.got,.int .i64 y0.code,.int .i64 y0.RU] 43)) xa (fk.flat y0.prog)∧Row ((w.alloc (.cells #[.int .i64 y0.id,.int .i64 y0.RX,.slice xa y0.prog.length xc,.int .i64 y0.Md,.int .i64 y0.pc,.int .i64 y0.left,.int .i64 y0.Mg,.int .i64 y0.on,.string y0.held,.string y0.got,.int .i64 y0.code,.int .i64 y0.RU] 43)).alloc (.cells #[.int .i64 y0.id,.int .i64 y0.RX,.slice ya y0.prog.length yc,.int .i64 y0.Md,.int .i64 y0.pc,.int .i64 y0.left,.int .i64 y0.Mg,.int .i64 y0.on,.string y0.held,.string y0.got,.int .i64 y0.code,.int .i64 y0.RU] 43)) ya (fk.flat y0.prog)∧y0.prog.length≤1048576):=⟨(((Kp _ _).alloc (Ki _) _).block _ (by simp)).trans (Kj _ _),Kq _ _ _,hz,hx.below hz,hy.below hz,hl⟩
 clear hz hx hy hl;unfold aX
 go_enter Tryz.func31,Tryz.ntmps31
 go_upto_region 1 with fail;generalize (w.alloc (.cells #[.int .i64 y0.id,.int .i64 y0.RX,.slice xa y0.prog.length xc,.int .i64 y0.Md,.int .i64 y0.pc,.int .i64 y0.left,.int .i64 y0.Mg,.int .i64 y0.on,.string y0.held,.string y0.got,.int .i64 y0.code,.int .i64 y0.RU] 43)).alloc (.cells #[.int .i64 y0.id,.int .i64 y0.RX,.slice ya y0.prog.length yc,.int .i64 y0.Md,.int .i64 y0.pc,.int .i64 y0.left,.int .i64 y0.Mg,.int .i64 y0.on,.string y0.held,.string y0.got,.int .i64 y0.code,.int .i64 y0.RU] 43)=A at *;generalize hX:w.heap.size+1=X at *;clear hX;have Mb:=N1 xa ya y0.prog xc yc A S.I.2.2.2.2.2 S.I.2.2.2.1 S.I.2.2.2.2.1;obtain ⟨m0,m1,m2,m3,m4,m5,m6,m7,m8,Mm,m10,m11⟩:=bo S.I.1;obtain ⟨n0,n1,n2,n3,n4,n5,n6,n7,n8,n9,n10,n11⟩:=bo S.I.2.1;go_wp2_with fail;clear m0 m1 m2 m3 m4 m5 m6 m7 m8 Mm m10 m11 n0 n1 n2 n3 n4 n5 n6 n7 n8 n9 n10 n11;refine Mb.mono ?_;clear Mb;rintro e A2 ⟨rfl,hb⟩;have HB:Hid (Below w.heap.size w A2):=S.I.2.2.1.trans (hb.mono S.I.2.2.1.size);clear hb S;go_wp2;go_ret;exact ⟨al (by simp),HB.I⟩
structure NY (w0:World) (a:Option Addr) (len:Nat) (L:List (Nat × af)) (B:List (Nat × ao)) (W:World):Prop where
 st:JR w0 a len L [] W
 box: ∀ x∈B,W.heap[x.1]? =some (.cells (aX x.2) 43 (0,0))
 row: ∀ x∈B,Row W x.2.aY (fk.flat x.2.prog)
section
variable {w0 W A:World} {a:Option Addr} {len:Nat} {L:List (Nat × af)} {B:List (Nat × ao)} {q:af} {x:ao}
theorem NY.below (h:NY w0 a len L B W) (hb:Below W.heap.size W A):NY w0 a len L B A:=
 ⟨h.st.below hb,fun y hy=>(hb.block _ (Array.getElem?_eq_some_iff.1 (h.box y hy)).1).trans (h.box y hy),fun y hy=>(h.row y hy).below hb⟩
theorem NY.put (h:NY w0 a len L B W) (hb:Below W.heap.size W A) (ho:ap A W.heap.size q):NY w0 a len ((A.heap.size,q) :: L) B ((A.alloc (.cells ar 32)).setRow A.heap.size q.cells):=by
 have hz:Below A.heap.size A ((A.alloc (.cells ar 32)).setRow A.heap.size q.cells):=below_setRow ((Kp _ _).alloc (Ki _) _) (Ki _) _;exact ⟨h.st.put hb ho,((h.below hb).below hz).box,((h.below hb).below hz).row⟩
theorem NY.putX (h:NY w0 a len L B W) (hr:Row W x.aY (fk.flat x.prog)):NY w0 a len L ((W.heap.size,x) :: B) ((W.alloc (.cells cE 43)).setRow W.heap.size (aX x)):=by
 have hz:Below W.heap.size W ((W.alloc (.cells cE 43)).setRow W.heap.size (aX x)):=below_setRow ((Kp _ _).alloc (Ki _) _) (Ki _) _;have h2:=h.below hz;exact ⟨h2.st,fun y hy=>(Kt.1 hy).elim (fun e=>by rw [e]; exact KU _ _ _ _ _ _ (Kj _ _)) (h2.box y),fun y hy=>(Kt.1 hy).elim (fun e=>by rw [e]; exact hr.below hz) (h2.row y)⟩
theorem NY.OS (h:NY w0 a len L B W) (hb:Below W.heap.size W A) (hm:aR.cO A W.heap.size x):NY w0 a len L ((A.heap.size,x) :: B) ((A.alloc (.cells cE 43)).setRow A.heap.size (aX x)):=(h.below hb).putX hm.row
theorem NY.none (h:NY w0 a len L B W):NY w0 a len L [] W:=⟨h.st,by simp,by simp⟩
end
theorem Se (a:Option Addr) (len cap:Nat) (w:World) (hb:len≤1048576→Bytes w a len):
  Calls J3 7 #[.slice a len cap] w fun e w'=>e= .returned (.bool true)∧Below w.heap.size w w':=by
 by_cases hl:1048576 < len
 ·have hd:decide (1048576 < len)=true:=by simp [hl]
  go_enter Tryz.func7,Tryz.ntmps7
  go_wp2_with (go_at_call 20; refine (DG _ _ _ _).mono ?_; rintro e w' ⟨rfl,rfl⟩; rw [hd]);go_ret;exact ⟨rfl,by go_grown⟩
 have hd:decide (1048576 < len)=false:=by simp [hl]
 have HBY:Hid (Bytes w a len):=hb (by omega);clear hb;have HL:Hid (len≤1048576):=(by omega:len≤1048576)
 clear hl
 go_enter Tryz.func7,Tryz.ntmps7
 go_wp2_with (go_at_call 20; refine (DG _ _ _ _).mono ?_; rintro e w' ⟨rfl,rfl⟩; rw [hd]);have S:Hid (NY w' a len [] [] w'):=⟨⟨by simp,by simp,Kp _ _,HBY.I⟩,by simp,by simp⟩
 clear HBY hd;have Mb:=Pe a len cap w' HL.I S.I.st.bytes;go_wp2_with fail;refine Mb.mono ?_;clear Mb;rintro e A1 ⟨p,now,rfl,-,ho,hs,hn,hb⟩;replace S:=aA (S.I.put hb ho);have HS:Hid (p.pure.Small):=hs;have HX:Hid (p.pure.next≤1000):=hn;clear ho hb hs hn;go_upto_region 4 with (refine ec 3 22 p.cells (Kj _ _) ?_);generalize (A1.alloc (.cells ar 32)).setRow A1.heap.size p.cells=W1 at *;generalize A1.heap.size=X1 at *;obtain ⟨R1,Ps⟩: ∃ R,Hid (R=kk p.pure now):=⟨_,rfl⟩
 have Mb:=R3 p now _ (uG HS.I (S.I.st.ins (X1,p) (by simp)).2);rw [← Ps.I] at Mb;go_wp2_with (refine eT 3 (g:=X1) (cs:=p.cells) (S.I.st.ins (X1,p) (by simp)).1 ?_);refine Mb.mono ?_;clear Mb;rintro e A2 ⟨q,rfl,ho,hp,hb⟩;replace S:=aA (S.I.put hb ho);have Pq:=aA hp;clear ho hb hp;go_upto_region 5 with (refine ec 5 28 q.cells (Kj _ _) ?_);generalize (A2.alloc (.cells ar 32)).setRow A2.heap.size q.cells=W2 at *;generalize A2.heap.size=X2 at *;have Mb:=Hx p now _ (dV HS.I) (fun x hx=>(cY HS.I hx).1) (S.I.st.ins (X1,p) (by simp)).2.at;rw [← Ps.I] at Mb;go_wp2_with (refine eT 3 (g:=X1) (cs:=p.cells) (S.I.st.ins (X1,p) (by simp)).1 ?_);refine Mb.mono ?_;clear Mb;rintro e A3 ⟨q1,rfl,ho,hp,hb⟩;replace S:=aA (S.I.put hb ho);have Pq1:=aA hp;clear ho hb hp;go_upto_region 6 with (refine ec 7 34 q1.cells (Kj _ _) ?_);generalize (A3.alloc (.cells ar 32)).setRow A3.heap.size q1.cells=W3 at *;generalize A3.heap.size=X3 at *;have Mk:Hid (q.pure.Small):=by rw [Pq.I,Ps.I]; exact R0
 have Gq1:Hid (q1.pure.Small):=by rw [Pq1.I,Ps.I]; exact R0
 have n1:(R1.isSome != R1.isSome)=false:=by simp
 have Mb:=Nn q q1 _ _ _ Mk.I (S.I.st.ins (X2,q) (by simp)).2 Gq1.I (S.I.st.ins (X3,q1) (by simp)).2 (Pq.I.trans Pq1.I.symm);unfold af.cells at Mb;obtain ⟨m0,m1,m2,m3,m4,m5,m6,m7⟩:=(S.I.st.ins (X2,q) (by simp)).1.cells;obtain ⟨n0,n1,n2,n3,n4,n5,n6,n7⟩:=(S.I.st.ins (X3,q1) (by simp)).1.cells;go_wp2_with fail;clear m0 m1 m2 m3 m4 m5 m6 m7 n0 n1 n2 n3 n4 n5 n6 n7;refine Mb.mono ?_;clear Mb;rintro e B1 ⟨rfl,hb⟩;replace S:=aA (S.I.below hb);clear hb;clear n1;cases c1:R1.isSome
 case false=>
  as_aux_lemma=>
   have n1:(false == false)=true:=rfl;have Mb:=Nn q q1 _ _ _ Mk.I (S.I.st.ins (X2,q) (by simp)).2 Gq1.I (S.I.st.ins (X3,q1) (by simp)).2 (Pq.I.trans Pq1.I.symm);unfold af.cells at Mb;obtain ⟨m0,m1,m2,m3,m4,m5,m6,m7⟩:=(S.I.st.ins (X2,q) (by simp)).1.cells;obtain ⟨n0,n1,n2,n3,n4,n5,n6,n7⟩:=(S.I.st.ins (X3,q1) (by simp)).1.cells;go_wp2_with fail;clear m0 m1 m2 m3 m4 m5 m6 m7 n0 n1 n2 n3 n4 n5 n6 n7;refine Mb.mono ?_;clear Mb;rintro e B2 ⟨rfl,hb⟩;replace S:=aA (S.I.below hb);clear hb;go_wp2;go_ret;exact ⟨al (by simp),S.I.st.low⟩
 case true=>
  as_aux_lemma=>
   have HF:=aA (Sx Ps.I c1 HX.I);rw [← Pq.I] at HF;clear Pq1 Gq1 Ps;have HN:Hid (p.L8.length≤1048576):=(gv HS.I).L8;go_wp2_with fail
   go_loopw [9] (fun i wr=> ∃ k:Nat,k≤p.L8.length∧i= .int .i64 k∧Hid (NY w' a len [(X3,q1),(X2,q),(X1,p)] [] wr)) (fun i _=>p.L8.length - (Go.RowKit.intOf i).toNat)
   case atStart=>exact ⟨0,Ky _,rfl,S⟩
   case round=>
    clear S;obtain ⟨k,hk,rfl,S⟩:=hrel;have hlen:=HN.I;by_cases hlt:k < p.L8.length
    ·skip
     have i0:(0:Int)≤(k:Int):=by omega
     have i1:(k:Int) < (p.L8.length:Int):=by omega
     obtain ⟨x,hx⟩: ∃ x,p.L8[k]? =some x:=⟨_,Kz hlt⟩
     have HM:Hid (x.toaD∈p.pure.L8):=List.mem_map.2 ⟨x,KA hx,rfl⟩;have HY:=aA (HF.I.2.2 x.toaD HM.I);obtain ⟨gs,ha,q0,q1,q2,q3,q4,q5,q6,q7,q8,q9,kY,kV⟩:=cn (S.I.st.ins (X1,p) (by simp)).2.at.1 hx;have HR:=aA (lA (S.I.st.ins (X1,p) (by simp)).2.at.1 hx);have HWI:Hid ((Lit.int .i64 x.id).wf=true):=(cY HS.I (KA hx)).2.id;have HXL:Hid (x.prog.length≤1048576):=(cY HS.I (KA hx)).1.prog;obtain ⟨-,-,m2,-⟩:=(S.I.st.ins (X1,p) (by simp)).1.cells;rw [ha] at m2;clear hx ha;replace S:=aA (S.I.putX HR.I);go_upto_region 12 with (refine wpList_store_row rfl 43 (.tmp 10) (.tmp 68) rfl wr.heap.size _ _ (aX x) rfl rfl (Kj _ _) (by kernel_rfl) rfl (by kernel_rfl) ?_);clear m2 HR q0 q1 q2 q3 q4 q5 q6 q7 q8 q9 kY kV;generalize (wr.alloc (.cells cE 43)).setRow wr.heap.size (aX x)=W31 at *;generalize wr.heap.size=X31 at *;obtain ⟨m0,-,-,-,-,-,-,-,-,-,-,-⟩:=bo (S.I.box (X31,x) (by simp));have Mb:=uN q x.id _ HWI.I (uG Mk.I (S.I.st.ins (X2,q) (by simp)).2);go_wp2_with (refine eT 5 (g:=X2) (cs:=q.cells) (S.I.st.ins (X2,q) (by simp)).1 ?_);refine Mb.mono ?_;clear Mb m0;rintro e Mx ⟨u,rfl,hm,hu,hb⟩;replace S:=aA (S.I.OS hb hm);rw [← hu] at HY;clear hm hu hb;go_upto_region 13 with (refine wpList_store_row rfl 43 (.tmp 11) (.tmp 74) rfl Mx.heap.size _ _ (aX u) rfl rfl (Kj _ _) (by kernel_rfl) rfl (by kernel_rfl) ?_);generalize (Mx.alloc (.cells cE 43)).setRow Mx.heap.size (aX u)=W32 at *;generalize Mx.heap.size=X32 at *;obtain ⟨-,-,-,m3,-,-,m6,-,-,-,-,-⟩:=bo (S.I.box (X31,x) (by simp))
     go_cut [13] from 76 to 89 (fun s wx=>s= .bool (og now x.toaD)∧Hid (NY w' a len [(X3,q1),(X2,q),(X1,p)] [(X32,u),(X31,x)] wx))
     case first=>
      by_cases e1:2≤x.Md
      ·by_cases e2:0 < x.Mg
       ·by_cases e3:x.Mg≤now
        ·skip
         go_wp2;go_meet;exact ⟨by congr 1; simp only [og,cv]; simp; omega,S⟩
        ·skip
         go_wp2;go_meet;exact ⟨by congr 1; simp only [og,cv]; simp; omega,S⟩
       ·skip
        go_wp2;go_meet;exact ⟨by congr 1; simp only [og,cv]; simp; omega,S⟩
      ·skip
       go_wp2;go_meet;exact ⟨by congr 1; simp only [og,cv]; simp; omega,S⟩
     case rest=>
      clear S m3 m6;obtain ⟨rfl,S⟩:=hcut;cases hd:og now x.toaD
      case false=>
       as_aux_lemma=>
        have HE:Hid (x.toaD=u.toaD):=(HY.I.1 hd).symm;have Mb:=Nl x u _ HE.I HXL.I (S.I.row (X31,x) (by simp)) (S.I.row (X32,u) (by simp));unfold aX at Mb;obtain ⟨m0,m1,m2,m3,m4,m5,m6,m7,m8,Mm,m10,m11⟩:=bo (S.I.box (X31,x) (by simp));obtain ⟨n0,n1,n2,n3,n4,n5,n6,n7,n8,n9,n10,n11⟩:=bo (S.I.box (X32,u) (by simp));go_wp2_with fail;clear m0 m1 m2 m3 m4 m5 m6 m7 m8 Mm m10 m11 n0 n1 n2 n3 n4 n5 n6 n7 n8 n9 n10 n11;refine Mb.mono ?_;clear Mb;rintro e Mu ⟨rfl,hb⟩;replace S:=aA (S.I.below hb);clear hb;obtain ⟨-,-,-,m3,-,-,-,-,-,-,-,-⟩:=bo (S.I.box (X31,x) (by simp));by_cases e1:x.Md=2
        ·have e2:(x.Md == 2)=true:=by simp [e1]
         clear e1;go_wp2;go_roundw
         case rel=>exact ⟨k+1,by omega,by go_num,S.I.none⟩
         case measure=>simp [Go.RowKit.intOf]; omega
        ·have e2:(x.Md == 2)=false:=by simp [e1]
         clear e1;go_wp2;go_roundw
         case rel=>exact ⟨k+1,by omega,by go_num,S.I.none⟩
         case measure=>simp [Go.RowKit.intOf]; omega
      case true=>
       as_aux_lemma=>
        obtain ⟨f1,f2,f3,f4,f5⟩:=HY.I.2 hd;have f6:=HXL.I;have g2: ¬ 1 < u.Md:=by omega
        obtain ⟨-,-,-,m3,m4,-,-,-,-,-,-,-⟩:=bo (S.I.box (X31,x) (by simp));obtain ⟨-,-,-,n3,n4,-,-,-,-,-,n10,-⟩:=bo (S.I.box (X32,u) (by simp));by_cases e1:x.Md=2
        ·have e2:(x.Md == 2)=true:=by simp [e1]
         have g1:(u.code != 0)=false:=by rw [f1]; simp [mL,e1]
         clear f1;clear e1;by_cases e3:u.Md=1
         ·have e4:(u.Md == 1)=true:=by simp [e3]
          have e5:(u.pc != x.pc+1)=false:=by rw [f3 e3]; simp
          clear e3;go_wp2;go_roundw
          case rel=>exact ⟨k+1,by omega,by go_num,S.I.none⟩
          case measure=>simp [Go.RowKit.intOf]; omega
         ·have e4:(u.Md == 1)=false:=by simp [e3]
          clear e3;go_wp2;go_roundw
          case rel=>exact ⟨k+1,by omega,by go_num,S.I.none⟩
          case measure=>simp [Go.RowKit.intOf]; omega
        ·have e2:(x.Md == 2)=false:=by simp [e1]
         have g1:(u.code != 2)=false:=by rw [f1]; simp [mL,e1]
         clear f1;clear e1;by_cases e3:u.Md=1
         ·have e4:(u.Md == 1)=true:=by simp [e3]
          have e5:(u.pc != x.pc+1)=false:=by rw [f3 e3]; simp
          clear e3;go_wp2;go_roundw
          case rel=>exact ⟨k+1,by omega,by go_num,S.I.none⟩
          case measure=>simp [Go.RowKit.intOf]; omega
         ·have e4:(u.Md == 1)=false:=by simp [e3]
          clear e3;go_wp2;go_roundw
          case rel=>exact ⟨k+1,by omega,by go_num,S.I.none⟩
          case measure=>simp [Go.RowKit.intOf]; omega
    ·have i1: ¬ (k:Int) < (p.L8.length:Int):=by omega
     obtain ⟨-,-,m2,-⟩:=(S.I.st.ins (X1,p) (by simp)).1.cells;have Mb:=R3 q now _ (uG Mk.I (S.I.st.ins (X2,q) (by simp)).2);go_wp2_with (refine eT 5 (g:=X2) (cs:=q.cells) (S.I.st.ins (X2,q) (by simp)).1 ?_);clear m2;refine Mb.mono ?_;clear Mb;rintro e C2 ⟨b,rfl,ho,hp,hb⟩;replace S:=aA (S.I.put hb ho);have My:Hid (b.pure.Small):=by rw [hp]; exact R0
     have Pb:=aA (hp.trans HF.I.2.1);clear ho hb hp;go_upto_region 22 with (refine ec 15 130 b.cells (Kj _ _) ?_);generalize (C2.alloc (.cells ar 32)).setRow C2.heap.size b.cells=W41 at *;generalize C2.heap.size=X41 at *;have Mb:=Nn b q _ _ _ My.I (S.I.st.ins (X41,b) (by simp)).2 Mk.I (S.I.st.ins (X2,q) (by simp)).2 Pb.I;unfold af.cells at Mb;obtain ⟨m0,m1,m2,m3,m4,m5,m6,m7⟩:=(S.I.st.ins (X41,b) (by simp)).1.cells;obtain ⟨n0,n1,n2,n3,n4,n5,n6,n7⟩:=(S.I.st.ins (X2,q) (by simp)).1.cells;go_wp2_with fail;clear m0 m1 m2 m3 m4 m5 m6 m7 n0 n1 n2 n3 n4 n5 n6 n7;refine Mb.mono ?_;clear Mb;rintro e B3 ⟨rfl,hb⟩;replace S:=aA (S.I.below hb);clear hb;have Mb:=FQ q _ (uG Mk.I (S.I.st.ins (X2,q) (by simp)).2);rw [HF.I.1] at Mb;unfold af.cells at Mb;obtain ⟨m0,m1,m2,m3,m4,m5,m6,m7⟩:=(S.I.st.ins (X2,q) (by simp)).1.cells;go_wp2_with fail;clear m0 m1 m2 m3 m4 m5 m6 m7;refine Mb.mono ?_;clear Mb;rintro e Mp ⟨rfl,hb⟩;replace S:=aA (S.I.below hb);clear hb;go_wp2;go_ret;exact ⟨al (by simp),S.I.st.low⟩
end
end Go.Proofs.YtkbcplnlehdjfaaGreat
