/- What the proof leans on, part 45. -/
import Derived.Test.YtkbcplnlehdjfaaGreatOwnP44
set_option maxRecDepth 100000
set_option maxHeartbeats 8000000
open Bool renaming and_eq_true->J7
open Go renaming heap_alloc2_new->Kq,heap_alloc_new->Kj,setRow_heap->KU,setRow_other->KH,wpAnyH_done->K3,wp_at_succ->Kd,wp_at_zero->Kc,wp_region_held_drew->Kr
open Go.IntKind renaming wrap_i64->K8
open Go.Proofs.Tryz renaming prog->J3,results81->Qv,underlying32->KV
open Go.RowKit.Below renaming refl->Kp
open List renaming length_map->KG,length_nil->K4,length_set->LI
open Nat renaming le_refl->Ki,zero_add->Li

namespace Go.Proofs.YtkbcplnlehdjfaaGreat
section
open Go.RowKit Go.Maps
attribute [local go_sem ↓] Kc Kd
theorem GN (r:Nat) (a:Option Addr) (len cap:Nat) (w:World) (hl:len≤1048576) (h:Rd r a len cap w):
  Calls J3 81 #[.pointer (some ⟨r,0,none⟩)] w fun e w'=> ∃ (q:af) (now:Int),e= .returned (.tuple #[.agg q.cells,.int .i64 now])∧(0≤now∧now≤26)∧ap w' w.heap.size q∧q.pure.Small∧q.next≤1000∧gG r w w'∧Rd r a len cap w':=by
 have h5:=(Kp w.heap.size w).alloc (Ki _) (.cells ar 32);have S:Hid (Rd r a len cap w∧Rd r a len cap (w.alloc (.cells ar 32))∧gG r w (w.alloc (.cells ar 32))∧(w.alloc (.cells ar 32)).heap[w.heap.size]? =some (.cells ar 32 (0,0))∧(w.alloc (.cells ar 32)).heap.size=w.heap.size+1):=⟨h,h.below h5,gG.dI h5,Kj _ _,by simp⟩
 clear h h5
 go_enter Tryz.func81,Tryz.ntmps81
 go_upto_region 1 with fail;generalize w.alloc (.cells ar 32)=A at *;go_wp2_with fail;refine (FL r a len cap 1 A hl rfl S.I.2.1).mono ?_;rintro e A2 ⟨q,rfl,ho,hs,hn,hb,hr⟩;have HD:Hid (Dw 4 r a len cap w A2.heap.size q ((A2.alloc (.cells ar 32)).setRow A2.heap.size q.cells)):=by
  have hz:=S.I.2.2.2.2;have hrl:=S.I.1.lt;exact Dw.first hr S.I.1 (S.I.2.2.1.trans hb) (ho.lower (by omega)) hs ⟨by decide,hn⟩ ((hb.block _ (by omega) (by omega)).trans S.I.2.2.2.1)
 clear ho hs hn hb hr S;go_upto_region 2 with (refine ec 4 8 q.cells (Kj _ _) ?_);generalize (A2.alloc (.cells ar 32)).setRow A2.heap.size q.cells=B at *;generalize A2.heap.size=X at *;go_wp2_with fail;refine (dh r a len cap 14 _ hl (by omega) (by omega) HD.I.rd).mono ?_;rintro e B1 ⟨u,ua,ub,rfl,hb1,hr1⟩;replace HD:=aA (HD.I.drawn hb1 hr1);clear hb1 hr1;go_wp2_with fail
 go_loopw [5,6] (fun n i wr=> ∃ (k now:Int) (q:af),i= .int .i64 k∧n= .int .i64 now∧0≤k∧k≤13∧0≤now∧now+2 * k≤26∧Hid (Dw (4+13 * (13 - k)) r a len cap w X q wr)) (fun _ i _=>(Go.RowKit.intOf i).toNat)
 case atStart=>exact ⟨u,0,q,rfl,rfl,ua,by omega,by omega,by omega,aA (HD.I.up (by omega))⟩
 case round=>
  clear HD;obtain ⟨qo,qP⟩: ∃ qo:af,qo=q:=⟨_,rfl⟩
  subst qP;obtain ⟨k,now,q,rfl,rfl,k0,k1,n0,n1,HD⟩:=hrel;by_cases hk:0 < k
  ·have Mb:=vu q now _ (dV HD.I.small) (fun x hx=>(cY HD.I.small hx).1) HD.I.own.at
   go_wp2_with (refine eT 4 HD.I.box ?_);refine Mb.mono ?_;clear Mb;rintro e W1 ⟨q2,rfl,ho,hp,hb⟩;have HB:=aA ((HD.I.reads hb).box);replace HD:=aA (HD.I.put hb ho (by rw [hp]; exact za) (Sk hp HD.I.low));clear hb ho hp;go_upto_region 7 with (refine ec 4 19 q2.cells HB.I ?_);generalize W1.setRow X q2.cells=W2 at *;clear HB;have e3:IntKind.wrap .i64 (k - 1)=k - 1:=by rw [K8]; omega
   go_wp2_with fail;refine (dh r a len cap 2 _ hl (by omega) (by omega) HD.I.rd).mono ?_;rintro e W3 ⟨v,va,vb,rfl,hb1,hr1⟩;replace HD:=aA (HD.I.drawn hb1 hr1);clear hb1 hr1;have e4:IntKind.wrap .i64 (1+v)=1+v:=by rw [K8]; omega
   have e5:IntKind.wrap .i64 (now+(1+v))=now+(1+v):=by rw [K8]; omega
   go_wp2_with fail;go_roundw
   case rel=>exact ⟨k - 1,now+(1+v),q2,rfl,rfl,by omega,by omega,by omega,by omega,aA (HD.I.up (by omega))⟩
   case measure=>simp [Go.RowKit.intOf]; omega
  go_wp2_with fail;refine (dh r a len cap 40 _ hl (by omega) (by omega) HD.I.rd).mono ?_;rintro e W3 ⟨v,va,vb,rfl,hb1,hr1⟩;replace HD:=aA (HD.I.drawn hb1 hr1);clear hb1 hr1;by_cases h38:v=38
  ·have e1:(v == 38)=true:=by simp [h38]
   clear h38;rcases hps:q.L8 with _ | ⟨x,xs⟩
   ·have il:(q.L8.length:Int)=0:=by rw [hps]; rfl
    have m2:=HD.I.box.cells.2.2.1;rw [hps] at m2;simp only [K4] at m2;clear il hps;go_wp2_with (first | (refine eT 4 HD.I.box ?_) | (refine ec 2 52 q.cells HD.I.mK ?_));refine mG Qv (.int .i64 now) HD.I.mK ?_;exact ⟨q,now,rfl,⟨n0,by omega⟩,(HD.I.up (by omega)).fin⟩
   have hx:q.L8[0]? =some x:=by rw [hps]; rfl
   have il:0 < q.L8.length:=by rw [hps]; simp
   have il2:(0:Int) < (q.L8.length:Int):=by omega
   have il3: ¬ q.L8.length=0:=by omega
   have HX:Hid (q.L8[0]? =some x):=hx;clear hps hx;obtain ⟨gs,ha,-⟩:=cn HD.I.own.at.1 HX.I;have m2:=HD.I.box.cells.2.2.1;rw [ha] at m2;have HA:Hid (q.aN=some ⟨gs,0,none⟩):=ha;clear ha;go_upto_region 11 with fail;clear m2;replace HD:=aA (HD.I.reads (Kp _ _).drew);refine Kr (S:=fun w'=>av w' X q) (by kernel_rfl) HD.I.box (fun hHeld=> ?_);generalize World.drew _=V at *;refine tt 0 hHeld ?_ (hy:=fun w0 hS0=>by have q0:=hS0.cells.2.2.1; rw [HA.I] at q0; go_simp; try with_reducible rfl);refine tt 1 hHeld ?_ (hy:=fun w0 hS0=>by have q0:=hS0.cells.2.2.1; rw [HA.I] at q0; go_simp; try with_reducible rfl);refine tt 2 hHeld ?_ (hy:=fun w0 hS0=>by have q0:=hS0.cells.2.2.1; rw [HA.I] at q0; go_simp; try with_reducible rfl);clear hHeld;refine L7 3 (fun K hK=> ?_);go_wp2_with fail;refine (Gk r a len cap 0 3 _ hl (by omega) (by omega) (by omega) HD.I.rd).mono ?_;rintro e V2 ⟨z,rfl,hzw,hb1,hr1⟩;replace HD:=aA (HD.I.drawn hb1 hr1);have HZ:Hid ((Lit.int .i64 z).wf=true):=hzw;clear hb1 hr1 hzw;refine hK.out _ _ HD.I.box (fun hHeld=> ?_);clear hK K
   try simp only [pt,sb,s0,s1]
   refine tt 4 hHeld ?_ (hy:=fun w0 hS0=>by have q0:=hS0.cells.2.2.1; rw [HA.I] at q0; go_simp; try with_reducible rfl);refine tt 5 hHeld ?_ (hy:=fun w0 hS0=>by have q0:=hS0.cells.2.2.1; rw [HA.I] at q0; go_simp; try with_reducible rfl);clear hHeld;obtain ⟨s1,⟨u9,c⟩,f⟩:=HD.I.cell (n:=0) (j:=11) (v:= .int .i64 z) (y:= { x with RU:=z }) HX.I HA.I ⟨rfl,rfl,rfl⟩ (by decide) rfl (Ao HD.I.small HX.I HZ.I);simp only [Nat.zero_mul,Li] at s1 c f;have HS:=aA s1;clear s1;refine L7 6 (fun K hK=> ?_);go_wp2_with fail;refine hK.out _ _ (by have h5:=HS.I.box; unfold av at h5 ⊢; simpa only [LI] using h5) (fun hHeld=> ?_);clear hK K;refine K3 (by kernel_rfl) ?_ _;clear c f u9 HD hHeld;have HD:=HS;clear HS;obtain ⟨q9,hq9⟩: ∃ q9:af,q9= { q with L8:=q.L8.set 0 { x with RU:=z } } :=⟨_,rfl⟩
   rw [← hq9] at HD;clear hq9;go_upto_region 15 with fail;generalize V2.setCell ⟨gs,11,none⟩ (.int .i64 z)=V3 at *;go_wp2_with (first | (refine eT 4 HD.I.box ?_) | (refine ec 2 52 q9.cells HD.I.mK ?_));refine mG Qv (.int .i64 now) HD.I.mK ?_;exact ⟨q9,now,rfl,⟨n0,by omega⟩,(HD.I.up (by omega)).fin⟩
  have e1:(v == 38)=false:=by simp [h38]
  clear h38;by_cases h39:v=39
  ·have e2:(v == 39)=true:=by simp [h39]
   clear h39;rcases hps:q.L8 with _ | ⟨x,xs⟩
   ·have il:(q.L8.length:Int)=0:=by rw [hps]; rfl
    have m2:=HD.I.box.cells.2.2.1;rw [hps] at m2;simp only [K4] at m2;clear il hps;go_wp2_with (first | (refine eT 4 HD.I.box ?_) | (refine ec 2 52 q.cells HD.I.mK ?_));refine mG Qv (.int .i64 now) HD.I.mK ?_;exact ⟨q,now,rfl,⟨n0,by omega⟩,(HD.I.up (by omega)).fin⟩
   have hx:q.L8[0]? =some x:=by rw [hps]; rfl
   have il:0 < q.L8.length:=by rw [hps]; simp
   have il2:(0:Int) < (q.L8.length:Int):=by omega
   have il3: ¬ q.L8.length=0:=by omega
   have HX:Hid (q.L8[0]? =some x):=hx;clear hps hx;obtain ⟨gs,ha,-⟩:=cn HD.I.own.at.1 HX.I;have m2:=HD.I.box.cells.2.2.1;rw [ha] at m2;have HA:Hid (q.aN=some ⟨gs,0,none⟩):=ha;clear ha;go_upto_region 14 with fail;clear m2;replace HD:=aA (HD.I.reads (Kp _ _).drew);refine Kr (S:=fun w'=>av w' X q) (by kernel_rfl) HD.I.box (fun hHeld=> ?_);generalize World.drew _=V at *;refine tt 0 hHeld ?_ (hy:=fun w0 hS0=>by have q0:=hS0.cells.2.2.1; rw [HA.I] at q0; go_simp; try with_reducible rfl);refine tt 1 hHeld ?_ (hy:=fun w0 hS0=>by have q0:=hS0.cells.2.2.1; rw [HA.I] at q0; go_simp; try with_reducible rfl);refine tt 2 hHeld ?_ (hy:=fun w0 hS0=>by have q0:=hS0.cells.2.2.1; rw [HA.I] at q0; go_simp; try with_reducible rfl);clear hHeld;refine L7 3 (fun K hK=> ?_);go_wp2_with fail;refine (Gk r a len cap 0 7 _ hl (by omega) (by omega) (by omega) HD.I.rd).mono ?_;rintro e V2 ⟨z,rfl,hzw,hb1,hr1⟩;replace HD:=aA (HD.I.drawn hb1 hr1);have HZ:Hid ((Lit.int .i64 z).wf=true):=hzw;clear hb1 hr1 hzw;refine hK.out _ _ HD.I.box (fun hHeld=> ?_);clear hK K
   try simp only [pt,sb,s0,s1]
   refine tt 4 hHeld ?_ (hy:=fun w0 hS0=>by have q0:=hS0.cells.2.2.1; rw [HA.I] at q0; go_simp; try with_reducible rfl);refine tt 5 hHeld ?_ (hy:=fun w0 hS0=>by have q0:=hS0.cells.2.2.1; rw [HA.I] at q0; go_simp; try with_reducible rfl);clear hHeld;obtain ⟨s1,⟨u9,c⟩,f⟩:=HD.I.cell (n:=0) (j:=3) (v:= .int .i64 z) (y:= { x with Md:=z }) HX.I HA.I ⟨rfl,rfl,rfl⟩ (by decide) rfl (Ax HD.I.small HX.I);simp only [Nat.zero_mul,Li] at s1 c f;have HS:=aA s1;clear s1;refine L7 6 (fun K hK=> ?_);go_wp2_with fail;refine hK.out _ _ (by have h5:=HS.I.box; unfold av at h5 ⊢; simpa only [LI] using h5) (fun hHeld=> ?_);clear hK K;refine K3 (by kernel_rfl) ?_ _;clear c f u9 HD hHeld;have HD:=HS;clear HS;obtain ⟨q9,hq9⟩: ∃ q9:af,q9= { q with L8:=q.L8.set 0 { x with Md:=z } } :=⟨_,rfl⟩
   rw [← hq9] at HD;clear hq9;go_upto_region 15 with fail;generalize V2.setCell ⟨gs,3,none⟩ (.int .i64 z)=V3 at *;go_wp2_with (first | (refine eT 4 HD.I.box ?_) | (refine ec 2 52 q9.cells HD.I.mK ?_));refine mG Qv (.int .i64 now) HD.I.mK ?_;exact ⟨q9,now,rfl,⟨n0,by omega⟩,(HD.I.up (by omega)).fin⟩
  have e2:(v == 39)=false:=by simp [h39]
  clear h39;go_wp2_with (first | (refine eT 4 HD.I.box ?_) | (refine ec 2 52 q.cells HD.I.mK ?_));refine mG Qv (.int .i64 now) HD.I.mK ?_;exact ⟨q,now,rfl,⟨n0,by omega⟩,(HD.I.up (by omega)).fin⟩
structure th (A:World) (a:Option Addr) (len cap X:Nat) (q:af) (W:World):Prop where
 rd:Rd A.heap.size a len cap W
 low:Below A.heap.size A W
 own:ap W (A.heap.size+1) q
 small:q.pure.Small
 box:av W X q
 hx:A.heap.size < X
section
variable {len cap X:Nat} {a:Option Addr} {A A1 W W2:World} {q:af}
theorem th.drawn (h:th A a len cap X q W) (hb:gG A.heap.size W W2) (hr:Rd A.heap.size a len cap W2):th A a len cap X q W2:=by
 have hx:=h.hx;exact ⟨hr,h.low.trans (hb.below (Ki _) h.low.size),h.own.same fun g hg=>hb.block g (h.own.lt g hg).2 (by have:=(h.own.lt g hg).1; omega),h.small,(hb.block _ (av.lt h.box) (by omega)).trans h.box,hx⟩
theorem th.reads (h:th A a len cap X q W) (hb:Below W.heap.size W W2):th A a len cap X q W2:=h.drawn (gG.dI hb) (h.rd.below hb)
theorem th.first (h1:Below A.heap.size A A1) (hr1:Rd A.heap.size a len cap A1) (hb:gG A.heap.size A1 W) (ho:ap W A1.heap.size q) (hs:q.pure.Small) (hr:Rd A.heap.size a len cap W):th A a len cap W.heap.size q ((W.alloc (.cells ar 32)).setRow W.heap.size q.cells):=by
 have hz:Below W.heap.size W ((W.alloc (.cells ar 32)).setRow W.heap.size q.cells):=below_setRow ((Kp _ _).alloc (Ki _) _) (Ki _) _;have h2:=hr1.lt;have h3:=h1.size;have h4:=hb.size;exact ⟨hr.below hz,h1.trans ((hb.below (Ki _) h3).trans (hz.mono (by omega))),(ho.lower (by omega)).below hz,hs,KU _ _ _ _ _ _ (Kj _ _),by omega⟩
end
end
section
open Go.RowKit Go.Maps
structure JR (w0:World) (a:Option Addr) (len:Nat) (L:List (Nat × af)) (B:List (Nat × Array Value × TypeId)) (W:World):Prop where
 ins: ∀ x∈L,o8 W x.1 w0.heap.size x.2
 box: ∀ x∈B,oc x.2.1 x.2.2 x.1 W
 low:Below w0.heap.size w0 W
 bytes:Bytes W a len
section
variable {w0 W A:World} {a:Option Addr} {len:Nat} {L:List (Nat × af)} {B:List (Nat × Array Value × TypeId)} {q:af}
theorem JR.below (h:JR w0 a len L B W) (hb:Below W.heap.size W A):JR w0 a len L B A:=
 ⟨fun x hx=>(h.ins x hx).below hb,fun x hx=>(h.box x hx).below hb,h.low.trans (hb.mono h.low.size),h.bytes.below hb⟩
theorem JR.add (h:JR w0 a len L B A) {X:Nat} (hp:o8 A X w0.heap.size q):JR w0 a len ((X,q) :: L) B A:=
 ⟨fun x hx=>(List.mem_cons.1 hx).elim (fun e=>by rw [e]; exact hp) (h.ins x),h.box,h.low,h.bytes⟩
theorem JR.put (h:JR w0 a len L B W) (hb:Below W.heap.size W A) (ho:ap A W.heap.size q):JR w0 a len ((A.heap.size,q) :: L) B ((A.alloc (.cells ar 32)).setRow A.heap.size q.cells):=by
 have hz:Below A.heap.size A ((A.alloc (.cells ar 32)).setRow A.heap.size q.cells):=below_setRow ((Kp _ _).alloc (Ki _) _) (Ki _) _;exact ((h.below hb).below hz).add ⟨KU _ _ _ _ _ _ (Kj _ _),(ho.lower h.low.size).below hz⟩
end
theorem JE {p p':aE} {R:Option aE} (h:R=cB p p') (hs:R.isSome=true):bK p=true∧bK p'=true∧R=some p':=by
 cases hc:(bK p && bK p') with
 | false=>rw [h,jh hc] at hs; exact absurd hs (by decide)
 | true=>exact ⟨((J7 _ _).mp hc).1,((J7 _ _).mp hc).2,h.trans (jS hc)⟩
end
section
open Go.RowKit Go.Maps
attribute [local go_sem ↓] Kc Kd
theorem SV {P:Program} {fn:Func} {p u v x:Tmp} {ty:TypeId} (h:fn.results= #[.cell p ty,.tmp u,.tmp v,.tmp x]) (tmps:Array Value) (w:World) (g:Nat) (t:TypeId) (cs:Array Value) (fr:Nat × Nat) (d:TypeDesc)
  (hp:tmps.getD p undef= .pointer (some ⟨g,0,none⟩)) (hg:w.heap[g]? =some (.cells cs t fr)) (hu:P.underlying ty=some d) (hd:(match d with | .struct _ | .array _ _=>true | _=>false)=true) (hi:(P.info? ty).map (·.size)=some cs.size):
  (results fn tmps).run P w= .ok (.tuple #[.agg cs,tmps.getD u undef,tmps.getD v undef,tmps.getD x undef]) w:=by
 have hp':tmps[p]?.getD undef= .pointer (some ⟨g,0,none⟩):=by simpa using hp
 simp [results,h,hp',asAddr,run_loadVar_row w g t ty cs fr d hg hu hd hi]
theorem SQ (a:Option Addr) (len cap:Nat) (w:World) (hl:len≤1048576) (hb:Bytes w a len):
  Calls J3 21 #[.slice a len cap] w fun e w'=> ∃ n:Int,e= .returned (.int .i64 n)∧Below w.heap.size w w':=by
 go_enter Tryz.func21,Tryz.ntmps21
 go_wp2_with fail;refine (Gj a len cap w hb).mono ?_;rintro e A1 ⟨rfl,hb1,hr1,-⟩;have HB:=aA hb1;have Mb:=Gk w.heap.size a len cap 1 6 A1 hl (by omega) (by omega) (by omega) hr1;clear hb1 hr1 hb;go_wp2_with fail;refine Mb.mono ?_;rintro e A2 ⟨v,rfl,-,hb1,-⟩;have HC:=aA hb1;clear Mb hb1;go_wp2;go_ret;exact ⟨v,rfl,HB.I.trans (HC.I.below (Ki _) HB.I.size)⟩
theorem SM (a:Option Addr) (len cap:Nat) (w:World) (hl:len≤1048576) (hb:Bytes w a len):
  Calls J3 26 #[.slice a len cap] w fun e w'=> ∃ (q:af) (id RX:Int) (g c:Nat) (os:List dN),e= .returned (.tuple #[.agg q.cells,.int .i64 id,.int .i64 RX,.slice (some ⟨g,0,none⟩) os.length c])∧(Lit.int .i64 id).wf=true∧(os.length≤1048576∧ ∀ o∈os,o.2.2.2.size≤1048576)∧Row w' (some ⟨g,0,none⟩) (fk.flat os)∧ap w' w.heap.size q∧q.pure.Small∧Below w.heap.size w w':=by
 have h5:Below w.heap.size w (w.alloc (.cells ar 32)):=(Kp w.heap.size w).alloc (Ki _) _;have S:Hid (Below w.heap.size w (w.alloc (.cells ar 32))∧(w.alloc (.cells ar 32)).heap[w.heap.size]? =some (.cells ar 32 (0,0))∧(w.alloc (.cells ar 32)).heap.size=w.heap.size+1∧Bytes (w.alloc (.cells ar 32)) a len):=⟨h5,(Kj _ _),by simp,hb.below h5⟩
 clear hb h5
 go_enter Tryz.func26,Tryz.ntmps26
 go_upto_region 1 with fail;generalize w.alloc (.cells ar 32)=A at *;go_wp2_with fail;refine (Gj a len cap A S.I.2.2.2).mono ?_;rintro e A1 ⟨rfl,hb1,hr1,-⟩;have Mb:=GN A.heap.size a len cap A1 hl hr1;go_wp2_with fail;refine Mb.mono ?_;clear Mb;rintro e A2 ⟨q,now,rfl,-,ho,hs,-,hb2,hr2⟩;have HD:=aA (th.first hb1 hr1 hb2 ho hs hr2);clear hb1 hr1 hb2 ho hs hr2;go_upto_region 3 with (refine ec 7 14 q.cells (Kj _ _) ?_);generalize (A2.alloc (.cells ar 32)).setRow A2.heap.size q.cells=B at *;generalize A2.heap.size=X at *;replace HD:=aA (HD.I.reads (Kp _ _).drew);refine Kr (S:=fun W=>av W X q) (by kernel_rfl) HD.I.box (fun _=> ?_);generalize World.drew _=V at *;refine tkr 0 (v:= .agg q.cells) rfl (Ib (by rfl) 32 _ rfl X (by rfl) 32 _ _ (fun _ h=>h) KV rfl (by kernel_rfl)) HD.I.box ?_; simp only [pt,sb,s0,s1];refine tt 1 HD.I.box ?_;refine tt 4 HD.I.box ?_;refine tt 6 HD.I.box ?_;refine L7 2 (fun K hK=> ?_);go_wp2_with fail;refine (dh A.heap.size a len cap 6 _ hl (by omega) (by omega) HD.I.rd).mono ?_;rintro e W1 ⟨u,ua,ub,rfl,hb1,hr1⟩;replace HD:=aA (HD.I.drawn hb1 hr1);clear hb1 hr1;refine hK.out _ _ HD.I.box (fun _=> ?_);clear hK K
 try simp only [pt,sb,s0,s1]
 refine tt 3 HD.I.box ?_;refine L7 5 (fun K hK=> ?_);go_wp2_with fail;refine (Gk A.heap.size a len cap 1 50 _ hl (by omega) (by omega) (by omega) HD.I.rd).mono ?_;rintro e W2 ⟨v,rfl,va,hb1,hr1⟩;replace HD:=aA (HD.I.drawn hb1 hr1);clear hb1 hr1;refine hK.out _ _ HD.I.box (fun _=> ?_);clear hK K
 try simp only [pt,sb,s0,s1]
 refine L7 7 (fun K hK=> ?_);go_wp2_with fail;refine (uz A.heap.size a len cap _ hl HD.I.rd).mono ?_;rintro e W3 ⟨g,c,os,rfl,hn,hu⟩;have HU:=aA hu;have HN:=aA hn;replace HD:=aA (HD.I.drawn hu.but hu.rd);clear hu hn;refine hK.out _ _ HD.I.box (fun _=> ?_);clear hK K
 try simp only [pt,sb,s0,s1]
 have n0:=S.I.2.2.1;have hx:=HD.I.hx;have ha:=(HD.I.low.block _ (by omega)).trans S.I.2.1;refine L7 8 (fun K hK=> ?_);refine wp_store_row 32 (.tmp 2) (.tmp 16) rfl w.heap.size q.cells rfl rfl _ _ ha (by kernel_rfl) rfl (by kernel_rfl) ?_;have b1:=(KH W3 w.heap.size X q.cells (by omega)).trans HD.I.box;refine hK.out _ _ b1 (fun _=> ?_);clear hK K;refine tk 9 (v:= ?_) ?_ b1 ?_; rotate_left; (intro w0 hS0; go_simp; try with_reducible rfl); simp only [pt];refine tk 10 (v:= ?_) ?_ b1 ?_; rotate_left; (intro w0 hS0; go_simp; try with_reducible rfl); simp only [pt];refine tk 11 (v:= ?_) ?_ b1 ?_; rotate_left; (intro w0 hS0; go_simp; try with_reducible rfl); simp only [pt];refine K3 (by kernel_rfl) ?_ _;go_wp2_with fail;refine bodyPost_ret (v:= .tuple #[.agg q.cells,.int .i64 (IntKind.wrap .i64 (1+u)),.int .i64 v,.slice (some ⟨g,0,none⟩) os.length c]) (SV Tryz.results26 _ _ w.heap.size _ _ (0,0) _ rfl (KU _ _ _ _ _ _ ha) KV rfl (by kernel_rfl)) rfl ?_;have hg:w.heap.size < g:=by have h1:=HU.I.form.1; have h2:=HU.I.st.lt; omega
 exact ⟨q,IntKind.wrap .i64 (1+u),v,g,c,os,rfl,(show (Lit.int .i64 (IntKind.wrap .i64 (1+u))).wf=true from by rw [K8]; exact pT (by omega) (by omega)),⟨by have:=HN.I; omega,fun o ho=>by have:=HU.I.sz o ho; omega⟩,(by rw [← vP]; exact nP (aL HU.I.own fun k hk=>KH _ _ _ _ (by have hk2:k=g:=(by simpa [blk] using hk); omega))),(HD.I.own.lower (by omega)).same fun g hg=>KH _ _ _ _ (by have:=(HD.I.own.lt g hg).1; omega),HD.I.small,below_setRow (S.I.1.trans (HD.I.low.mono S.I.1.size)) (Ki _) _⟩
theorem Nn (p q:af) (w:World) (bp bq:Nat) (hsp:p.pure.Small) (hop:ap w bp p) (Pv:q.pure.Small) (hoq:ap w bq q) (h:p.pure=q.pure):
  Calls J3 29 #[.agg p.cells,.agg q.cells] w fun e w'=>e= .returned (.bool true)∧Below w.heap.size w w':=by
 have e0:(p.id == q.id)=true:=by have:=congrArg aE.id h; simpa [af.pure] using this
 have e1:(p.next == q.next)=true:=by have:=congrArg aE.next h; simpa [af.pure] using this
 have e2:((p.L8.length:Int) == (q.L8.length:Int))=true:=by have:=congrArg (fun x:aE=>x.L8.length) h; simp only [af.pure,KG] at this; simp [this]
 have hz:Below w.heap.size w ((w.alloc (.cells p.cells 32)).alloc (.cells q.cells 32)):=((Kp _ _).alloc (Ki _) _).alloc (by simp) _;have S:Hid (o8 ((w.alloc (.cells p.cells 32)).alloc (.cells q.cells 32)) w.heap.size bp p∧o8 ((w.alloc (.cells p.cells 32)).alloc (.cells q.cells 32)) (w.heap.size+1) bq q∧Below w.heap.size w ((w.alloc (.cells p.cells 32)).alloc (.cells q.cells 32))):=⟨⟨(((Kp _ _).alloc (Ki _) _).block _ (by simp)).trans (Kj _ _),hop.below hz⟩,⟨Kq _ _ _,hoq.below hz⟩,hz⟩
 have HS:Hid (p.pure.Small∧q.pure.Small∧p.pure=q.pure):=⟨hsp,Pv,h⟩
 clear hsp hop Pv hoq h hz
 go_enter Tryz.func29,Tryz.ntmps29
 go_upto_region 1 with fail;generalize (w.alloc (.cells p.cells 32)).alloc (.cells q.cells 32)=A at *;generalize hX:w.heap.size+1=X at *;clear hX;have NR:Hid (∀ W W2:World,Hid (o8 W w.heap.size bp p∧o8 W X bq q∧Below w.heap.size w W)→Below W.heap.size W W2→Hid (o8 W2 w.heap.size bp p∧o8 W2 X bq q∧Below w.heap.size w W2)):=fun W W2 h hb=>⟨h.I.1.below hb,h.I.2.1.below hb,h.I.2.2.trans (hb.mono h.I.2.2.size)⟩
 refine aT (fun W=>Hid (o8 W w.heap.size bp p∧o8 W X bq q∧Below w.heap.size w W)) (by kernel_rfl) (NR.I _ _ S (Kp _ _).drew) ?_
 iterate 23 (refine PI ?_ (hy:=fun w0 hS0=>by obtain ⟨m0,m1,m2,m3,m4,m5,m6,m7⟩:=hS0.I.1.1.cells; obtain ⟨n0,n1,n2,n3,n4,n5,n6,n7⟩:=hS0.I.2.1.1.cells; go_simp; try with_reducible rfl))
 refine Sc (NF p.pure) 88 #[.agg p.row] (fun w0 h0=>(MS p w0 (dV HS.I.1) (fun x hx=>(cY HS.I.1 hx).1) h0.I.1.2.at).mono fun e w1 h=>⟨h.1,NR.I _ _ h0 h.2⟩) ?_;refine PI ?_ (hy:=fun w0 hS0=>by obtain ⟨m0,m1,m2,m3,m4,m5,m6,m7⟩:=hS0.I.1.1.cells; obtain ⟨n0,n1,n2,n3,n4,n5,n6,n7⟩:=hS0.I.2.1.1.cells; go_simp; try with_reducible rfl);refine Sc (NF p.pure) 88 #[.agg q.row] (fun w0 h0=>(MS q w0 (dV HS.I.2.1) (fun x hx=>(cY HS.I.2.1 hx).1) h0.I.2.1.2.at).mono fun e w1 h=>⟨by rw [HS.I.2.2]; exact h.1,NR.I _ _ h0 h.2⟩) ?_;generalize NF p.pure=T at *
 iterate 3 (refine PI ?_ (hy:=fun w0 hS0=>by obtain ⟨m0,m1,m2,m3,m4,m5,m6,m7⟩:=hS0.I.1.1.cells; obtain ⟨n0,n1,n2,n3,n4,n5,n6,n7⟩:=hS0.I.2.1.1.cells; go_simp; try with_reducible rfl))
 refine bk (by kernel_rfl) (fun A2 hS2=> ?_) _;clear S NR;go_wp2;go_ret;exact ⟨al (by simp),hS2.I.2.2⟩
theorem N1 (a b:Option Addr) (os:List dN) (ca cb:Nat) (w:World) (hl:os.length≤1048576) (ha:Row w a (fk.flat os)) (hb:Row w b (fk.flat os)):
  Calls J3 32 #[.slice a os.length ca,.slice b os.length cb] w fun e w'=>e= .returned (.bool true)∧Below w.heap.size w w':=by
 have HR:Hid (Row w a (fk.flat os)∧Row w b (fk.flat os)):=⟨ha,hb⟩
 clear ha hb
 go_enter Tryz.func32,Tryz.ntmps32
 go_wp2_with fail
 go_loopw [5] (fun i wr=> ∃ k:Nat,k≤os.length∧i= .int .i64 k∧Below w.heap.size w wr) (fun i _=>os.length - (Go.RowKit.intOf i).toNat)
 case atStart=>exact ⟨0,Nat.zero_le _,rfl,Kp _ _⟩
 case round=>
  obtain ⟨k,hk,rfl,kj⟩:=hrel;by_cases hlt:k < os.length
  ·obtain ⟨⟨K,N,M,S⟩,hx⟩: ∃ x,os[k]? =some x:=⟨_,List.getElem?_eq_getElem hlt⟩
   obtain ⟨g,rfl,c0,c1,c2,c3⟩:=Jm (HR.I.1.below kj) hx;obtain ⟨g',rfl,d0,d1,d2,d3⟩:=Jm (HR.I.2.below kj) hx;clear HR hx;have i0:(0:Int)≤(k:Int):=by omega
   have i1:(k:Int) < (os.length:Int):=by omega
   go_wp2_with fail
   go_quiet (fail)
   go_wp2;go_roundw
   case rel=>exact ⟨k+1,by omega,by go_num,kj.os,kj.tape,kj.output,kj.size,kj.block⟩
   case measure=>simp [Go.RowKit.intOf]; omega
  ·have i1: ¬ (k:Int) < (os.length:Int):=by omega
   go_wp2;go_ret;exact ⟨rfl,kj⟩
theorem Nl (x y:ao) (w:World) (h:x.toaD=y.toaD) (hl:x.prog.length≤1048576) (hx:Row w x.aY (fk.flat x.prog)) (hy:Row w y.aY (fk.flat y.prog)):
  Calls J3 31 #[.agg (aX x),.agg (aX y)] w fun e w'=>e= .returned (.bool true)∧Below w.heap.size w w':=by
 obtain ⟨y0,ya,yc⟩:=y;obtain ⟨x0,xa,xc⟩:=x;cases h;have hz:Below w.heap.size w ((w.alloc (.cells #[.int .i64 y0.id,.int .i64 y0.RX,.slice xa y0.prog.length xc,.int .i64 y0.Md,.int .i64 y0.pc,.int .i64 y0.left,.int .i64 y0.Mg,.int .i64 y0.on,.string y0.held,.string y0.got,.int .i64 y0.code,.int .i64 y0.RU] 43)).alloc (.cells #[.int .i64 y0.id,.int .i64 y0.RX,.slice ya y0.prog.length yc,.int .i64 y0.Md,.int .i64 y0.pc,.int .i64 y0.left,.int .i64 y0.Mg,.int .i64 y0.on,.string y0.held,.string y0.got,.int .i64 y0.code,.int .i64 y0.RU] 43)):=((Kp _ _).alloc (Ki _) _).alloc (by simp) _;have S:Hid (((w.alloc (.cells #[.int .i64 y0.id,.int .i64 y0.RX,.slice xa y0.prog.length xc,.int .i64 y0.Md,.int .i64 y0.pc,.int .i64 y0.left,.int .i64 y0.Mg,.int .i64 y0.on,.string y0.held,.string y0.got,.int .i64 y0.code,.int .i64 y0.RU] 43)).alloc (.cells #[.int .i64 y0.id,.int .i64 y0.RX,.slice ya y0.prog.length yc,.int .i64 y0.Md,.int .i64 y0.pc,.int .i64 y0.left,.int .i64 y0.Mg,.int .i64 y0.on,.string y0.held,.string y0.got,.int .i64 y0.code,.int .i64 y0.RU] 43)).heap[w.heap.size]? =some (.cells (aX ⟨y0,xa,xc⟩) 43 (0,0))∧((w.alloc (.cells #[.int .i64 y0.id,.int .i64 y0.RX,.slice xa y0.prog.length xc,.int .i64 y0.Md,.int .i64 y0.pc,.int .i64 y0.left,.int .i64 y0.Mg,.int .i64 y0.on,.string y0.held,.string y0.got,.int .i64 y0.code,.int .i64 y0.RU] 43)).alloc (.cells #[.int .i64 y0.id,.int .i64 y0.RX,.slice ya y0.prog.length yc,.int .i64 y0.Md,.int .i64 y0.pc,.int .i64 y0.left,.int .i64 y0.Mg,.int .i64 y0.on,.string y0.held,.string y0.got,.int .i64 y0.code,.int .i64 y0.RU] 43)).heap[w.heap.size+1]? =some (.cells (aX ⟨y0,ya,yc⟩) 43 (0,0))∧Below w.heap.size w ((w.alloc (.cells #[.int .i64 y0.id,.int .i64 y0.RX,.slice xa y0.prog.length xc,.int .i64 y0.Md,.int .i64 y0.pc,.int .i64 y0.left,.int .i64 y0.Mg,.int .i64 y0.on,.string y0.held,.string y0.got,.int .i64 y0.code,.int .i64 y0.RU] 43)).alloc (.cells #[.int .i64 y0.id,.int .i64 y0.RX,.slice ya y0.prog.length yc,.int .i64 y0.Md,.int .i64 y0.pc,.int .i64 y0.left,.int .i64 y0.Mg,.int .i64 y0.on,.string y0.held,.string y0.got,.int .i64 y0.code,.int .i64 y0.RU] 43))∧Row ((w.alloc (.cells #[.int .i64 y0.id,.int .i64 y0.RX,.slice xa y0.prog.length xc,.int .i64 y0.Md,.int .i64 y0.pc,.int .i64 y0.left,.int .i64 y0.Mg,.int .i64 y0.on,.string y0.held,.string y0.got,.int .i64 y0.code,.int .i64 y0.RU] 43)).alloc (.cells #[.int .i64 y0.id,.int .i64 y0.RX,.slice ya y0.prog.length yc,.int .i64 y0.Md,.int .i64 y0.pc,.int .i64 y0.left,.int .i64 y0.Mg,.int .i64 y0.on,.string y0.held,.string y0.got,.int .i64 y0.code,.int .i64 y0.RU] 43)) xa (fk.flat y0.prog)∧Row ((w.alloc (.cells #[.int .i64 y0.id,.int .i64 y0.RX,.slice xa y0.prog.length xc,.int .i64 y0.Md,.int .i64 y0.pc,.int .i64 y0.left,.int .i64 y0.Mg,.int .i64 y0.on,.string y0.held,.string y0.got,.int .i64 y0.code,.int .i64 y0.RU] 43)).alloc (.cells #[.int .i64 y0.id,.int .i64 y0.RX,.slice ya y0.prog.length yc,.int .i64 y0.Md,.int .i64 y0.pc,.int .i64 y0.left,.int .i64 y0.Mg,.int .i64 y0.on,.string y0.held,.string y0.got,.int .i64 y0.code,.int .i64 y0.RU] 43)) ya (fk.flat y0.prog)∧y0.prog.length≤1048576):=⟨(((Kp _ _).alloc (Ki _) _).block _ (by simp)).trans (Kj _ _),Kq _ _ _,hz,hx.below hz,hy.below hz,hl⟩
 clear hz hx hy hl;unfold aX
 go_enter Tryz.func31,Tryz.ntmps31
 go_upto_region 1 with fail;generalize (w.alloc (.cells #[.int .i64 y0.id,.int .i64 y0.RX,.slice xa y0.prog.length xc,.int .i64 y0.Md,.int .i64 y0.pc,.int .i64 y0.left,.int .i64 y0.Mg,.int .i64 y0.on,.string y0.held,.string y0.got,.int .i64 y0.code,.int .i64 y0.RU] 43)).alloc (.cells #[.int .i64 y0.id,.int .i64 y0.RX,.slice ya y0.prog.length yc,.int .i64 y0.Md,.int .i64 y0.pc,.int .i64 y0.left,.int .i64 y0.Mg,.int .i64 y0.on,.string y0.held,.string y0.got,.int .i64 y0.code,.int .i64 y0.RU] 43)=A at *;generalize hX:w.heap.size+1=X at *;clear hX;have Mb:=N1 xa ya y0.prog xc yc A S.I.2.2.2.2.2 S.I.2.2.2.1 S.I.2.2.2.2.1;obtain ⟨m0,m1,m2,m3,m4,m5,m6,m7,m8,Mm,m10,m11⟩:=bo S.I.1;obtain ⟨n0,n1,n2,n3,n4,n5,n6,n7,n8,n9,n10,n11⟩:=bo S.I.2.1;go_wp2_with fail;clear m0 m1 m2 m3 m4 m5 m6 m7 m8 Mm m10 m11 n0 n1 n2 n3 n4 n5 n6 n7 n8 n9 n10 n11;refine Mb.mono ?_;clear Mb;rintro e A2 ⟨rfl,hb⟩;have HB:Hid (Below w.heap.size w A2):=S.I.2.2.1.trans (hb.mono S.I.2.2.1.size);clear hb S;go_wp2;go_ret;exact ⟨al (by simp),HB.I⟩
abbrev SS (id nx:Int):af:=⟨id,nx,[],none,0,[],none,0,[],none,0,[],none,0,[],none,0,[],none,0⟩
def newR (n:Int):Option aE:=if cv n 1 6 then some (SS n 1).pure else none
theorem SU (id nx:Int):(SS id nx).pure.Small:=
 ⟨hY.dl,hY.fx,hY.cD,hY.cC,hY.cb,hY.dH,hY.L8,hY.aj,hY.L9,hY.ag,hY.ae,hY.ai⟩
theorem SZ (n:Int):bK (SS n 1).pure=cv n 1 6:=by
 cases h:cv n 1 6 with
 | true=>
  have e:cv (SS n 1).pure.id 1 6=true:=h;unfold bK;rw [e];rfl
 | false=>
  have e:cv (SS n 1).pure.id 1 6=false:=h;unfold bK;rw [e];rfl
theorem SY (n:Int):((newR n).getD cN).Small:=by
 unfold newR
 split
 ·exact SU n 1
 ·exact hY
theorem SX {w w':World} {n:Int} {e:Ending} (he:e= .returned (.tuple #[if cv n 1 6=true then mn n 1 else mn 0 0,.bool (cv n 1 6)])) (hb:Below w.heap.size w w'):gI w (newR n) e w':=by
 subst he;cases h:cv n 1 6 with
 | true=>exact ⟨SS n 1,by simp only [newR,h]; rfl,(Ai _ _).S6 n 1,by simp only [newR,h]; rfl,hb⟩
 | false=>exact ⟨SS 0 0,by simp only [newR,h]; rfl,Ai _ _,by simp only [newR,h]; rfl,hb⟩
theorem SR (n:Int) (w:World):Calls J3 22 #[.int .i64 n] w fun e w'=>gI w (newR n) e w':=by
 have Mb:=fun W=>FQ (SS n 1) W (uG (SU n 1) ((Ai W 0).S6 n 1))
 rw [SZ] at Mb
 go_enter Tryz.func22,Tryz.ntmps22
 go_wp2_with fail;refine (Mb _).mono ?_;clear Mb;rintro e w2 ⟨rfl,hb2⟩;simp only [World.size_alloc] at hb2;have HR:Hid (w2.heap[w.heap.size]? =some (.cells ar 32 (0,0))):=(hb2.block _ (by omega)).trans ((PU (by simp)).trans (Kj _ _));have HP:Hid (w2.heap[w.heap.size+1]? =some (.cells (SS n 1).cells 32 (0,0))):=(hb2.block _ (by omega)).trans (Kq _ _ _);have HB:Hid (Below w.heap.size w w2):=(((Kp _ w).alloc (Ki _) _).alloc (by simp) _).trans (hb2.mono (by omega));clear hb2;cases hin:cv n 1 6 with
 | true=>
  go_wp2_with (first | (refine eT 4 HP.I ?_) | (refine ec 2 11 (SS n 1).cells HR.I ?_));refine mG Tryz.results22 (.bool true) HR.I ?_;exact SX (by rw [hin]; rfl) (below_setRow HB.I (Ki _) _)
 | false=>
  go_wp2_with (refine ec 2 10 ar HR.I ?_);refine mG Tryz.results22 (.bool false) HR.I ?_;exact SX (by rw [hin]; rfl) (below_setRow HB.I (Ki _) _)
theorem SO (n:Int) (w:World):Calls J3 23 #[.int .i64 n] w fun e w'=>gI w (newR n) e w':=(tJ n w).mono fun _ _ h=>SX h.1 h.2
theorem S0 {n:Int} {q:af} (h:q.pure=(newR n).getD cN) (hs:(newR n).isSome=true):bK q.pure=true∧q.L8.length=0∧da q.pure=0:=by
 unfold newR at h hs
 split at hs
 ·rename_i hi
  rw [if_pos hi] at h;have h:q.pure=(SS n 1).pure:=h;have hl:=congrArg (fun x:aE=>x.L8.length) h;simp only [af.pure,KG,List.map_nil,K4] at hl;refine ⟨by rw [h,SZ]; exact hi,hl,?_⟩;rw [h,da,SZ,if_pos hi];rfl
 ·cases hs
theorem S7 {p q:af} {id RX:Int} {l:List dN} {R:Option aE} (h:R=cB p.pure { p.pure with L8:=bY (·.id) (newP id RX l) p.pure.L8 }) (hq:q.pure=R.getD cN) (hs:R.isSome=true):
  bK q.pure=true∧q.L8.length=p.L8.length+1∧ew q.pure id=some (newP id RX l)∧ ∀ y∈p.L8,ew q.pure y.id=some y.toaD:=by
 obtain ⟨-,h2,h3⟩:=JE h hs;have hq:q.pure= { p.pure with L8:=bY (·.id) (newP id RX l) p.pure.L8 } :=by rw [hq,h3]; rfl
 have hl:=congrArg (fun x:aE=>x.L8.length) hq;simp only [er,af.pure,KG] at hl;have hr:bK q.pure=true:=hq ▸ h2;have hf: ∀ y∈q.pure.L8,ew q.pure y.id=some y:=fun y hy=>by
  rw [ew,if_pos hr];cases hc:q.pure.L8.find? (fun x=>decide (x.id=y.id)) with
  | none=>exact absurd (by simp) (List.find?_eq_none.1 hc y hy)
  | some v=>exact congrArg some (only ((ch _).1 hr).L8 (num:=fun x:aD=>x.id) (show cg (·.id) y.id q.pure.L8=some v from hc) hy rfl).symm
 refine ⟨hr,hl,hf (newP id RX l) (by rw [hq]; exact fq.2 (.inl rfl)),fun y hy=>hf y.toaD ?_⟩;rw [hq];exact fq.2 (.inr (List.mem_map.2 ⟨y,hy,rfl⟩))
end
end Go.Proofs.YtkbcplnlehdjfaaGreat
