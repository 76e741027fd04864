/- What the proof leans on, part 44: DwPart, DwCh, DlChosen. -/
import Derived.Test.YtkbcplnlehdjfaaGreatOwnCh1
import Derived.Test.YtkbcplnlehdjfaaGreatOwnCh19
import Derived.Test.YtkbcplnlehdjfaaGreatOwnCh20
import Derived.Test.YtkbcplnlehdjfaaGreatOwnCh27
import Derived.Test.YtkbcplnlehdjfaaGreatOwnCh43
import Derived.Laws.Rows
import Derived.Deep.Cut
set_option maxRecDepth 100000
set_option maxHeartbeats 8000000

namespace Go.Proofs.YtkbcplnlehdjfaaGreat
open Go.RowKit Go.Maps
attribute [local go_sem ↓] Go.wp_at_zero Go.wp_at_succ
theorem part_any(r:Nat)(a:Option Addr)(len cap:Nat)(w:World)(hl:len≤1048576)(h:Rd r a len cap w):
  Calls Tryz.prog 81 #[.pointer(some⟨r,0,none⟩)] w fun e w'=> ∃ (q:PartD)(now:Int),e= .returned(.tuple #[.agg q.cells,.int .i64 now])∧(0≤now∧now≤26)∧PartOwn w' w.heap.size q∧q.pure.Small∧But r w w'∧Rd r a len cap w':=by
 have h5:=(Below.refl w.heap.size w).alloc(Nat.le_refl _)(.cells zero8 32)
 have S:Hid(Rd r a len cap w∧Rd r a len cap(w.alloc(.cells zero8 32))∧But r w(w.alloc(.cells zero8 32))∧(w.alloc(.cells zero8 32)).heap[w.heap.size]? =some(.cells zero8 32(0,0))∧(w.alloc(.cells zero8 32)).heap.size=w.heap.size+1):=⟨h,h.below h5,But.of_below h5,heap_alloc_new _ _,by simp⟩
 clear h h5
 go_enter Tryz.func81,Tryz.ntmps81
 go_upto_region 1 with fail
 generalize w.alloc(.cells zero8 32)=A at *
 go_wp2_with fail
 refine(bare_any r a len cap 1 A hl rfl S.out.2.1).mono ?_
 rintro e A2⟨q,rfl,ho,hs,hb,hr⟩
 have HD:Hid(Dw r a len cap w A2.heap.size q((A2.alloc(.cells zero8 32)).setRow A2.heap.size q.cells)):=by
  have hz:=S.out.2.2.2.2
  have hrl:=S.out.1.lt
  exact Dw.first hr S.out.1(S.out.2.2.1.trans hb)(ho.lower(by omega))hs((hb.block _(by omega)(by omega)).trans S.out.2.2.2.1)
 clear ho hs hb hr S
 go_upto_region 2 with (refine stP 4 8 _ q.cells(heap_alloc_new _ _) ?_)
 generalize (A2.alloc(.cells zero8 32)).setRow A2.heap.size q.cells=B at *
 generalize A2.heap.size=X at *
 go_wp2_with fail
 refine(below_any r a len cap 14 _ hl(by omega)(by omega)HD.out.rd).mono ?_
 rintro e B1⟨u,ua,ub,rfl,hb1,hr1⟩
 replace HD:=hided(HD.out.drawn hb1 hr1)
 clear hb1 hr1
 go_wp2_with fail
 go_loopw [5,6] (fun n i wr=> ∃ (k now:Int)(q:PartD),i= .int .i64 k∧n= .int .i64 now∧0≤k∧k≤13∧0≤now∧now+2 * k≤26∧Hid(Dw r a len cap w X q wr))(fun _ i _=>(Go.RowKit.intOf i).toNat)
 case atStart=>exact⟨u,0,q,rfl,rfl,ua,by omega,by omega,by omega,HD⟩
 case round=>
  clear HD
  obtain⟨qo,hqo⟩: ∃ qo:PartD,qo=q:=⟨_,rfl⟩
  subst hqo
  obtain⟨k,now,q,rfl,rfl,k0,k1,n0,n1,HD⟩:=hrel
  by_cases hk:0 < k
  ·have hcall:=specTicked_any q now _(small_fit HD.out.small)(fun x hx=>(small_proc HD.out.small hx).1)HD.out.own.at
   go_wp2_with (refine ldP 4 X q.cells HD.out.box ?_)
   refine hcall.mono ?_
   clear hcall
   rintro e W1⟨q2,rfl,ho,hp,hb⟩
   have HB:=hided((HD.out.reads hb).box)
   replace HD:=hided(HD.out.put hb ho(by rw [hp]; exact ticked_small))
   clear hb ho hp
   go_upto_region 7 with (refine stP 4 19(X)q2.cells HB.out ?_)
   generalize W1.setRow X q2.cells=W2 at *
   clear HB
   have e3:IntKind.wrap .i64(k - 1)=k - 1:=by rw [IntKind.wrap_i64]; omega
   go_wp2_with fail
   refine(below_any r a len cap 2 _ hl(by omega)(by omega)HD.out.rd).mono ?_
   rintro e W3⟨v,va,vb,rfl,hb1,hr1⟩
   replace HD:=hided(HD.out.drawn hb1 hr1)
   clear hb1 hr1
   have e4:IntKind.wrap .i64(1+v)=1+v:=by rw [IntKind.wrap_i64]; omega
   have e5:IntKind.wrap .i64(now+(1+v))=now+(1+v):=by rw [IntKind.wrap_i64]; omega
   go_wp2_with fail
   go_roundw
   case rel=>exact⟨k - 1,now+(1+v),q2,rfl,rfl,by omega,by omega,by omega,by omega,HD⟩
   case measure=>simp [Go.RowKit.intOf]; omega
  go_wp2_with fail
  refine(below_any r a len cap 40 _ hl(by omega)(by omega)HD.out.rd).mono ?_
  rintro e W3⟨v,va,vb,rfl,hb1,hr1⟩
  replace HD:=hided(HD.out.drawn hb1 hr1)
  clear hb1 hr1
  by_cases h38:v=38
  ·have e1:(v == 38)=true:=by simp [h38]
   clear h38
   rcases hps:q.procs with _ | ⟨x,xs⟩
   ·have il:(q.procs.length:Int)=0:=by rw [hps]; rfl
    have m2:=HD.out.box.cells.2.2.1
    rw [hps] at m2
    simp only [List.length_nil] at m2
    clear il hps
    go_wp2_with (first | (refine ldP 4 X q.cells HD.out.box ?_) | (refine stP 2 52(w.heap.size)q.cells HD.out.ans ?_))
    refine rtQ Tryz.results81(w.heap.size)q.cells(.int .i64 now)HD.out.ans ?_
    have hx:=HD.out.hx
    have hl:=HD.out.st.lt
    refine⟨q,now,rfl,⟨n0,by omega⟩,(HD.out.own.lower(by omega)).same fun g hg=>setRow_other _ _ _ _(by have:=(HD.out.own.lt g hg).1; omega),HD.out.small,HD.out.but.setRow(Nat.le_refl _)_,⟨?_,HD.out.st.2.but(HD.out.but.setRow(Nat.le_refl _)_)⟩⟩
    obtain⟨p,hp,hc⟩:=HD.out.rd.1
    exact⟨p,hp,(setRow_other _ _ _ _(by omega)).trans hc⟩
   have hx:q.procs[0]? =some x:=by rw [hps]; rfl
   have il:0 < q.procs.length:=by rw [hps]; simp
   have il2:(0:Int) < (q.procs.length:Int):=by omega
   have il3: ¬ q.procs.length=0:=by omega
   have HX:Hid(q.procs[0]? =some x):=hx
   clear hps hx
   obtain⟨gs,ha,-⟩:=proc_at HD.out.own.at.1 HX.out
   have m2:=HD.out.box.cells.2.2.1
   rw [ha] at m2
   have HA:Hid(q.procA=some⟨gs,0,none⟩):=ha
   clear ha
   go_upto_region 11 with fail
   clear m2
   replace HD:=hided(HD.out.reads(Below.refl _ _).drew)
   refine wp_region_held_drew(S:=fun w'=>PartBox w' X q)(by kernel_rfl)HD.out.box(fun hHeld=> ?_)
   generalize World.drew _=V at *
   refine tk 0(v:= ?_) ?_ hHeld ?_; rotate_left; (intro w0 hS0; have q0:=hS0.cells.2.2.1; rw [HA.out] at q0; go_simp; try with_reducible rfl); simp only [pt,sb,s0,s1]
   refine tk 1(v:= ?_) ?_ hHeld ?_; rotate_left; (intro w0 hS0; have q0:=hS0.cells.2.2.1; rw [HA.out] at q0; go_simp; try with_reducible rfl); simp only [pt,sb,s0,s1]
   refine tk 2(v:= ?_) ?_ hHeld ?_; rotate_left; (intro w0 hS0; have q0:=hS0.cells.2.2.1; rw [HA.out] at q0; go_simp; try with_reducible rfl); simp only [pt,sb,s0,s1]
   clear hHeld
   refine wpAnyH_ready(rs:= [3])(by kernel_rfl)(by simp) ?_
   refine AllReadyH.cons rfl(fun K hK=> ?_)AllReadyH.nil
   simp only [List.getElem_toArray,List.getElem_cons_zero,List.getElem_cons_succ]
   rw [if_pos(by rfl)]
   go_wp2_with fail
   refine(off_wf r a len cap 0 3 _ hl(by omega)(by omega)(by omega)HD.out.rd).mono ?_
   rintro e V2⟨z,rfl,hzw,hb1,hr1⟩
   replace HD:=hided(HD.out.drawn hb1 hr1)
   have HZ:Hid((Lit.int .i64 z).wf=true):=hzw
   clear hb1 hr1 hzw
   refine hK.out _ _ HD.out.box(fun hHeld=> ?_)
   clear hK K
   try simp only [pt,sb,s0,s1]
   refine tk 4(v:= ?_) ?_ hHeld ?_; rotate_left; (intro w0 hS0; have q0:=hS0.cells.2.2.1; rw [HA.out] at q0; go_simp; try with_reducible rfl); simp only [pt,sb,s0,s1]
   refine tk 5(v:= ?_) ?_ hHeld ?_; rotate_left; (intro w0 hS0; have q0:=hS0.cells.2.2.1; rw [HA.out] at q0; go_simp; try with_reducible rfl); simp only [pt,sb,s0,s1]
   clear hHeld
   obtain⟨s1,⟨u9,c⟩,f⟩:=HD.out.cell(n:=0)(j:=11)(v:= .int .i64 z)(y:= { x with since:=z })HX.out HA.out⟨rfl,rfl,rfl⟩(by decide)rfl(since_small HD.out.small HX.out HZ.out)
   simp only [Nat.zero_mul,Nat.zero_add] at s1 c f
   have HS:=hided s1
   clear s1
   refine wpAnyH_ready(rs:= [6])(by kernel_rfl)(by simp) ?_
   refine AllReadyH.cons rfl(fun K hK=> ?_)AllReadyH.nil
   simp only [List.getElem_toArray,List.getElem_cons_zero,List.getElem_cons_succ]
   rw [if_pos(by rfl)]
   go_wp2_with fail
   refine hK.out _ _(by have h5:=HS.out.box; unfold PartBox at h5 ⊢; simpa only [List.length_set] using h5)(fun hHeld=> ?_)
   clear hK K
   refine wpAnyH_done(by kernel_rfl) ?_ _
   clear c f u9 HD hHeld
   have HD:=HS
   clear HS
   obtain⟨q9,hq9⟩: ∃ q9:PartD,q9= { q with procs:=q.procs.set 0 { x with since:=z } } :=⟨_,rfl⟩
   rw [← hq9] at HD
   clear hq9
   go_upto_region 15 with fail
   generalize V2.setCell⟨gs,11,none⟩(.int .i64 z)=V3 at *
   go_wp2_with (first | (refine ldP 4 X q9.cells HD.out.box ?_) | (refine stP 2 52(w.heap.size)q9.cells HD.out.ans ?_))
   refine rtQ Tryz.results81(w.heap.size)q9.cells(.int .i64 now)HD.out.ans ?_
   have hx:=HD.out.hx
   have hl:=HD.out.st.lt
   refine⟨q9,now,rfl,⟨n0,by omega⟩,(HD.out.own.lower(by omega)).same fun g hg=>setRow_other _ _ _ _(by have:=(HD.out.own.lt g hg).1; omega),HD.out.small,HD.out.but.setRow(Nat.le_refl _)_,⟨?_,HD.out.st.2.but(HD.out.but.setRow(Nat.le_refl _)_)⟩⟩
   obtain⟨p,hp,hc⟩:=HD.out.rd.1
   exact⟨p,hp,(setRow_other _ _ _ _(by omega)).trans hc⟩
  have e1:(v == 38)=false:=by simp [h38]
  clear h38
  by_cases h39:v=39
  ·have e2:(v == 39)=true:=by simp [h39]
   clear h39
   rcases hps:q.procs with _ | ⟨x,xs⟩
   ·have il:(q.procs.length:Int)=0:=by rw [hps]; rfl
    have m2:=HD.out.box.cells.2.2.1
    rw [hps] at m2
    simp only [List.length_nil] at m2
    clear il hps
    go_wp2_with (first | (refine ldP 4 X q.cells HD.out.box ?_) | (refine stP 2 52(w.heap.size)q.cells HD.out.ans ?_))
    refine rtQ Tryz.results81(w.heap.size)q.cells(.int .i64 now)HD.out.ans ?_
    have hx:=HD.out.hx
    have hl:=HD.out.st.lt
    refine⟨q,now,rfl,⟨n0,by omega⟩,(HD.out.own.lower(by omega)).same fun g hg=>setRow_other _ _ _ _(by have:=(HD.out.own.lt g hg).1; omega),HD.out.small,HD.out.but.setRow(Nat.le_refl _)_,⟨?_,HD.out.st.2.but(HD.out.but.setRow(Nat.le_refl _)_)⟩⟩
    obtain⟨p,hp,hc⟩:=HD.out.rd.1
    exact⟨p,hp,(setRow_other _ _ _ _(by omega)).trans hc⟩
   have hx:q.procs[0]? =some x:=by rw [hps]; rfl
   have il:0 < q.procs.length:=by rw [hps]; simp
   have il2:(0:Int) < (q.procs.length:Int):=by omega
   have il3: ¬ q.procs.length=0:=by omega
   have HX:Hid(q.procs[0]? =some x):=hx
   clear hps hx
   obtain⟨gs,ha,-⟩:=proc_at HD.out.own.at.1 HX.out
   have m2:=HD.out.box.cells.2.2.1
   rw [ha] at m2
   have HA:Hid(q.procA=some⟨gs,0,none⟩):=ha
   clear ha
   go_upto_region 14 with fail
   clear m2
   replace HD:=hided(HD.out.reads(Below.refl _ _).drew)
   refine wp_region_held_drew(S:=fun w'=>PartBox w' X q)(by kernel_rfl)HD.out.box(fun hHeld=> ?_)
   generalize World.drew _=V at *
   refine tk 0(v:= ?_) ?_ hHeld ?_; rotate_left; (intro w0 hS0; have q0:=hS0.cells.2.2.1; rw [HA.out] at q0; go_simp; try with_reducible rfl); simp only [pt,sb,s0,s1]
   refine tk 1(v:= ?_) ?_ hHeld ?_; rotate_left; (intro w0 hS0; have q0:=hS0.cells.2.2.1; rw [HA.out] at q0; go_simp; try with_reducible rfl); simp only [pt,sb,s0,s1]
   refine tk 2(v:= ?_) ?_ hHeld ?_; rotate_left; (intro w0 hS0; have q0:=hS0.cells.2.2.1; rw [HA.out] at q0; go_simp; try with_reducible rfl); simp only [pt,sb,s0,s1]
   clear hHeld
   refine wpAnyH_ready(rs:= [3])(by kernel_rfl)(by simp) ?_
   refine AllReadyH.cons rfl(fun K hK=> ?_)AllReadyH.nil
   simp only [List.getElem_toArray,List.getElem_cons_zero,List.getElem_cons_succ]
   rw [if_pos(by rfl)]
   go_wp2_with fail
   refine(off_wf r a len cap 0 7 _ hl(by omega)(by omega)(by omega)HD.out.rd).mono ?_
   rintro e V2⟨z,rfl,hzw,hb1,hr1⟩
   replace HD:=hided(HD.out.drawn hb1 hr1)
   have HZ:Hid((Lit.int .i64 z).wf=true):=hzw
   clear hb1 hr1 hzw
   refine hK.out _ _ HD.out.box(fun hHeld=> ?_)
   clear hK K
   try simp only [pt,sb,s0,s1]
   refine tk 4(v:= ?_) ?_ hHeld ?_; rotate_left; (intro w0 hS0; have q0:=hS0.cells.2.2.1; rw [HA.out] at q0; go_simp; try with_reducible rfl); simp only [pt,sb,s0,s1]
   refine tk 5(v:= ?_) ?_ hHeld ?_; rotate_left; (intro w0 hS0; have q0:=hS0.cells.2.2.1; rw [HA.out] at q0; go_simp; try with_reducible rfl); simp only [pt,sb,s0,s1]
   clear hHeld
   obtain⟨s1,⟨u9,c⟩,f⟩:=HD.out.cell(n:=0)(j:=3)(v:= .int .i64 z)(y:= { x with state:=z })HX.out HA.out⟨rfl,rfl,rfl⟩(by decide)rfl(state_small HD.out.small HX.out)
   simp only [Nat.zero_mul,Nat.zero_add] at s1 c f
   have HS:=hided s1
   clear s1
   refine wpAnyH_ready(rs:= [6])(by kernel_rfl)(by simp) ?_
   refine AllReadyH.cons rfl(fun K hK=> ?_)AllReadyH.nil
   simp only [List.getElem_toArray,List.getElem_cons_zero,List.getElem_cons_succ]
   rw [if_pos(by rfl)]
   go_wp2_with fail
   refine hK.out _ _(by have h5:=HS.out.box; unfold PartBox at h5 ⊢; simpa only [List.length_set] using h5)(fun hHeld=> ?_)
   clear hK K
   refine wpAnyH_done(by kernel_rfl) ?_ _
   clear c f u9 HD hHeld
   have HD:=HS
   clear HS
   obtain⟨q9,hq9⟩: ∃ q9:PartD,q9= { q with procs:=q.procs.set 0 { x with state:=z } } :=⟨_,rfl⟩
   rw [← hq9] at HD
   clear hq9
   go_upto_region 15 with fail
   generalize V2.setCell⟨gs,3,none⟩(.int .i64 z)=V3 at *
   go_wp2_with (first | (refine ldP 4 X q9.cells HD.out.box ?_) | (refine stP 2 52(w.heap.size)q9.cells HD.out.ans ?_))
   refine rtQ Tryz.results81(w.heap.size)q9.cells(.int .i64 now)HD.out.ans ?_
   have hx:=HD.out.hx
   have hl:=HD.out.st.lt
   refine⟨q9,now,rfl,⟨n0,by omega⟩,(HD.out.own.lower(by omega)).same fun g hg=>setRow_other _ _ _ _(by have:=(HD.out.own.lt g hg).1; omega),HD.out.small,HD.out.but.setRow(Nat.le_refl _)_,⟨?_,HD.out.st.2.but(HD.out.but.setRow(Nat.le_refl _)_)⟩⟩
   obtain⟨p,hp,hc⟩:=HD.out.rd.1
   exact⟨p,hp,(setRow_other _ _ _ _(by omega)).trans hc⟩
  have e2:(v == 39)=false:=by simp [h39]
  clear h39
  go_wp2_with (first | (refine ldP 4 X q.cells HD.out.box ?_) | (refine stP 2 52(w.heap.size)q.cells HD.out.ans ?_))
  refine rtQ Tryz.results81(w.heap.size)q.cells(.int .i64 now)HD.out.ans ?_
  have hx:=HD.out.hx
  have hl:=HD.out.st.lt
  refine⟨q,now,rfl,⟨n0,by omega⟩,(HD.out.own.lower(by omega)).same fun g hg=>setRow_other _ _ _ _(by have:=(HD.out.own.lt g hg).1; omega),HD.out.small,HD.out.but.setRow(Nat.le_refl _)_,⟨?_,HD.out.st.2.but(HD.out.but.setRow(Nat.le_refl _)_)⟩⟩
  obtain⟨p,hp,hc⟩:=HD.out.rd.1
  exact⟨p,hp,(setRow_other _ _ _ _(by omega)).trans hc⟩
end Go.Proofs.YtkbcplnlehdjfaaGreat

namespace Go.Proofs.YtkbcplnlehdjfaaGreat
open Go.RowKit Go.Maps
attribute [local go_sem ↓] Go.wp_at_zero Go.wp_at_succ
theorem drawChosen_any(a:Option Addr)(len cap:Nat)(w:World)(hl:len≤1048576)(hb:Bytes w a len):
  Calls Tryz.prog 52 #[.slice a len cap] w fun e w'=> ∃ q:PartD,e= .returned(.agg q.cells)∧PartOwn w' w.heap.size q∧q.pure.Small∧Below w.heap.size w w':=by
 have h5:=(Below.refl w.heap.size w).alloc(Nat.le_refl _)(.cells zero8 32)
 have S:Hid(Below w.heap.size w(w.alloc(.cells zero8 32))∧(w.alloc(.cells zero8 32)).heap[w.heap.size]? =some(.cells zero8 32(0,0))∧(w.alloc(.cells zero8 32)).heap.size=w.heap.size+1∧Bytes(w.alloc(.cells zero8 32))a len):=⟨h5,heap_alloc_new _ _,by simp,hb.below h5⟩
 clear hb h5
 go_enter Tryz.func52,Tryz.ntmps52
 go_upto_region 1 with fail
 generalize w.alloc(.cells zero8 32)=A at *
 go_wp2_with fail
 refine(open_any a len cap A S.out.2.2.2).mono ?_
 rintro e A1⟨rfl,hb1,hr1,-⟩
 have hrl:=hr1.lt
 have hcall:=part_any A.heap.size a len cap A1 hl hr1
 replace S:Hid(Below w.heap.size w A1∧A1.heap[w.heap.size]? =some(.cells zero8 32(0,0))∧A.heap.size=w.heap.size+1∧A.heap.size < A1.heap.size):=⟨S.out.1.trans(hb1.mono S.out.1.size),(hb1.block _(by have:=S.out.2.2.1; omega)).trans S.out.2.1,S.out.2.2.1,hrl⟩
 clear hb1 hr1 hrl
 go_wp2_with fail
 refine hcall.mono ?_
 clear hcall
 rintro e A2⟨q,now,rfl,hnow,ho,hs,hb2,-⟩
 have hz:Below A2.heap.size A2((A2.alloc(.cells zero8 32)).setRow A2.heap.size q.cells):=below_setRow((Below.refl _ _).alloc(Nat.le_refl _)_)(Nat.le_refl _)_
 have HD:Hid(PartBox((A2.alloc(.cells zero8 32)).setRow A2.heap.size q.cells)A2.heap.size q∧PartOwn((A2.alloc(.cells zero8 32)).setRow A2.heap.size q.cells)(w.heap.size+1)q∧q.pure.Small∧Below w.heap.size w((A2.alloc(.cells zero8 32)).setRow A2.heap.size q.cells)∧((A2.alloc(.cells zero8 32)).setRow A2.heap.size q.cells).heap[w.heap.size]? =some(.cells zero8 32(0,0))∧w.heap.size < A2.heap.size):=by
  have h1:=S.out.2.2
  have h2:=hb2.size
  exact⟨setRow_heap _ _ _ _ _ _(heap_alloc_new _ _),(ho.lower(by omega)).below hz,hs,S.out.1.trans((hb2.below(by omega)S.out.1.size).trans(hz.mono(by omega))),(hz.block _(by omega)).trans((hb2.block _(by omega)(by omega)).trans S.out.2.1),by omega⟩
 clear hz ho hs hb2 hnow S
 go_upto_region 3 with (refine stP 4 11 _ q.cells(heap_alloc_new _ _) ?_)
 generalize (A2.alloc(.cells zero8 32)).setRow A2.heap.size q.cells=B at *
 generalize A2.heap.size=X at *
 go_wp2_with (first | (refine ldP 4 X q.cells HD.out.1 ?_) | (refine stP 2 13(w.heap.size)q.cells HD.out.2.2.2.2.1 ?_))
 refine rtP Tryz.results52(w.heap.size)q.cells HD.out.2.2.2.2.1 ?_
 exact⟨q,rfl,(HD.out.2.1.lower(by omega)).same fun g hg=>setRow_other _ _ _ _(by have:=(HD.out.2.1.lt g hg).1; omega),HD.out.2.2.1,below_setRow HD.out.2.2.2.1(Nat.le_refl _)_⟩
end Go.Proofs.YtkbcplnlehdjfaaGreat

namespace Go.Proofs.YtkbcplnlehdjfaaGreat
open Go.RowKit Go.Maps
attribute [local go_sem ↓] Go.wp_at_zero Go.wp_at_succ
theorem chosenAll_law(a:Option Addr)(len cap:Nat)(w:World)(hb:len≤1048576→Bytes w a len):
  Calls Tryz.prog 6 #[.slice a len cap] w fun e w'=>e= .returned(.bool true)∧Below w.heap.size w w':=by
 by_cases hl:1048576 < len
 ·have hd:decide(1048576 < len)=true:=by simp [hl]
  go_enter Tryz.func6,Tryz.ntmps6
  go_wp2_with (go_at_call 20; refine(big_any _ _ _ _).mono ?_; rintro e w'⟨rfl,rfl⟩; rw [hd])
  go_ret
  exact⟨rfl,by go_grown⟩
 have hd:decide(1048576 < len)=false:=by simp [hl]
 have HBY:Hid(Bytes w a len):=hb(by omega)
 clear hb
 have hl:len≤1048576:=by omega
 go_enter Tryz.func6,Tryz.ntmps6
 go_wp2_with (go_at_call 20; refine(big_any _ _ _ _).mono ?_; rintro e w'⟨rfl,rfl⟩; rw [hd])
 refine(drawChosen_any a len cap _ hl HBY.out).mono ?_
 clear hl hd HBY
 rintro e A1⟨q,rfl,ho,hs,hb1⟩
 have S:Hid(PartBox((A1.alloc(.cells zero8 32)).setRow A1.heap.size q.cells)(A1.heap.size)q∧PartOwn((A1.alloc(.cells zero8 32)).setRow A1.heap.size q.cells)w'.heap.size q∧q.pure.Small∧Below w'.heap.size w'((A1.alloc(.cells zero8 32)).setRow A1.heap.size q.cells)):=by
  have hz:Below A1.heap.size A1((A1.alloc(.cells zero8 32)).setRow A1.heap.size q.cells):=below_setRow((Below.refl _ _).alloc(Nat.le_refl _)_)(Nat.le_refl _)_
  exact⟨setRow_heap _ _ _ _ _ _(heap_alloc_new _ _),ho.below hz,hs,hb1.trans(hz.mono hb1.size)⟩
 clear ho hs hb1
 go_upto_region 4 with (refine stP 3 12 _ q.cells(heap_alloc_new _ _) ?_)
 generalize (A1.alloc(.cells zero8 32)).setRow A1.heap.size q.cells=B at *
 generalize A1.heap.size=X at *
 have hcall:=implChosen_any q B(small_good S.out.2.2.1 S.out.2.1)
 go_wp2_with (refine ldP 3 X q.cells S.out.1 ?_)
 refine hcall.mono ?_
 clear hcall
 rintro e B1⟨rfl,hb⟩
 replace S:Hid(PartBox(B1)(X)q∧PartOwn(B1)w'.heap.size q∧q.pure.Small∧Below w'.heap.size w'(B1)):=⟨S.out.1.below hb,S.out.2.1.below hb,S.out.2.2.1,S.out.2.2.2.trans(hb.mono S.out.2.2.2.size)⟩
 clear hb
 have hcall:=specChosen_any q B1(small_fit S.out.2.2.1)(fun x hx=>(small_proc S.out.2.2.1 hx).1)S.out.2.1.at
 go_wp2_with (refine ldP 3 X q.cells S.out.1 ?_)
 refine hcall.mono ?_
 clear hcall
 rintro e B2⟨rfl,hb⟩
 replace S:Hid(PartBox(B2)(X)q∧PartOwn(B2)w'.heap.size q∧q.pure.Small∧Below w'.heap.size w'(B2)):=⟨S.out.1.below hb,S.out.2.1.below hb,S.out.2.2.1,S.out.2.2.2.trans(hb.mono S.out.2.2.2.size)⟩
 clear hb
 have hne:(chosenB q.pure != chosenB q.pure)=false:=by simp
 have hcall:=specPartOk_any q B2(small_fit S.out.2.2.1)(fun x hx=>(small_proc S.out.2.2.1 hx).1)S.out.2.1.at
 unfold PartD.cells at hcall
 obtain⟨m0,m1,m2,m3,m4,m5,m6,m7⟩:=S.out.1.cells
 go_wp2_with fail
 clear m0 m1 m2 m3 m4 m5 m6 m7 hne
 refine hcall.mono ?_
 clear hcall
 rintro e B3⟨rfl,hb⟩
 replace S:Hid(PartBox(B3)(X)q∧PartOwn(B3)w'.heap.size q∧q.pure.Small∧Below w'.heap.size w'(B3)):=⟨S.out.1.below hb,S.out.2.1.below hb,S.out.2.2.1,S.out.2.2.2.trans(hb.mono S.out.2.2.2.size)⟩
 clear hb
 cases h4:partB q.pure
 ·have HZ:Hid(chosenB q.pure=0):=chosen_no h4
  clear h4
  have hcall:=specChosen_any q B3(small_fit S.out.2.2.1)(fun x hx=>(small_proc S.out.2.2.1 hx).1)S.out.2.1.at
  go_wp2_with (refine ldP 3 X q.cells S.out.1 ?_)
  refine hcall.mono ?_
  clear hcall
  rintro e B4⟨rfl,hb⟩
  replace S:Hid(PartBox(B4)(X)q∧PartOwn(B4)w'.heap.size q∧q.pure.Small∧Below w'.heap.size w'(B4)):=⟨S.out.1.below hb,S.out.2.1.below hb,S.out.2.2.1,S.out.2.2.2.trans(hb.mono S.out.2.2.2.size)⟩
  clear hb
  rw [HZ.out]
  go_wp2
  go_ret
  exact⟨ret_bool(by simp),S.out.2.2.2⟩
 have HC:=hided(chosen_is h4)
 have HWF:=hided(chosen_wf S.out.2.2.1)
 clear h4
 have hcall:=implProcOf_any q(chosenB q.pure)B3 HWF.out(small_good S.out.2.2.1 S.out.2.1)
 generalize chosenB q.pure=z at *
 go_wp2_with (refine ldP 3 X q.cells S.out.1 ?_)
 refine hcall.mono ?_
 clear hcall HWF
 rintro e B4⟨x,rfl,-,hx,hb⟩
 replace S:Hid(PartBox(B4)(X)q∧PartOwn(B4)w'.heap.size q∧q.pure.Small∧Below w'.heap.size w'(B4)):=⟨S.out.1.below hb,S.out.2.1.below hb,S.out.2.2.1,S.out.2.2.2.trans(hb.mono S.out.2.2.2.size)⟩
 clear hb
 rw [← hx] at HC
 clear hx
 generalize (procOfP q.pure z).isSome=th at *
 replace S:Hid(PartBox((B4.alloc(.cells zero12 43)).setRow B4.heap.size(procVs x))(X)q∧PartOwn((B4.alloc(.cells zero12 43)).setRow B4.heap.size(procVs x))w'.heap.size q∧q.pure.Small∧Below w'.heap.size w'((B4.alloc(.cells zero12 43)).setRow B4.heap.size(procVs x))∧((B4.alloc(.cells zero12 43)).setRow B4.heap.size(procVs x)).heap[B4.heap.size]? =some(.cells(procVs x)43(0,0))):=by
  have hz:Below B4.heap.size B4((B4.alloc(.cells zero12 43)).setRow B4.heap.size(procVs x)):=below_setRow((Below.refl _ _).alloc(Nat.le_refl _)_)(Nat.le_refl _)_
  exact⟨S.out.1.below hz,S.out.2.1.below hz,S.out.2.2.1,S.out.2.2.2.trans(hz.mono S.out.2.2.2.size),setRow_heap _ _ _ _ _ _(heap_alloc_new _ _)⟩
 go_upto_region 8 with (refine wpList_store_row rfl 43(.tmp 5)(.tmp 36)rfl _ _ _(procVs x)rfl rfl(heap_alloc_new _ _)(by kernel_rfl)rfl(by kernel_rfl) ?_)
 generalize (B4.alloc(.cells zero12 43)).setRow B4.heap.size(procVs x)=C at *
 generalize B4.heap.size=Y at *
 have HLN:Hid(q.procs.length≤1048576):=(small_short S.out.2.2.1).procs
 go_upto_region 9 with fail
 go_loopw [7] (fun i wr=> ∃ k:Nat,k≤q.procs.length∧i= .int .i64 k∧Hid(PartBox(wr)(X)q∧PartOwn(wr)w'.heap.size q∧q.pure.Small∧Below w'.heap.size w'(wr)∧(wr).heap[Y]? =some(.cells(procVs x)43(0,0))))(fun i _=>q.procs.length - (Go.RowKit.intOf i).toNat)
 case atStart=>exact⟨0,Nat.zero_le _,rfl,S⟩
 case round=>
  clear S
  obtain⟨k,hk,rfl,S⟩:=hrel
  have hlen:=HLN.out
  obtain⟨-,-,m2,-⟩:=S.out.1.cells
  obtain⟨-,c1,-,c3,-,-,-,-,-,-,-,c11⟩:=proc_cells S.out.2.2.2.2
  by_cases hlt:k < q.procs.length
  ·have i0:(0:Int)≤(k:Int):=by omega
   have i1:(k:Int) < (q.procs.length:Int):=by omega
   obtain⟨y,hy⟩: ∃ y,q.procs[k]? =some y:=⟨_,List.getElem?_eq_getElem hlt⟩
   have HY:=hided(HC.out.2.2 y.toProcP(List.mem_map.2⟨y,List.mem_of_getElem? hy,rfl⟩))
   obtain⟨gs,ha,hat⟩:=proc_at S.out.2.1.at.1 hy
   rw [ha] at m2
   obtain⟨d0,d1,d2,d3,d4,d5,d6,d7,d8,d9,d10,d11⟩:=hat
   clear hy ha
   have HN:Hid(PartBox(wr.alloc(.cells(procVs y)43))(X)q∧PartOwn(wr.alloc(.cells(procVs y)43))w'.heap.size q∧q.pure.Small∧Below w'.heap.size w'(wr.alloc(.cells(procVs y)43))∧(wr.alloc(.cells(procVs y)43)).heap[Y]? =some(.cells(procVs x)43(0,0))∧(wr.alloc(.cells(procVs y)43)).heap[wr.heap.size]? =some(.cells(procVs y)43(0,0))):=by
    have hz:Below wr.heap.size wr(wr.alloc(.cells(procVs y)43)):=(Below.refl _ _).alloc(Nat.le_refl _)_
    exact⟨S.out.1.below hz,S.out.2.1.below hz,S.out.2.2.1,S.out.2.2.2.1.trans(hz.mono S.out.2.2.2.1.size),(hz.block _(Array.getElem?_eq_some_iff.1 S.out.2.2.2.2).1).trans S.out.2.2.2.2,heap_alloc_new _ _⟩
   unfold procVs at HN
   go_upto_region 12 with fail
   generalize wr.alloc(.cells y.row 43)=W5 at *
   generalize wr.heap.size=V at *
   clear d0 d1 d2 d3 d4 d5 d6 d7 d8 d9 d10 d11 m2 c1 c3 c11 S
   obtain⟨-,c1,-,c3,-,-,-,-,-,-,-,c11⟩:=proc_cells HN.out.2.2.2.2.1
   obtain⟨-,e1,-,e3,-,-,-,-,-,-,-,e11⟩:=proc_cells HN.out.2.2.2.2.2
   by_cases hs:y.state=1
   ·obtain⟨ht,hah⟩:=HY.out hs
    subst ht
    have ds:(y.state == 1)=true:=by simp [hs]
    by_cases hp:y.prio=x.prio
    ·have dq:(y.prio == x.prio)=true:=by simp [hp]
     have dp:decide(x.prio < y.prio)=false:=decide_eq_false(by omega)
     have dr:decide(y.since < x.since)=false:=by unfold aheadB at hah; rwa [if_pos(by exact hp)] at hah
     clear hp hs hah
     go_wp2
     go_roundw
     case rel=>exact⟨k+1,by omega,by go_num,HN.out.1,HN.out.2.1,HN.out.2.2.1,HN.out.2.2.2.1,HN.out.2.2.2.2.1⟩
     case measure=>simp [Go.RowKit.intOf]; omega
    ·have dq:(y.prio == x.prio)=false:=by simp [hp]
     have dp:decide(x.prio < y.prio)=false:=by unfold aheadB at hah; rwa [if_neg(by exact hp)] at hah
     clear hp hs hah
     go_wp2
     go_roundw
     case rel=>exact⟨k+1,by omega,by go_num,HN.out.1,HN.out.2.1,HN.out.2.2.1,HN.out.2.2.2.1,HN.out.2.2.2.2.1⟩
     case measure=>simp [Go.RowKit.intOf]; omega
   ·have ds:(y.state == 1)=false:=by simp [hs]
    clear hs
    go_wp2
    go_roundw
    case rel=>exact⟨k+1,by omega,by go_num,HN.out.1,HN.out.2.1,HN.out.2.2.1,HN.out.2.2.2.1,HN.out.2.2.2.2.1⟩
    case measure=>simp [Go.RowKit.intOf]; omega
  ·have i1: ¬ (k:Int) < (q.procs.length:Int):=by omega
   have h5:=HC.out.1
   have h6:=HC.out.2.1
   cases th
   ·have dz:decide(0 < z)=false:=by simpa using h5
    clear h5 h6
    go_wp2
    go_ret
    exact⟨ret_bool(by simp),S.out.2.2.2.1⟩
   ·have dz:decide(0 < z)=true:=by simpa using h5
    have ds:(x.state == 1)=true:=by have:=h6 rfl; simpa using this
    clear h5 h6
    go_wp2
    go_ret
    exact⟨ret_bool(by simp),S.out.2.2.2.1⟩
end Go.Proofs.YtkbcplnlehdjfaaGreat
