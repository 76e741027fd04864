/- What the proof leans on, part 4: DwWith, WithPortI. -/
import Derived.Test.YtkbcplnlehdjfaaGreatOwnB2
import Derived.Test.YtkbcplnlehdjfaaGreatOwnB19
import Derived.Test.YtkbcplnlehdjfaaGreatOwnB20
import Derived.Test.YtkbcplnlehdjfaaGreatOwnB24
import Derived.Test.YtkbcplnlehdjfaaGreatOwnB25
import Derived.Test.YtkbcplnlehdjfaaGreatOwnB27
import Derived.Test.YtkbcplnlehdjfaaGreatOwnB40
import Derived.Test.YtkbcplnlehdjfaaGreatOwnTh0
import Derived.Test.YtkbcplnlehdjfaaGreatOwnTh1
import Derived.Test.YtkbcplnlehdjfaaGreatOwnTh2
import Derived.Test.YtkbcplnlehdjfaaGreatOwnTh3
import Derived.Laws.Rows
import Derived.Deep.Cut
set_option maxRecDepth 100000
set_option maxHeartbeats 8000000

namespace Go.Proofs.YtkbcplnlehdjfaaGreat
open Go.RowKit Go.Maps
attribute [local go_sem ↓] Go.wp_at_zero Go.wp_at_succ
structure th (A:World) (a:Option Addr) (len cap X:Nat) (q:af) (W:World):Prop where
 rd:Rd A.heap.size a len cap W
 low:Below A.heap.size A W
 own:ap W (A.heap.size+1) q
 small:q.pure.Small
 box:av W X q
 hx:A.heap.size < X
section
variable {len cap X:Nat} {a:Option Addr} {A A1 W W2:World} {q:af}
theorem th.drawn (h:th A a len cap X q W) (hb:gG A.heap.size W W2) (hr:Rd A.heap.size a len cap W2):th A a len cap X q W2:=by
 have hx:=h.hx
 exact ⟨hr,h.low.trans (hb.below (Nat.le_refl _) h.low.size),h.own.same fun g hg=>hb.block g (h.own.lt g hg).2 (by have:=(h.own.lt g hg).1; omega),h.small,(hb.block _ (av.lt h.box) (by omega)).trans h.box,hx⟩
theorem th.reads (h:th A a len cap X q W) (hb:Below W.heap.size W W2):th A a len cap X q W2:=h.drawn (gG.dI hb) (h.rd.below hb)
theorem th.first (h1:Below A.heap.size A A1) (hr1:Rd A.heap.size a len cap A1) (hb:gG A.heap.size A1 W) (ho:ap W A1.heap.size q) (hs:q.pure.Small) (hr:Rd A.heap.size a len cap W):th A a len cap W.heap.size q ((W.alloc (.cells ar 32)).setRow W.heap.size q.cells):=by
 have hz:Below W.heap.size W ((W.alloc (.cells ar 32)).setRow W.heap.size q.cells):=below_setRow ((Below.refl _ _).alloc (Nat.le_refl _) _) (Nat.le_refl _) _
 have h2:=hr1.lt
 have h3:=h1.size
 have h4:=hb.size
 exact ⟨hr.below hz,h1.trans ((hb.below (Nat.le_refl _) h3).trans (hz.mono (by omega))),(ho.lower (by omega)).below hz,hs,setRow_heap _ _ _ _ _ _ (heap_alloc_new _ _),by omega⟩
end
theorem JK {P:Program} {fn:Func} {p u:Tmp} {ty ty2:TypeId} (h:fn.results= #[.cell p ty,.cell u ty2]) (tmps:Array Value) (w:World) (g g2:Nat) (t t2:TypeId) (cs cs2:Array Value) (fr fr2:Nat × Nat) (d d2:TypeDesc)
  (hp:tmps.getD p undef= .pointer (some ⟨g,0,none⟩)) (hg:w.heap[g]? =some (.cells cs t fr)) (hu:P.underlying ty=some d) (hd:(match d with | .struct _ | .array _ _=>true | _=>false)=true) (hi:(P.info? ty).map (·.size)=some cs.size)
  (hp2:tmps.getD u undef= .pointer (some ⟨g2,0,none⟩)) (hg2:w.heap[g2]? =some (.cells cs2 t2 fr2)) (hu2:P.underlying ty2=some d2) (hd2:(match d2 with | .struct _ | .array _ _=>true | _=>false)=true) (hi2:(P.info? ty2).map (·.size)=some cs2.size):
  (results fn tmps).run P w= .ok (.tuple #[.agg cs,.agg cs2]) w:=by
 have hp':tmps[p]?.getD undef= .pointer (some ⟨g,0,none⟩):=by simpa using hp
 have hq':tmps[u]?.getD undef= .pointer (some ⟨g2,0,none⟩):=by simpa using hp2
 simp [results,h,hp',hq',asAddr,run_loadVar_row w g t ty cs fr d hg hu hd hi,run_loadVar_row w g2 t2 ty2 cs2 fr2 d2 hg2 hu2 hd2 hi2]
theorem JS {P:Program} {fn:Func} {p u v:Tmp} {ty:TypeId} (h:fn.results= #[.cell p ty,.tmp u,.tmp v]) (tmps:Array Value) (w:World) (g:Nat) (t:TypeId) (cs:Array Value) (fr:Nat × Nat) (d:TypeDesc)
  (hp:tmps.getD p undef= .pointer (some ⟨g,0,none⟩)) (hg:w.heap[g]? =some (.cells cs t fr)) (hu:P.underlying ty=some d) (hd:(match d with | .struct _ | .array _ _=>true | _=>false)=true) (hi:(P.info? ty).map (·.size)=some cs.size):
  (results fn tmps).run P w= .ok (.tuple #[.agg cs,tmps.getD u undef,tmps.getD v undef]) w:=by
 have hp':tmps[p]?.getD undef= .pointer (some ⟨g,0,none⟩):=by simpa using hp
 simp [results,h,hp',asAddr,run_loadVar_row w g t ty cs fr d hg hu hd hi]
theorem JO (a:Option Addr) (len cap:Nat) (w:World) (hl:len≤1048576) (hb:Bytes w a len):
  Calls Tryz.prog 33 #[.slice a len cap] w fun e w'=> ∃ (q:af) (z:bD),e= .returned (.tuple #[.agg q.cells,.agg #[.int .i64 z.id,.int .i64 z.n,.int .i64 z.max]])∧(Lit.int .i64 z.id).wf=true∧ap w' w.heap.size q∧q.pure.Small∧Below w.heap.size w w':=by
 have h5:Below w.heap.size w ((w.alloc (.cells ar 32)).alloc (.cells #[.int .i64 0,.int .i64 0,.int .i64 0] 49)):=((Below.refl w.heap.size w).alloc (Nat.le_refl _) _).alloc (by simp) _
 have S:Hid (Below w.heap.size w ((w.alloc (.cells ar 32)).alloc (.cells #[.int .i64 0,.int .i64 0,.int .i64 0] 49))∧((w.alloc (.cells ar 32)).alloc (.cells #[.int .i64 0,.int .i64 0,.int .i64 0] 49)).heap[w.heap.size]? =some (.cells ar 32 (0,0))∧((w.alloc (.cells ar 32)).alloc (.cells #[.int .i64 0,.int .i64 0,.int .i64 0] 49)).heap.size=w.heap.size+2∧Bytes ((w.alloc (.cells ar 32)).alloc (.cells #[.int .i64 0,.int .i64 0,.int .i64 0] 49)) a len∧((w.alloc (.cells ar 32)).alloc (.cells #[.int .i64 0,.int .i64 0,.int .i64 0] 49)).heap[w.heap.size+1]? =some (.cells #[.int .i64 0,.int .i64 0,.int .i64 0] 49 (0,0))):=⟨h5,(by rw [heap_alloc_old _ _ (by simp)]; exact heap_alloc_new _ _),by simp,hb.below h5,by simpa using heap_alloc_new (w.alloc (.cells ar 32)) _⟩
 clear hb h5
 go_enter Tryz.func33,Tryz.ntmps33
 go_upto_region 1 with fail
 generalize (w.alloc (.cells ar 32)).alloc (.cells #[.int .i64 0,.int .i64 0,.int .i64 0] 49)=A at *
 go_wp2_with fail
 refine (Gj a len cap A S.out.2.2.2.1).mono ?_
 rintro e A1 ⟨rfl,hb1,hr1,-⟩
 have hcall:=GN A.heap.size a len cap A1 hl hr1
 go_wp2_with fail
 refine hcall.mono ?_
 clear hcall
 rintro e A2 ⟨q,now,rfl,-,ho,hs,hb2,hr2⟩
 have HD:=aA (th.first hb1 hr1 hb2 ho hs hr2)
 clear hb1 hr1 hb2 ho hs hr2
 go_upto_region 3 with (refine wpList_store_row rfl 32 (.tmp 5) (.tmp 12) rfl _ _ _ q.cells rfl rfl (heap_alloc_new _ _) (by kernel_rfl) rfl (by kernel_rfl) ?_)
 generalize (A2.alloc (.cells ar 32)).setRow A2.heap.size q.cells=B at *
 generalize A2.heap.size=X at *
 replace HD:=aA (HD.out.reads (Below.refl _ _).drew)
 refine wp_region_held_drew (S:=fun W=>av W X q) (by kernel_rfl) HD.out.box (fun _=> ?_)
 generalize World.drew _=V at *
 refine tkr 0 (v:= .agg q.cells) rfl (Ib (by rfl) 32 _ rfl X (by rfl) 32 _ _ (fun _ h=>h) Tryz.underlying32 rfl (by kernel_rfl)) HD.out.box ?_; simp only [pt,sb,s0,s1]
 refine tk 1 (v:= ?_) ?_ HD.out.box ?_; rotate_left; (intro w0 hS0; go_simp; try with_reducible rfl); simp only [pt,sb,s0,s1]
 refine tk 4 (v:= ?_) ?_ HD.out.box ?_; rotate_left; (intro w0 hS0; go_simp; try with_reducible rfl); simp only [pt,sb,s0,s1]
 refine tk 6 (v:= ?_) ?_ HD.out.box ?_; rotate_left; (intro w0 hS0; go_simp; try with_reducible rfl); simp only [pt,sb,s0,s1]
 refine wpAnyH_ready (rs:= [2]) (by kernel_rfl) (by simp) ?_
 refine AllReadyH.cons rfl (fun K hK=> ?_) AllReadyH.nil
 simp only [List.getElem_toArray,List.getElem_cons_zero,List.getElem_cons_succ]
 rw [if_pos (by rfl)]
 go_wp2_with fail
 refine (dh A.heap.size a len cap 5 _ hl (by omega) (by omega) HD.out.rd).mono ?_
 rintro e W1 ⟨u,ua,ub,rfl,hb1,hr1⟩
 replace HD:=aA (HD.out.drawn hb1 hr1)
 clear hb1 hr1
 refine hK.out _ _ HD.out.box (fun _=> ?_)
 clear hK K
 try simp only [pt,sb,s0,s1]
 refine tk 3 (v:= ?_) ?_ HD.out.box ?_; rotate_left; (intro w0 hS0; go_simp; try with_reducible rfl); simp only [pt,sb,s0,s1]
 refine wpAnyH_ready (rs:= [5]) (by kernel_rfl) (by simp) ?_
 refine AllReadyH.cons rfl (fun K hK=> ?_) AllReadyH.nil
 simp only [List.getElem_toArray,List.getElem_cons_zero,List.getElem_cons_succ]
 rw [if_pos (by rfl)]
 go_wp2_with fail
 refine (dh A.heap.size a len cap 3 _ hl (by omega) (by omega) HD.out.rd).mono ?_
 rintro e W2 ⟨v,va,vb,rfl,hb1,hr1⟩
 replace HD:=aA (HD.out.drawn hb1 hr1)
 clear hb1 hr1
 refine hK.out _ _ HD.out.box (fun _=> ?_)
 clear hK K
 try simp only [pt,sb,s0,s1]
 refine wpAnyH_ready (rs:= [7]) (by kernel_rfl) (by simp) ?_
 refine AllReadyH.cons rfl (fun K hK=> ?_) AllReadyH.nil
 simp only [List.getElem_toArray,List.getElem_cons_zero,List.getElem_cons_succ]
 rw [if_pos (by rfl)]
 go_wp2_with fail
 refine (dh A.heap.size a len cap 3 _ hl (by omega) (by omega) HD.out.rd).mono ?_
 rintro e W3 ⟨x,xa,xb,rfl,hb1,hr1⟩
 replace HD:=aA (HD.out.drawn hb1 hr1)
 clear hb1 hr1
 refine hK.out _ _ HD.out.box (fun _=> ?_)
 clear hK K
 try simp only [pt,sb,s0,s1]
 refine tk 8 (v:= ?_) ?_ HD.out.box ?_; rotate_left; (intro w0 hS0; go_simp; try with_reducible rfl); simp only [pt,sb,s0,s1]
 refine tk 9 (v:= ?_) ?_ HD.out.box ?_; rotate_left; (intro w0 hS0; go_simp; try with_reducible rfl); simp only [pt,sb,s0,s1]
 have n0:=S.out.2.2.1
 have hx:=HD.out.hx
 have ha:=(HD.out.low.block _ (by omega)).trans S.out.2.1
 have hc:=(HD.out.low.block _ (by omega)).trans S.out.2.2.2.2
 refine wpAnyH_ready (rs:= [10]) (by kernel_rfl) (by simp) ?_
 refine AllReadyH.cons rfl (fun K hK=> ?_) AllReadyH.nil
 simp only [List.getElem_toArray,List.getElem_cons_zero,List.getElem_cons_succ]
 rw [if_pos (by rfl)]
 refine wp_store_row 32 (.tmp 2) (.tmp 14) rfl w.heap.size q.cells rfl rfl _ _ ha (by kernel_rfl) rfl (by kernel_rfl) ?_
 have b1:=(setRow_other W3 w.heap.size X q.cells (by omega)).trans HD.out.box
 refine hK.out _ _ b1 (fun _=> ?_)
 clear hK K
 refine wpAnyH_ready (rs:= [11]) (by kernel_rfl) (by simp) ?_
 refine AllReadyH.cons rfl (fun K hK=> ?_) AllReadyH.nil
 simp only [List.getElem_toArray,List.getElem_cons_zero,List.getElem_cons_succ]
 rw [if_pos (by rfl)]
 refine wp_store_row 49 (.tmp 3) (.tmp 23) rfl (w.heap.size+1) #[.int .i64 (IntKind.wrap .i64 (1+u)),.int .i64 v,.int .i64 (IntKind.wrap .i64 (1+x))] rfl rfl _ _ ((setRow_other _ _ _ _ (by omega)).trans hc) (by kernel_rfl) rfl (by kernel_rfl) ?_
 refine hK.out _ _ ((setRow_other _ _ _ _ (by omega)).trans b1) (fun _=> ?_)
 clear hK K
 refine wpAnyH_done (by kernel_rfl) ?_ _
 go_wp2_with fail
 refine bodyPost_ret (v:= .tuple #[.agg q.cells,.agg #[.int .i64 (IntKind.wrap .i64 (1+u)),.int .i64 v,.int .i64 (IntKind.wrap .i64 (1+x))]]) (JK Tryz.results33 _ _ w.heap.size (w.heap.size+1) _ _ _ _ (0,0) (0,0) _ _ rfl ((setRow_other _ _ _ _ (by omega)).trans (setRow_heap _ _ _ _ _ _ ha)) Tryz.underlying32 rfl (by kernel_rfl) rfl (setRow_heap _ _ _ _ _ _ ((setRow_other _ _ _ _ (by omega)).trans hc)) Tryz.underlying49 rfl (by kernel_rfl)) rfl ?_
 exact ⟨q,⟨IntKind.wrap .i64 (1+u),v,IntKind.wrap .i64 (1+x)⟩,rfl,(show (Lit.int .i64 (IntKind.wrap .i64 (1+u))).wf=true from by rw [IntKind.wrap_i64]; exact pT (by omega) (by omega)),(HD.out.own.lower (by omega)).same fun g hg=>(setRow_other _ _ _ _ (by have:=(HD.out.own.lt g hg).1; omega)).trans (setRow_other _ _ _ _ (by have:=(HD.out.own.lt g hg).1; omega)),HD.out.small,below_setRow (below_setRow (S.out.1.trans (HD.out.low.mono S.out.1.size)) (Nat.le_refl _) _) (by omega) _⟩
theorem JL (a:Option Addr) (len cap:Nat) (w:World) (hl:len≤1048576) (hb:Bytes w a len):
  Calls Tryz.prog 36 #[.slice a len cap] w fun e w'=> ∃ (q:af) (id:Int),e= .returned (.tuple #[.agg q.cells,.int .i64 id])∧(Lit.int .i64 id).wf=true∧ap w' w.heap.size q∧q.pure.Small∧Below w.heap.size w w':=by
 have h5:Below w.heap.size w (w.alloc (.cells ar 32)):=(Below.refl w.heap.size w).alloc (Nat.le_refl _) _
 have S:Hid (Below w.heap.size w (w.alloc (.cells ar 32))∧(w.alloc (.cells ar 32)).heap[w.heap.size]? =some (.cells ar 32 (0,0))∧(w.alloc (.cells ar 32)).heap.size=w.heap.size+1∧Bytes (w.alloc (.cells ar 32)) a len):=⟨h5,(heap_alloc_new _ _),by simp,hb.below h5⟩
 clear hb h5
 go_enter Tryz.func36,Tryz.ntmps36
 go_upto_region 1 with fail
 generalize w.alloc (.cells ar 32)=A at *
 go_wp2_with fail
 refine (Gj a len cap A S.out.2.2.2).mono ?_
 rintro e A1 ⟨rfl,hb1,hr1,-⟩
 have hcall:=GN A.heap.size a len cap A1 hl hr1
 go_wp2_with fail
 refine hcall.mono ?_
 clear hcall
 rintro e A2 ⟨q,now,rfl,-,ho,hs,hb2,hr2⟩
 have HD:=aA (th.first hb1 hr1 hb2 ho hs hr2)
 clear hb1 hr1 hb2 ho hs hr2
 go_upto_region 3 with (refine wpList_store_row rfl 32 (.tmp 5) (.tmp 12) rfl _ _ _ q.cells rfl rfl (heap_alloc_new _ _) (by kernel_rfl) rfl (by kernel_rfl) ?_)
 generalize (A2.alloc (.cells ar 32)).setRow A2.heap.size q.cells=B at *
 generalize A2.heap.size=X at *
 replace HD:=aA (HD.out.reads (Below.refl _ _).drew)
 refine wp_region_held_drew (S:=fun W=>av W X q) (by kernel_rfl) HD.out.box (fun _=> ?_)
 generalize World.drew _=V at *
 refine tkr 0 (v:= .agg q.cells) rfl (Ib (by rfl) 32 _ rfl X (by rfl) 32 _ _ (fun _ h=>h) Tryz.underlying32 rfl (by kernel_rfl)) HD.out.box ?_; simp only [pt,sb,s0,s1]
 refine tk 1 (v:= ?_) ?_ HD.out.box ?_; rotate_left; (intro w0 hS0; go_simp; try with_reducible rfl); simp only [pt,sb,s0,s1]
 refine wpAnyH_ready (rs:= [2]) (by kernel_rfl) (by simp) ?_
 refine AllReadyH.cons rfl (fun K hK=> ?_) AllReadyH.nil
 simp only [List.getElem_toArray,List.getElem_cons_zero,List.getElem_cons_succ]
 rw [if_pos (by rfl)]
 go_wp2_with fail
 refine (Gk A.heap.size a len cap 1 6 _ hl (by omega) (by omega) (by omega) HD.out.rd).mono ?_
 rintro e W1 ⟨v,rfl,va,hb1,hr1⟩
 replace HD:=aA (HD.out.drawn hb1 hr1)
 clear hb1 hr1
 refine hK.out _ _ HD.out.box (fun _=> ?_)
 clear hK K
 try simp only [pt,sb,s0,s1]
 have n0:=S.out.2.2.1
 have hx:=HD.out.hx
 have ha:=(HD.out.low.block _ (by omega)).trans S.out.2.1
 refine wpAnyH_ready (rs:= [3]) (by kernel_rfl) (by simp) ?_
 refine AllReadyH.cons rfl (fun K hK=> ?_) AllReadyH.nil
 simp only [List.getElem_toArray,List.getElem_cons_zero,List.getElem_cons_succ]
 rw [if_pos (by rfl)]
 refine wp_store_row 32 (.tmp 2) (.tmp 14) rfl w.heap.size q.cells rfl rfl _ _ ha (by kernel_rfl) rfl (by kernel_rfl) ?_
 have b1:=(setRow_other W1 w.heap.size X q.cells (by omega)).trans HD.out.box
 refine hK.out _ _ b1 (fun _=> ?_)
 clear hK K
 refine tk 4 (v:= ?_) ?_ b1 ?_; rotate_left; (intro w0 hS0; go_simp; try with_reducible rfl); simp only [pt]
 refine wpAnyH_done (by kernel_rfl) ?_ _
 go_wp2_with fail
 refine bodyPost_ret (v:= .tuple #[.agg q.cells,.int .i64 v]) (bL Tryz.results36 _ _ w.heap.size _ _ (0,0) _ rfl (setRow_heap _ _ _ _ _ _ ha) Tryz.underlying32 rfl (by kernel_rfl)) rfl ?_
 exact ⟨q,v,rfl,va,(HD.out.own.lower (by omega)).same fun g hg=>setRow_other _ _ _ _ (by have:=(HD.out.own.lt g hg).1; omega),HD.out.small,below_setRow (S.out.1.trans (HD.out.low.mono S.out.1.size)) (Nat.le_refl _) _⟩
theorem JI (a:Option Addr) (len cap:Nat) (w:World) (hl:len≤1048576) (hb:Bytes w a len):
  Calls Tryz.prog 41 #[.slice a len cap] w fun e w'=> ∃ (q:af) (id most:Int),e= .returned (.tuple #[.agg q.cells,.int .i64 id,.int .i64 most])∧(Lit.int .i64 id).wf=true∧ap w' w.heap.size q∧q.pure.Small∧Below w.heap.size w w':=by
 have h5:Below w.heap.size w (w.alloc (.cells ar 32)):=(Below.refl w.heap.size w).alloc (Nat.le_refl _) _
 have S:Hid (Below w.heap.size w (w.alloc (.cells ar 32))∧(w.alloc (.cells ar 32)).heap[w.heap.size]? =some (.cells ar 32 (0,0))∧(w.alloc (.cells ar 32)).heap.size=w.heap.size+1∧Bytes (w.alloc (.cells ar 32)) a len):=⟨h5,(heap_alloc_new _ _),by simp,hb.below h5⟩
 clear hb h5
 go_enter Tryz.func41,Tryz.ntmps41
 go_upto_region 1 with fail
 generalize w.alloc (.cells ar 32)=A at *
 go_wp2_with fail
 refine (Gj a len cap A S.out.2.2.2).mono ?_
 rintro e A1 ⟨rfl,hb1,hr1,-⟩
 have hcall:=GN A.heap.size a len cap A1 hl hr1
 go_wp2_with fail
 refine hcall.mono ?_
 clear hcall
 rintro e A2 ⟨q,now,rfl,-,ho,hs,hb2,hr2⟩
 have HD:=aA (th.first hb1 hr1 hb2 ho hs hr2)
 clear hb1 hr1 hb2 ho hs hr2
 go_upto_region 3 with (refine wpList_store_row rfl 32 (.tmp 6) (.tmp 13) rfl _ _ _ q.cells rfl rfl (heap_alloc_new _ _) (by kernel_rfl) rfl (by kernel_rfl) ?_)
 generalize (A2.alloc (.cells ar 32)).setRow A2.heap.size q.cells=B at *
 generalize A2.heap.size=X at *
 replace HD:=aA (HD.out.reads (Below.refl _ _).drew)
 refine wp_region_held_drew (S:=fun W=>av W X q) (by kernel_rfl) HD.out.box (fun _=> ?_)
 generalize World.drew _=V at *
 refine tkr 0 (v:= .agg q.cells) rfl (Ib (by rfl) 32 _ rfl X (by rfl) 32 _ _ (fun _ h=>h) Tryz.underlying32 rfl (by kernel_rfl)) HD.out.box ?_; simp only [pt,sb,s0,s1]
 refine tk 1 (v:= ?_) ?_ HD.out.box ?_; rotate_left; (intro w0 hS0; go_simp; try with_reducible rfl); simp only [pt,sb,s0,s1]
 refine tk 4 (v:= ?_) ?_ HD.out.box ?_; rotate_left; (intro w0 hS0; go_simp; try with_reducible rfl); simp only [pt,sb,s0,s1]
 refine wpAnyH_ready (rs:= [2]) (by kernel_rfl) (by simp) ?_
 refine AllReadyH.cons rfl (fun K hK=> ?_) AllReadyH.nil
 simp only [List.getElem_toArray,List.getElem_cons_zero,List.getElem_cons_succ]
 rw [if_pos (by rfl)]
 go_wp2_with fail
 refine (dh A.heap.size a len cap 5 _ hl (by omega) (by omega) HD.out.rd).mono ?_
 rintro e W1 ⟨u,ua,ub,rfl,hb1,hr1⟩
 replace HD:=aA (HD.out.drawn hb1 hr1)
 clear hb1 hr1
 refine hK.out _ _ HD.out.box (fun _=> ?_)
 clear hK K
 try simp only [pt,sb,s0,s1]
 refine tk 3 (v:= ?_) ?_ HD.out.box ?_; rotate_left; (intro w0 hS0; go_simp; try with_reducible rfl); simp only [pt,sb,s0,s1]
 refine wpAnyH_ready (rs:= [5]) (by kernel_rfl) (by simp) ?_
 refine AllReadyH.cons rfl (fun K hK=> ?_) AllReadyH.nil
 simp only [List.getElem_toArray,List.getElem_cons_zero,List.getElem_cons_succ]
 rw [if_pos (by rfl)]
 go_wp2_with fail
 refine (Gk A.heap.size a len cap 1 5 _ hl (by omega) (by omega) (by omega) HD.out.rd).mono ?_
 rintro e W2 ⟨v,rfl,va,hb1,hr1⟩
 replace HD:=aA (HD.out.drawn hb1 hr1)
 clear hb1 hr1
 refine hK.out _ _ HD.out.box (fun _=> ?_)
 clear hK K
 try simp only [pt,sb,s0,s1]
 have n0:=S.out.2.2.1
 have hx:=HD.out.hx
 have ha:=(HD.out.low.block _ (by omega)).trans S.out.2.1
 refine wpAnyH_ready (rs:= [6]) (by kernel_rfl) (by simp) ?_
 refine AllReadyH.cons rfl (fun K hK=> ?_) AllReadyH.nil
 simp only [List.getElem_toArray,List.getElem_cons_zero,List.getElem_cons_succ]
 rw [if_pos (by rfl)]
 refine wp_store_row 32 (.tmp 2) (.tmp 15) rfl w.heap.size q.cells rfl rfl _ _ ha (by kernel_rfl) rfl (by kernel_rfl) ?_
 have b1:=(setRow_other W2 w.heap.size X q.cells (by omega)).trans HD.out.box
 refine hK.out _ _ b1 (fun _=> ?_)
 clear hK K
 refine tk 7 (v:= ?_) ?_ b1 ?_; rotate_left; (intro w0 hS0; go_simp; try with_reducible rfl); simp only [pt]
 refine tk 8 (v:= ?_) ?_ b1 ?_; rotate_left; (intro w0 hS0; go_simp; try with_reducible rfl); simp only [pt]
 refine wpAnyH_done (by kernel_rfl) ?_ _
 go_wp2_with fail
 refine bodyPost_ret (v:= .tuple #[.agg q.cells,.int .i64 (IntKind.wrap .i64 (1+u)),.int .i64 v]) (JS Tryz.results41 _ _ w.heap.size _ _ (0,0) _ rfl (setRow_heap _ _ _ _ _ _ ha) Tryz.underlying32 rfl (by kernel_rfl)) rfl ?_
 exact ⟨q,IntKind.wrap .i64 (1+u),v,rfl,(show (Lit.int .i64 (IntKind.wrap .i64 (1+u))).wf=true from by rw [IntKind.wrap_i64]; exact pT (by omega) (by omega)),(HD.out.own.lower (by omega)).same fun g hg=>setRow_other _ _ _ _ (by have:=(HD.out.own.lt g hg).1; omega),HD.out.small,below_setRow (S.out.1.trans (HD.out.low.mono S.out.1.size)) (Nat.le_refl _) _⟩
theorem JM (a:Option Addr) (len cap:Nat) (w:World) (hl:len≤1048576) (hb:Bytes w a len):
  Calls Tryz.prog 44 #[.slice a len cap] w fun e w'=> ∃ (q:af) (z:aM),e= .returned (.tuple #[.agg q.cells,.agg #[.int .i64 z.id,.bool z.out,.bool z.queue,.int .i64 z.max,.slice z.ak z.items.length z.aq]])∧(Lit.int .i64 z.id).wf=true∧ap w' w.heap.size q∧q.pure.Small∧Below w.heap.size w w':=by
 have h5:Below w.heap.size w ((w.alloc (.cells ar 32)).alloc (.cells #[.int .i64 0,.bool false,.bool false,.int .i64 0,.slice none 0 0] 61)):=((Below.refl w.heap.size w).alloc (Nat.le_refl _) _).alloc (by simp) _
 have S:Hid (Below w.heap.size w ((w.alloc (.cells ar 32)).alloc (.cells #[.int .i64 0,.bool false,.bool false,.int .i64 0,.slice none 0 0] 61))∧((w.alloc (.cells ar 32)).alloc (.cells #[.int .i64 0,.bool false,.bool false,.int .i64 0,.slice none 0 0] 61)).heap[w.heap.size]? =some (.cells ar 32 (0,0))∧((w.alloc (.cells ar 32)).alloc (.cells #[.int .i64 0,.bool false,.bool false,.int .i64 0,.slice none 0 0] 61)).heap.size=w.heap.size+2∧Bytes ((w.alloc (.cells ar 32)).alloc (.cells #[.int .i64 0,.bool false,.bool false,.int .i64 0,.slice none 0 0] 61)) a len∧((w.alloc (.cells ar 32)).alloc (.cells #[.int .i64 0,.bool false,.bool false,.int .i64 0,.slice none 0 0] 61)).heap[w.heap.size+1]? =some (.cells #[.int .i64 0,.bool false,.bool false,.int .i64 0,.slice none 0 0] 61 (0,0))):=⟨h5,(by rw [heap_alloc_old _ _ (by simp)]; exact heap_alloc_new _ _),by simp,hb.below h5,by simpa using heap_alloc_new (w.alloc (.cells ar 32)) _⟩
 clear hb h5
 go_enter Tryz.func44,Tryz.ntmps44
 go_upto_region 1 with fail
 generalize (w.alloc (.cells ar 32)).alloc (.cells #[.int .i64 0,.bool false,.bool false,.int .i64 0,.slice none 0 0] 61)=A at *
 go_wp2_with fail
 refine (Gj a len cap A S.out.2.2.2.1).mono ?_
 rintro e A1 ⟨rfl,hb1,hr1,-⟩
 have hcall:=GN A.heap.size a len cap A1 hl hr1
 go_wp2_with fail
 refine hcall.mono ?_
 clear hcall
 rintro e A2 ⟨q,now,rfl,-,ho,hs,hb2,hr2⟩
 have HD:=aA (th.first hb1 hr1 hb2 ho hs hr2)
 clear hb1 hr1 hb2 ho hs hr2
 go_upto_region 3 with (refine wpList_store_row rfl 32 (.tmp 5) (.tmp 12) rfl _ _ _ q.cells rfl rfl (heap_alloc_new _ _) (by kernel_rfl) rfl (by kernel_rfl) ?_)
 generalize (A2.alloc (.cells ar 32)).setRow A2.heap.size q.cells=B at *
 generalize A2.heap.size=X at *
 replace HD:=aA (HD.out.reads (Below.refl _ _).drew)
 refine wp_region_held_drew (S:=fun W=>av W X q) (by kernel_rfl) HD.out.box (fun _=> ?_)
 generalize World.drew _=V at *
 refine tkr 0 (v:= .agg q.cells) rfl (Ib (by rfl) 32 _ rfl X (by rfl) 32 _ _ (fun _ h=>h) Tryz.underlying32 rfl (by kernel_rfl)) HD.out.box ?_; simp only [pt,sb,s0,s1]
 refine tk 1 (v:= ?_) ?_ HD.out.box ?_; rotate_left; (intro w0 hS0; go_simp; try with_reducible rfl); simp only [pt,sb,s0,s1]
 refine tk 4 (v:= ?_) ?_ HD.out.box ?_; rotate_left; (intro w0 hS0; go_simp; try with_reducible rfl); simp only [pt,sb,s0,s1]
 refine tk 6 (v:= ?_) ?_ HD.out.box ?_; rotate_left; (intro w0 hS0; go_simp; try with_reducible rfl); simp only [pt,sb,s0,s1]
 refine tk 8 (v:= ?_) ?_ HD.out.box ?_; rotate_left; (intro w0 hS0; go_simp; try with_reducible rfl); simp only [pt,sb,s0,s1]
 refine wpAnyH_ready (rs:= [2]) (by kernel_rfl) (by simp) ?_
 refine AllReadyH.cons rfl (fun K hK=> ?_) AllReadyH.nil
 simp only [List.getElem_toArray,List.getElem_cons_zero,List.getElem_cons_succ]
 rw [if_pos (by rfl)]
 go_wp2_with fail
 refine (dh A.heap.size a len cap 4 _ hl (by omega) (by omega) HD.out.rd).mono ?_
 rintro e W1 ⟨u,ua,ub,rfl,hb1,hr1⟩
 replace HD:=aA (HD.out.drawn hb1 hr1)
 clear hb1 hr1
 refine hK.out _ _ HD.out.box (fun _=> ?_)
 clear hK K
 try simp only [pt,sb,s0,s1]
 refine tk 3 (v:= ?_) ?_ HD.out.box ?_; rotate_left; (intro w0 hS0; go_simp; try with_reducible rfl); simp only [pt,sb,s0,s1]
 refine wpAnyH_ready (rs:= [5]) (by kernel_rfl) (by simp) ?_
 refine AllReadyH.cons rfl (fun K hK=> ?_) AllReadyH.nil
 simp only [List.getElem_toArray,List.getElem_cons_zero,List.getElem_cons_succ]
 rw [if_pos (by rfl)]
 go_wp2_with fail
 refine (jt A.heap.size a len cap 2 _ hl (by omega) (by omega) HD.out.rd).mono ?_
 rintro e W2 ⟨o,rfl,hb1,hr1⟩
 replace HD:=aA (HD.out.drawn hb1 hr1)
 clear hb1 hr1
 refine hK.out _ _ HD.out.box (fun _=> ?_)
 clear hK K
 try simp only [pt,sb,s0,s1]
 refine wpAnyH_ready (rs:= [7]) (by kernel_rfl) (by simp) ?_
 refine AllReadyH.cons rfl (fun K hK=> ?_) AllReadyH.nil
 simp only [List.getElem_toArray,List.getElem_cons_zero,List.getElem_cons_succ]
 rw [if_pos (by rfl)]
 go_wp2_with fail
 refine (jt A.heap.size a len cap 2 _ hl (by omega) (by omega) HD.out.rd).mono ?_
 rintro e W3 ⟨v,rfl,hb1,hr1⟩
 replace HD:=aA (HD.out.drawn hb1 hr1)
 clear hb1 hr1
 refine hK.out _ _ HD.out.box (fun _=> ?_)
 clear hK K
 try simp only [pt,sb,s0,s1]
 refine wpAnyH_ready (rs:= [9]) (by kernel_rfl) (by simp) ?_
 refine AllReadyH.cons rfl (fun K hK=> ?_) AllReadyH.nil
 simp only [List.getElem_toArray,List.getElem_cons_zero,List.getElem_cons_succ]
 rw [if_pos (by rfl)]
 go_wp2_with fail
 refine (dh A.heap.size a len cap 2 _ hl (by omega) (by omega) HD.out.rd).mono ?_
 rintro e W4 ⟨x,xa,xb,rfl,hb1,hr1⟩
 replace HD:=aA (HD.out.drawn hb1 hr1)
 clear hb1 hr1
 refine hK.out _ _ HD.out.box (fun _=> ?_)
 clear hK K
 try simp only [pt,sb,s0,s1]
 refine tk 10 (v:= ?_) ?_ HD.out.box ?_; rotate_left; (intro w0 hS0; go_simp; try with_reducible rfl); simp only [pt,sb,s0,s1]
 refine tk 11 (v:= ?_) ?_ HD.out.box ?_; rotate_left; (intro w0 hS0; go_simp; try with_reducible rfl); simp only [pt,sb,s0,s1]
 have n0:=S.out.2.2.1
 have hx:=HD.out.hx
 have ha:=(HD.out.low.block _ (by omega)).trans S.out.2.1
 have hc:=(HD.out.low.block _ (by omega)).trans S.out.2.2.2.2
 refine wpAnyH_ready (rs:= [12]) (by kernel_rfl) (by simp) ?_
 refine AllReadyH.cons rfl (fun K hK=> ?_) AllReadyH.nil
 simp only [List.getElem_toArray,List.getElem_cons_zero,List.getElem_cons_succ]
 rw [if_pos (by rfl)]
 refine wp_store_row 32 (.tmp 2) (.tmp 14) rfl w.heap.size q.cells rfl rfl _ _ ha (by kernel_rfl) rfl (by kernel_rfl) ?_
 have b1:=(setRow_other W4 w.heap.size X q.cells (by omega)).trans HD.out.box
 refine hK.out _ _ b1 (fun _=> ?_)
 clear hK K
 refine wpAnyH_ready (rs:= [13]) (by kernel_rfl) (by simp) ?_
 refine AllReadyH.cons rfl (fun K hK=> ?_) AllReadyH.nil
 simp only [List.getElem_toArray,List.getElem_cons_zero,List.getElem_cons_succ]
 rw [if_pos (by rfl)]
 refine wp_store_row 61 (.tmp 3) (.tmp 25) rfl (w.heap.size+1) #[.int .i64 (IntKind.wrap .i64 (3+u)),.bool o,.bool v,.int .i64 (IntKind.wrap .i64 (1+x)),.slice none 0 0] rfl rfl _ _ ((setRow_other _ _ _ _ (by omega)).trans hc) (by kernel_rfl) rfl (by kernel_rfl) ?_
 refine hK.out _ _ ((setRow_other _ _ _ _ (by omega)).trans b1) (fun _=> ?_)
 clear hK K
 refine wpAnyH_done (by kernel_rfl) ?_ _
 go_wp2_with fail
 refine bodyPost_ret (v:= .tuple #[.agg q.cells,.agg #[.int .i64 (IntKind.wrap .i64 (3+u)),.bool o,.bool v,.int .i64 (IntKind.wrap .i64 (1+x)),.slice none 0 0]]) (JK Tryz.results44 _ _ w.heap.size (w.heap.size+1) _ _ _ _ (0,0) (0,0) _ _ rfl ((setRow_other _ _ _ _ (by omega)).trans (setRow_heap _ _ _ _ _ _ ha)) Tryz.underlying32 rfl (by kernel_rfl) rfl (setRow_heap _ _ _ _ _ _ ((setRow_other _ _ _ _ (by omega)).trans hc)) Tryz.underlying61 rfl (by kernel_rfl)) rfl ?_
 exact ⟨q,⟨⟨IntKind.wrap .i64 (3+u),o,v,IntKind.wrap .i64 (1+x),[]⟩,none,0⟩,rfl,(show (Lit.int .i64 (IntKind.wrap .i64 (3+u))).wf=true from by rw [IntKind.wrap_i64]; exact pT (by omega) (by omega)),(HD.out.own.lower (by omega)).same fun g hg=>(setRow_other _ _ _ _ (by have:=(HD.out.own.lt g hg).1; omega)).trans (setRow_other _ _ _ _ (by have:=(HD.out.own.lt g hg).1; omega)),HD.out.small,below_setRow (below_setRow (S.out.1.trans (HD.out.low.mono S.out.1.size)) (Nat.le_refl _) _) (by omega) _⟩
theorem E5 (p:af) (z:aM) (w:World) (hid:(Lit.int .i64 z.id).wf=true) (hg:p.Good w):
  Calls Tryz.prog 45 #[.agg p.cells,.agg #[.int .i64 z.id,.bool z.out,.bool z.queue,.int .i64 z.max,.slice z.ak z.items.length z.aq]] w fun e w'=>gI w (cB p.pure { p.pure with ai:=bY (·.id) (⟨z.id,z.out,z.queue,z.max,[]⟩:dS) p.pure.ai }) e w':=by
 have HB:Hid (p.Good (((w.alloc (.cells p.cells 32)).alloc (.cells #[.int .i64 z.id,.bool z.out,.bool z.queue,.int .i64 z.max,.slice none 0 0] 61)).alloc (.cells ar 32))∧Below w.heap.size w (((w.alloc (.cells p.cells 32)).alloc (.cells #[.int .i64 z.id,.bool z.out,.bool z.queue,.int .i64 z.max,.slice none 0 0] 61)).alloc (.cells ar 32))∧(((w.alloc (.cells p.cells 32)).alloc (.cells #[.int .i64 z.id,.bool z.out,.bool z.queue,.int .i64 z.max,.slice none 0 0] 61)).alloc (.cells ar 32)).heap[w.heap.size+1+1]? =some (.cells ar 32 (0,0))∧av (((w.alloc (.cells p.cells 32)).alloc (.cells #[.int .i64 z.id,.bool z.out,.bool z.queue,.int .i64 z.max,.slice none 0 0] 61)).alloc (.cells ar 32)) w.heap.size p∧(Lit.int .i64 z.id).wf=true∧(((w.alloc (.cells p.cells 32)).alloc (.cells #[.int .i64 z.id,.bool z.out,.bool z.queue,.int .i64 z.max,.slice none 0 0] 61)).alloc (.cells ar 32)).heap[w.heap.size+1]? =some (.cells #[.int .i64 z.id,.bool z.out,.bool z.queue,.int .i64 z.max,.slice none 0 0] 61 (0,0))):=by
  have b1:Below w.heap.size w (((w.alloc (.cells p.cells 32)).alloc (.cells #[.int .i64 z.id,.bool z.out,.bool z.queue,.int .i64 z.max,.slice none 0 0] 61)).alloc (.cells ar 32)):=fg _ _ _ _
  have h3:=dR w (.cells p.cells 32) (.cells #[.int .i64 z.id,.bool z.out,.bool z.queue,.int .i64 z.max,.slice none 0 0] 61) (.cells ar 32)
  exact ⟨hg.below b1,b1,h3.2.2.1,h3.1,hid,h3.2.1⟩
 clear hg hid
 obtain ⟨m0,m1,m2,m3,m4,m5,m6,m7⟩:=HB.out.2.2.2.1.cells
 unfold af.cells at *
 go_enter Tryz.func45,Tryz.ntmps45
 go_wp2_with fail
 generalize ((w.alloc (.cells #[.int .i64 p.id,.int .i64 p.next,.slice p.aN p.procs.length p.aW,.slice p.bc p.aj.length p.bF,.slice p.ay p.events.length p.aO,.slice p.ax p.ag.length p.aP,.slice p.am p.ae.length p.aG,.slice p.aK p.ai.length p.aV] 32)).alloc (.cells #[.int .i64 z.id,.bool z.out,.bool z.queue,.int .i64 z.max,.slice none 0 0] 61)).alloc (.cells #[.int .i64 0,.int .i64 0,.slice none 0 0,.slice none 0 0,.slice none 0 0,.slice none 0 0,.slice none 0 0,.slice none 0 0] 32)=W at *
 clear m0 m1 m2 m3 m4 m5 m6 m7
 refine (iO p W HB.out.1).mono ?_
 rintro e w1 ⟨hb1,⟨hno,rfl⟩ | ⟨fm,o,S,rfl,hat,gn⟩⟩
 all_goals replace hb1:=hb1.drew
 ·have HZ:Hid (Below w.heap.size w w1.drew∧w1.drew.heap[w.heap.size+1+1]? =some (.cells ar 32 (0,0))∧True):=⟨HB.out.2.1.trans (hb1.mono HB.out.2.1.size),(hb1.block _ (Array.getElem?_eq_some_iff.1 HB.out.2.2.1).1).trans HB.out.2.2.1,trivial⟩
  have HN:Hid (cB p.pure { p.pure with ai:=bY (·.id) (⟨z.id,z.out,z.queue,z.max,[]⟩:dS) p.pure.ai } =none):=nm (dL hno)
  clear hb1 hno
  go_wp2_with fail
  refine aT (fun w'=>w'=w1.drew) (by kernel_rfl) rfl ?_
  iterate 3 (refine yl (v:= ?_) ?_ ?_; rotate_left; (intro w0 hS0; subst hS0; go_simp; try with_reducible rfl); simp only [pt,sb,s0,s1])
  iterate 7 (refine nl ?_; simp only [pt,sb,s0,s1])
  (refine yl (v:= ?_) ?_ ?_; rotate_left; (intro w0 hS0; subst hS0; go_simp; try with_reducible rfl); simp only [pt,sb,s0,s1])
  refine bk (by kernel_rfl) ?_ _
  intro w1 cm
  subst cm
  go_wp2_with (refine wpList_store_row rfl 32 (Operand.tmp 4) (Operand.tmp 25) rfl (w.heap.size+1+1) _ _ ar rfl rfl HZ.out.2.1 (by kernel_rfl) rfl (by kernel_rfl) ?_)
  refine bodyPost_ret (v:= .tuple #[.agg ar,.bool false]) (bL Tryz.results45 _ _ (w.heap.size+1+1) _ _ _ _ (by rfl) (setRow_heap _ _ _ _ _ _ HZ.out.2.1) Tryz.underlying32 rfl (by kernel_rfl)) rfl ?_
  exact ca HN.out (below_setRow HZ.out.1 (by omega) _)
 replace hat:=hat.drew
 have HZ:Hid (Below w.heap.size w w1.drew∧w1.drew.heap[w.heap.size+1+1]? =some (.cells ar 32 (0,0))∧aQ S.pure∧cJ w1.drew W.heap.size o S∧S.pure=p.pure∧w.heap.size+1+1 < W.heap.size∧W.heap.size≤w1.drew.heap.size):=⟨HB.out.2.1.trans (hb1.mono HB.out.2.1.size),(hb1.block _ (Array.getElem?_eq_some_iff.1 HB.out.2.2.1).1).trans HB.out.2.2.1,by rw [gn]; exact fm,hat,gn,(Array.getElem?_eq_some_iff.1 HB.out.2.2.1).1,hb1.size⟩
 obtain ⟨z0,z1,z2,z3,z4⟩:=gE (x:=(⟨⟨z.id,z.out,z.queue,z.max,[]⟩,none,0⟩:aM)) ((hb1.block _ (by have:=(Array.getElem?_eq_some_iff.1 HB.out.2.2.1).1; omega)).trans HB.out.2.2.2.2.2)
 simp only [List.length_nil] at z0 z1 z2 z3 z4
 have c0:w1.drew.cell? ⟨o,12,none⟩=some (.int .i64 5):=hat.opn.cell 12
 have c1:w1.drew.cell? ⟨o,13,none⟩=some (.map (some S.q.bq)):=hat.opn.cell 13
 have HM:Hid (bK { p.pure with ai:=bY (·.id) (⟨z.id,z.out,z.queue,z.max,[]⟩:dS) p.pure.ai } =iI 5 (keysOf (fun x:aM=>x.id) S.lq) z.id (dj (⟨z.id,z.out,z.queue,z.max,[]⟩:dS))):=by
  have h5:=Ac (x:=(⟨z.id,z.out,z.queue,z.max,[]⟩:dS)) HZ.out.2.2.1
  rw [gn] at h5
  refine h5.trans ?_
  have h6:p.pure.ai=S.lq.map (fun p=>(fun y:aM=>y.todS) p.1):=by rw [← gn]; rfl
  rw [h6]
  exact (oP (num:=(fun x:aM=>x.id)) (je:=(·.id)) (fun y:aM=>y.todS) (fun _=>rfl) dj (⟨⟨z.id,z.out,z.queue,z.max,[]⟩,none,0⟩:aM) 5 S.lq).symm
 have hcall:=tb 5 S.q.bq (keysOf (fun x:aM=>x.id) S.lq) (⟨⟨z.id,z.out,z.queue,z.max,[]⟩,none,0⟩:aM) w1.drew hat.ai.map HB.out.2.2.2.2.1 (by have h5:=(iB HZ.out.2.2.1).dH; rw [bZ]; omega) ⟨Nat.zero_le _,(fun s hs=>by cases hs),(fun j u hu=>by cases hu)⟩
 have D1:Hid (∀ e w',dD w1.drew S.q.bq (keysOf (fun x:aM=>x.id) S.lq) (iI 5 (keysOf (fun x:aM=>x.id) S.lq) z.id (dj (⟨z.id,z.out,z.queue,z.max,[]⟩:dS))) z.id (cW (⟨⟨z.id,z.out,z.queue,z.max,[]⟩,none,0⟩:aM)) 61 e w'→dD w1.drew S.q.bq (keysOf (fun x:aM=>x.id) S.lq) (bK { p.pure with ai:=bY (·.id) (⟨z.id,z.out,z.queue,z.max,[]⟩:dS) p.pure.ai }) z.id (cW (⟨⟨z.id,z.out,z.queue,z.max,[]⟩,none,0⟩:aM)) 61 e w'):=fun e w' h5=>by rw [HM.out]; exact h5
 simp only [cW,List.length_nil] at hcall
 have HC:Hid (∀ w':World,w'.heap[o]? =w1.drew.heap[o]? →w'.heap[w.heap.size+1]? =w1.drew.heap[w.heap.size+1]? →w'.cell? ⟨o,12,none⟩=some (.int .i64 5)∧w'.cell? ⟨o,13,none⟩=some (.map (some S.q.bq))∧w'.cell? ⟨w.heap.size+1,0,none⟩=some (.int .i64 z.id)∧w'.cell? ⟨w.heap.size+1,1,none⟩=some (.bool z.out)∧w'.cell? ⟨w.heap.size+1,2,none⟩=some (.bool z.queue)∧w'.cell? ⟨w.heap.size+1,3,none⟩=some (.int .i64 z.max)∧w'.cell? ⟨w.heap.size+1,4,none⟩=some (.slice none 0 0)):=fun w' e1 e2=>⟨(World.cell?_of_block e1).trans c0,(World.cell?_of_block e1).trans c1,(World.cell?_of_block e2).trans z0,(World.cell?_of_block e2).trans z1,(World.cell?_of_block e2).trans z2,(World.cell?_of_block e2).trans z3,(World.cell?_of_block e2).trans z4⟩
 clear hb1 fm hat gn HM
 go_wp2_with fail
 refine wp_region_held_drew (S:=fun w'=>w'.cell? ⟨o,12,none⟩=some (.int .i64 5)∧w'.cell? ⟨o,13,none⟩=some (.map (some S.q.bq))∧w'.cell? ⟨w.heap.size+1,0,none⟩=some (.int .i64 z.id)∧w'.cell? ⟨w.heap.size+1,1,none⟩=some (.bool z.out)∧w'.cell? ⟨w.heap.size+1,2,none⟩=some (.bool z.queue)∧w'.cell? ⟨w.heap.size+1,3,none⟩=some (.int .i64 z.max)∧w'.cell? ⟨w.heap.size+1,4,none⟩=some (.slice none 0 0)) (by kernel_rfl) (HC.out _ rfl rfl) (fun hHeld=> ?_)
 refine tk 0 (v:= ?_) ?_ hHeld ?_; rotate_left; (intro w0 hS0; obtain ⟨q0,q1,q2,q3,q4,q5,q6⟩:=hS0; go_simp; try with_reducible rfl); simp only [pt,sb,s0,s1]
 refine tk 1 (v:= ?_) ?_ hHeld ?_; rotate_left; (intro w0 hS0; obtain ⟨q0,q1,q2,q3,q4,q5,q6⟩:=hS0; go_simp; try with_reducible rfl); simp only [pt,sb,s0,s1]
 refine tk 2 (v:= ?_) ?_ hHeld ?_; rotate_left; (intro w0 hS0; obtain ⟨q0,q1,q2,q3,q4,q5,q6⟩:=hS0; go_simp; try with_reducible rfl); simp only [pt,sb,s0,s1]
 refine tk 3 (v:= ?_) ?_ hHeld ?_; rotate_left; (intro w0 hS0; obtain ⟨q0,q1,q2,q3,q4,q5,q6⟩:=hS0; go_simp; try with_reducible rfl); simp only [pt,sb,s0,s1]
 refine tk 4 (v:= ?_) ?_ hHeld ?_; rotate_left; (intro w0 hS0; obtain ⟨q0,q1,q2,q3,q4,q5,q6⟩:=hS0; go_simp; try with_reducible rfl); simp only [pt,sb,s0,s1]
 refine tk 5 (v:= ?_) ?_ hHeld ?_; rotate_left; (intro w0 hS0; obtain ⟨q0,q1,q2,q3,q4,q5,q6⟩:=hS0; go_simp; try with_reducible rfl); simp only [pt,sb,s0,s1]
 refine tk 6 (v:= ?_) ?_ hHeld ?_; rotate_left; (intro w0 hS0; obtain ⟨q0,q1,q2,q3,q4,q5,q6⟩:=hS0; go_simp; try with_reducible rfl); simp only [pt,sb,s0,s1]
 refine tk 7 (v:= ?_) ?_ hHeld ?_; rotate_left; (intro w0 hS0; obtain ⟨q0,q1,q2,q3,q4,q5,q6⟩:=hS0; go_simp; try with_reducible rfl); simp only [pt,sb,s0,s1]
 refine wpAnyH_ready (rs:= [8]) (by kernel_rfl) (by simp) ?_
 refine AllReadyH.cons rfl (fun K hK=> ?_) AllReadyH.nil
 simp only [List.getElem_toArray,List.getElem_cons_zero,List.getElem_cons_succ]
 rw [if_pos (by rfl)]
 go_wp2_with fail
 refine hcall.mono ?_
 clear hcall c0 c1 hHeld z0 z1 z2 z3 z4
 intro e w2 hE
 replace hE:=D1.out e w2 hE
 clear D1
 cases hok:bK { p.pure with ai:=bY (·.id) (⟨z.id,z.out,z.queue,z.max,[]⟩:dS) p.pure.ai }
 ·rw [hok] at hE
  obtain ⟨rfl,hb2,-⟩:=hE
  have iP:Hid (Below w.heap.size w w2∧w2.heap[w.heap.size+1+1]? =some (.cells ar 32 (0,0))∧True):=⟨HZ.out.1.trans ((hb2 rfl).mono HZ.out.1.size),((hb2 rfl).block _ (Array.getElem?_eq_some_iff.1 HZ.out.2.1).1).trans HZ.out.2.1,trivial⟩
  have HN:Hid (cB p.pure { p.pure with ai:=bY (·.id) (⟨z.id,z.out,z.queue,z.max,[]⟩:dS) p.pure.ai } =none):=ox hok
  refine hK.out _ _ (HC.out w2 ((hb2 rfl).block _ (Array.getElem?_eq_some_iff.1 HZ.out.2.2.2.1.opn).1) ((hb2 rfl).block _ (by have:=HZ.out.2.2.2.2.2; omega))) (fun hHeld=> ?_)
  clear hK K
  try simp only [pt,sb,s0,s1]
  refine tk 9 (v:= ?_) ?_ hHeld ?_; rotate_left; (intro w0 hS0; obtain ⟨q0,q1,q2,q3,q4,q5,q6⟩:=hS0; go_simp; try with_reducible rfl); simp only [pt,sb,s0,s1]
  refine tk 10 (v:= ?_) ?_ hHeld ?_; rotate_left; (intro w0 hS0; obtain ⟨q0,q1,q2,q3,q4,q5,q6⟩:=hS0; go_simp; try with_reducible rfl); simp only [pt,sb,s0,s1]
  refine wpAnyH_done (by kernel_rfl) ?_ _
  clear hHeld HC
  clear hok hb2
  go_wp2_with (refine wpList_store_row rfl 32 (Operand.tmp 4) (Operand.tmp 25) rfl (w.heap.size+1+1) _ _ ar rfl rfl iP.out.2.1 (by kernel_rfl) rfl (by kernel_rfl) ?_)
  refine bodyPost_ret (v:= .tuple #[.agg ar,.bool false]) (bL Tryz.results45 _ _ (w.heap.size+1+1) _ _ _ _ (by rfl) (setRow_heap _ _ _ _ _ _ iP.out.2.1) Tryz.underlying32 rfl (by kernel_rfl)) rfl ?_
  exact ca HN.out (below_setRow iP.out.1 (by omega) _)
 rw [hok] at hE
 obtain ⟨g,g8,hb2⟩:=HZ.out.2.2.2.1.IL (x:=(⟨⟨z.id,z.out,z.queue,z.max,[]⟩,none,0⟩:aM)) HZ.out.2.2.2.2.2.2 (World.ownsRow_nil _ _ _ _) (fun c hc=>by cases hc) hE
 obtain ⟨rfl,-,-⟩:=hE
 have hlt:=HZ.out.2.2.2.2.2.1
 have HN:Hid (cB p.pure { p.pure with ai:=bY (·.id) (⟨z.id,z.out,z.queue,z.max,[]⟩:dS) p.pure.ai } =some { p.pure with ai:=bY (·.id) (⟨z.id,z.out,z.queue,z.max,[]⟩:dS) p.pure.ai }):=mZ (by rw [← HZ.out.2.2.2.2.1]; exact fP HZ.out.2.2.1) hok
 have H2:Hid (cJ w2 W.heap.size o ({ S with lq:=fc (fun x:aM=>x.id) ((⟨⟨z.id,z.out,z.queue,z.max,[]⟩,none,0⟩:aM),g) S.lq } :aZ)∧Below w.heap.size w w2∧w2.heap[w.heap.size+1+1]? =some (.cells ar 32 (0,0))∧W.heap.size≤w2.heap.size):=⟨g8,HZ.out.1.trans (hb2.mono (by omega)),(hb2.block _ hlt).trans HZ.out.2.1,by have:=hb2.size; have:=HZ.out.2.2.2.2.2.2; omega⟩
 have HF:Hid (({ S with lq:=fc (fun x:aM=>x.id) ((⟨⟨z.id,z.out,z.queue,z.max,[]⟩,none,0⟩:aM),g) S.lq } :aZ).pure= { p.pure with ai:=bY (·.id) (⟨z.id,z.out,z.queue,z.max,[]⟩:dS) p.pure.ai } ∧({ S with lq:=fc (fun x:aM=>x.id) ((⟨⟨z.id,z.out,z.queue,z.max,[]⟩,none,0⟩:aM),g) S.lq } :aZ).Fits):=by
  have h5:=Ac (x:=(⟨z.id,z.out,z.queue,z.max,[]⟩:dS)) HZ.out.2.2.1
  rw [HZ.out.2.2.2.2.1,hok] at h5
  have e1:({ S with lq:=fc (fun x:aM=>x.id) ((⟨⟨z.id,z.out,z.queue,z.max,[]⟩,none,0⟩:aM),g) S.lq } :aZ).pure= { p.pure with ai:=bY (·.id) (⟨z.id,z.out,z.queue,z.max,[]⟩:dS) p.pure.ai } :=by
   have h6:p.pure.ai=S.lq.map (fun p=>(fun y:aM=>y.todS) p.1):=by rw [← HZ.out.2.2.2.2.1]; rfl
   have h7:(fc (fun x:aM=>x.id) ((⟨⟨z.id,z.out,z.queue,z.max,[]⟩,none,0⟩:aM),g) S.lq).map (fun p=>(fun y:aM=>y.todS) p.1)=bY (·.id) (⟨z.id,z.out,z.queue,z.max,[]⟩:dS) p.pure.ai:=by
    rw [m9 (num:=(fun x:aM=>x.id)) (je:=(·.id)) (fun y:aM=>y.todS) (fun _=>rfl),← h6]
   rw [← HZ.out.2.2.2.2.1] at h7 ⊢
   unfold aZ.pure at h7 ⊢
   simp only at h7 ⊢
   rw [← h7]
  exact ⟨e1,iB (by rw [e1]; exact (ch _).1 hok)⟩
 refine hK.out _ _ (HC.out w2 (H2.out.1.opn.trans HZ.out.2.2.2.1.opn.symm) (hb2.block _ (by omega))) (fun hHeld=> ?_)
 clear hK K
 try simp only [pt,sb,s0,s1]
 refine tk 9 (v:= ?_) ?_ hHeld ?_; rotate_left; (intro w0 hS0; obtain ⟨q0,q1,q2,q3,q4,q5,q6⟩:=hS0; go_simp; try with_reducible rfl); simp only [pt,sb,s0,s1]
 refine tk 10 (v:= ?_) ?_ hHeld ?_; rotate_left; (intro w0 hS0; obtain ⟨q0,q1,q2,q3,q4,q5,q6⟩:=hS0; go_simp; try with_reducible rfl); simp only [pt,sb,s0,s1]
 refine wpAnyH_done (by kernel_rfl) ?_ _
 clear hHeld HC
 clear g8 hb2 hok
 go_wp2_with fail
 refine (jR o W.heap.size _ w2 H2.out.1 HF.out.2).mono ?_
 rintro e w3 ⟨r,rfl,Bn,wu,hb3⟩
 have H3:Hid (ap w3 W.heap.size r∧Below w.heap.size w w3∧w3.heap[w.heap.size+1+1]? =some (.cells ar 32 (0,0))∧r.pure= { p.pure with ai:=bY (·.id) (⟨z.id,z.out,z.queue,z.max,[]⟩:dS) p.pure.ai }):=⟨Bn,H2.out.2.1.trans (hb3.mono H2.out.2.1.size),(hb3.block _ (Array.getElem?_eq_some_iff.1 H2.out.2.2.1).1).trans H2.out.2.2.1,wu.trans HF.out.1⟩
 clear Bn wu hb3
 go_wp2_with (refine wpList_store_row rfl 32 (Operand.tmp 4) (Operand.tmp 27) rfl (w.heap.size+1+1) _ _ (af.cells r) rfl rfl H3.out.2.2.1 (by kernel_rfl) rfl (by kernel_rfl) ?_)
 refine bodyPost_ret (v:= .tuple #[.agg (af.cells r),.bool true]) (bL Tryz.results45 _ _ (w.heap.size+1+1) _ _ _ _ (by rfl) (setRow_heap _ _ _ _ _ _ H3.out.2.2.1) Tryz.underlying32 rfl (by kernel_rfl)) rfl ?_
 rw [HN.out]
 exact ⟨r,rfl,(H3.out.1.lower (by omega)).same fun b hb=>setRow_other _ _ _ _ (by have:=(H3.out.1.lt b hb).1; omega),H3.out.2.2.2,below_setRow H3.out.2.1 (by omega) _⟩
end Go.Proofs.YtkbcplnlehdjfaaGreat
