/- What the proof leans on, part 1: StartedI, StartedLaw. -/
import Derived.Test.YtkbcplnlehdjfaaGreatOwnR35
import Derived.Test.YtkbcplnlehdjfaaGreatOwnS0

namespace Go.Proofs.YtkbcplnlehdjfaaGreat
open Go.RowKit Go.Maps
attribute [local go_sem ↓] Go.wp_at_zero Go.wp_at_succ
set_option maxRecDepth 100000 in
set_option maxHeartbeats 8000000 in
theorem implStarted_any (p : PartD) (id : Int) (w : World) (hid : (Lit.int .i64 id).wf = true) (hg : p.Good w) :
  Calls Tryz.prog 48 #[.agg p.cells, .int .i64 id] w fun e w' => TurnRes w (startedP p.pure id) e w' := by
 have HB : Hid (p.Good ((w.alloc (.cells #[.int .i64 p.id, .int .i64 p.next, .slice p.procA p.procs.length p.procC, .slice p.semA p.sems.length p.semC, .slice p.eventA p.events.length p.eventC, .slice p.boardA p.boards.length p.boardC, .slice p.bufferA p.buffers.length p.bufferC, .slice p.portA p.ports.length p.portC] 32)).alloc (.cells #[.int .i64 0, .int .i64 0, .slice none 0 0, .slice none 0 0, .slice none 0 0, .slice none 0 0, .slice none 0 0, .slice none 0 0] 32)) ∧ Below w.heap.size w ((w.alloc (.cells #[.int .i64 p.id, .int .i64 p.next, .slice p.procA p.procs.length p.procC, .slice p.semA p.sems.length p.semC, .slice p.eventA p.events.length p.eventC, .slice p.boardA p.boards.length p.boardC, .slice p.bufferA p.buffers.length p.bufferC, .slice p.portA p.ports.length p.portC] 32)).alloc (.cells #[.int .i64 0, .int .i64 0, .slice none 0 0, .slice none 0 0, .slice none 0 0, .slice none 0 0, .slice none 0 0, .slice none 0 0] 32)) ∧ ((w.alloc (.cells #[.int .i64 p.id, .int .i64 p.next, .slice p.procA p.procs.length p.procC, .slice p.semA p.sems.length p.semC, .slice p.eventA p.events.length p.eventC, .slice p.boardA p.boards.length p.boardC, .slice p.bufferA p.buffers.length p.bufferC, .slice p.portA p.ports.length p.portC] 32)).alloc (.cells #[.int .i64 0, .int .i64 0, .slice none 0 0, .slice none 0 0, .slice none 0 0, .slice none 0 0, .slice none 0 0, .slice none 0 0] 32)).heap[w.heap.size + 1]? = some (.cells #[.int .i64 0, .int .i64 0, .slice none 0 0, .slice none 0 0, .slice none 0 0, .slice none 0 0, .slice none 0 0, .slice none 0 0] 32 (0, 0)) ∧ PartBox ((w.alloc (.cells #[.int .i64 p.id, .int .i64 p.next, .slice p.procA p.procs.length p.procC, .slice p.semA p.sems.length p.semC, .slice p.eventA p.events.length p.eventC, .slice p.boardA p.boards.length p.boardC, .slice p.bufferA p.buffers.length p.bufferC, .slice p.portA p.ports.length p.portC] 32)).alloc (.cells #[.int .i64 0, .int .i64 0, .slice none 0 0, .slice none 0 0, .slice none 0 0, .slice none 0 0, .slice none 0 0, .slice none 0 0] 32)) w.heap.size p ∧ (Lit.int .i64 id).wf = true) := by
  have b1 : Below w.heap.size w ((w.alloc (.cells #[.int .i64 p.id, .int .i64 p.next, .slice p.procA p.procs.length p.procC, .slice p.semA p.sems.length p.semC, .slice p.eventA p.events.length p.eventC, .slice p.boardA p.boards.length p.boardC, .slice p.bufferA p.buffers.length p.bufferC, .slice p.portA p.ports.length p.portC] 32)).alloc (.cells #[.int .i64 0, .int .i64 0, .slice none 0 0, .slice none 0 0, .slice none 0 0, .slice none 0 0, .slice none 0 0, .slice none 0 0] 32)) := ((Below.refl _ _).alloc (Nat.le_refl _) _).alloc (by simp) _
  exact ⟨hg.below b1, b1, heap_alloc2_new _ _ _, (heap_alloc_old _ _ (by simp)).trans (heap_alloc_new _ _), hid⟩
 clear hg hid
 obtain ⟨m0, m1, m2, m3, m4, m5, m6, m7⟩ := HB.out.2.2.2.1.cells
 unfold PartD.cells
 go_enter Tryz.func48, Tryz.ntmps48
 go_wp2_with fail
 generalize (w.alloc (.cells #[.int .i64 p.id, .int .i64 p.next, .slice p.procA p.procs.length p.procC, .slice p.semA p.sems.length p.semC, .slice p.eventA p.events.length p.eventC, .slice p.boardA p.boards.length p.boardC, .slice p.bufferA p.buffers.length p.bufferC, .slice p.portA p.ports.length p.portC] 32)).alloc (.cells #[.int .i64 0, .int .i64 0, .slice none 0 0, .slice none 0 0, .slice none 0 0, .slice none 0 0, .slice none 0 0, .slice none 0 0] 32) = W at *
 clear m0 m1 m2 m3 m4 m5 m6 m7
 refine (opened_any p W HB.out.1).mono ?_
 rintro e w1 ⟨hb1, ⟨hno, rfl⟩ | ⟨hyes, o, S, rfl, hat, hpu⟩⟩
 ·have HZ : Hid (Below w.heap.size w w1 ∧ w1.heap[w.heap.size + 1]? = some (.cells #[.int .i64 0, .int .i64 0, .slice none 0 0, .slice none 0 0, .slice none 0 0, .slice none 0 0, .slice none 0 0, .slice none 0 0] 32 (0, 0)) ∧ True) := ⟨HB.out.2.1.trans (hb1.mono HB.out.2.1.size), (hb1.block _ (Array.getElem?_eq_some_iff.1 HB.out.2.2.1).1).trans HB.out.2.2.1, trivial⟩
  have HN : Hid (startedP p.pure id = none) := turned_not (partB_false hno)
  clear hb1 hno
  go_wp2_with (refine wpList_store_row rfl 32 (Operand.tmp 4) (Operand.tmp 16) rfl (w.heap.size + 1) _ _ #[.int .i64 0, .int .i64 0, .slice none 0 0, .slice none 0 0, .slice none 0 0, .slice none 0 0, .slice none 0 0, .slice none 0 0] rfl rfl HZ.out.2.1 (by kernel_rfl) rfl (by kernel_rfl) ?_)
  refine bodyPost_ret (v := .tuple #[.agg #[.int .i64 0, .int .i64 0, .slice none 0 0, .slice none 0 0, .slice none 0 0, .slice none 0 0, .slice none 0 0, .slice none 0 0], .bool false]) (results_row_tmp Tryz.results48 _ _ (w.heap.size + 1) _ _ _ _ (by rfl) (setRow_heap _ _ _ _ _ _ HZ.out.2.1) Tryz.underlying32 rfl (by kernel_rfl)) rfl ?_
  exact turnRes_no HN.out (below_setRow HZ.out.1 (by omega) _)
 have HZ : Hid (Below w.heap.size w w1 ∧ w1.heap[w.heap.size + 1]? = some (.cells #[.int .i64 0, .int .i64 0, .slice none 0 0, .slice none 0 0, .slice none 0 0, .slice none 0 0, .slice none 0 0, .slice none 0 0] 32 (0, 0)) ∧ PartR S.pure ∧ OpenAt w1 W.heap.size o S ∧ S.pure = p.pure ∧ w.heap.size + 1 < W.heap.size ∧ W.heap.size ≤ w1.heap.size) := ⟨HB.out.2.1.trans (hb1.mono HB.out.2.1.size), (hb1.block _ (Array.getElem?_eq_some_iff.1 HB.out.2.2.1).1).trans HB.out.2.2.1, by rw [hpu]; exact hyes, hat, hpu, (Array.getElem?_eq_some_iff.1 HB.out.2.2.1).1, hb1.size⟩
 have c3 : w1.cell? ⟨o, 3, none⟩ = some (.map (some S.q.bp)) := hat.opn.cell 3
 have c1 : w1.cell? ⟨o, 1, none⟩ = some (.int .i64 S.q.next) := hat.opn.cell 1
 have hlk := hat.procs.map.look Tryz.underlying108 (zeroPtrProc w1) HB.out.2.2.2.2 true
 have hpo : p.pure.procs.find? (fun x => decide (x.id = id)) = (S.lp.find? (fun p => decide (p.1.id = id))).map (fun p => p.1.toProcP) := by rw [← hpu]; exact find_pure id S.lp
 have hnx : p.next = S.q.next := (congrArg PartP.next hpu).symm
 rw [look_find] at hlk
 simp only [if_true] at hlk
 have HNX : Hid (p.next = S.q.next) := hnx
 clear hb1 hyes hat hpu hnx
 cases hfd : S.lp.find? (fun p => decide (p.1.id = id)) with
 | none =>
  rw [hfd] at hlk hpo
  simp only [Option.map_none, ptrO, Option.isSome_none] at hlk
  have HN : Hid (startedP p.pure id = none) := turned_none hpo
  clear hfd hpo
  go_wp2_with (refine wpList_store_row rfl 32 (Operand.tmp 4) (Operand.tmp 43) rfl (w.heap.size + 1) _ _ #[.int .i64 0, .int .i64 0, .slice none 0 0, .slice none 0 0, .slice none 0 0, .slice none 0 0, .slice none 0 0, .slice none 0 0] rfl rfl HZ.out.2.1 (by kernel_rfl) rfl (by kernel_rfl) ?_)
  refine bodyPost_ret (v := .tuple #[.agg #[.int .i64 0, .int .i64 0, .slice none 0 0, .slice none 0 0, .slice none 0 0, .slice none 0 0, .slice none 0 0, .slice none 0 0], .bool false]) (results_row_tmp Tryz.results48 _ _ (w.heap.size + 1) _ _ _ _ (by rfl) (setRow_heap _ _ _ _ _ _ HZ.out.2.1) Tryz.underlying32 rfl (by kernel_rfl)) rfl ?_
  exact turnRes_no HN.out (below_setRow HZ.out.1 (by omega) _)
 | some r =>
  obtain ⟨x, g⟩ := r
  rw [hfd] at hlk hpo
  simp only [Option.map_some, ptrO, ptrV, Option.isSome_some] at hlk
  have hm : (x, g) ∈ S.lp := List.mem_of_find?_eq_some hfd
  have hxid : x.id = id := by have h7 := List.find?_some hfd; simpa using h7
  have HX : Hid ((x, g) ∈ S.lp ∧ x.id = id ∧ p.pure.procs.find? (fun x => decide (x.id = id)) = some x.toProcP) := ⟨hm, hxid, hpo⟩
  have d3 := (proc_cells (HZ.out.2.2.2.1.procs.box (x, g) hm)).2.2.2.1
  clear hfd hpo hm hxid
  by_cases hst : x.state = 0
  ·by_cases hmx : S.q.next = 1000000000
   ·have HN : Hid (startedP p.pure id = none) := turned_no HX.out.2.2 (by have e : p.pure.next = 1000000000 := HNX.out.trans hmx; simp [e])
    have e1 : (x.state != 0) = false := by simp [hst]
    have e2 : (S.q.next == 1000000000) = true := by simp [hmx]
    clear hst hmx
    go_wp2_with (refine wpList_store_row rfl 32 (Operand.tmp 4) (Operand.tmp 43) rfl (w.heap.size + 1) _ _ #[.int .i64 0, .int .i64 0, .slice none 0 0, .slice none 0 0, .slice none 0 0, .slice none 0 0, .slice none 0 0, .slice none 0 0] rfl rfl HZ.out.2.1 (by kernel_rfl) rfl (by kernel_rfl) ?_)
    refine bodyPost_ret (v := .tuple #[.agg #[.int .i64 0, .int .i64 0, .slice none 0 0, .slice none 0 0, .slice none 0 0, .slice none 0 0, .slice none 0 0, .slice none 0 0], .bool false]) (results_row_tmp Tryz.results48 _ _ (w.heap.size + 1) _ _ _ _ (by rfl) (setRow_heap _ _ _ _ _ _ HZ.out.2.1) Tryz.underlying32 rfl (by kernel_rfl)) rfl ?_
    exact turnRes_no HN.out (below_setRow HZ.out.1 (by omega) _)
   have HN : Hid (startedP p.pure id = some { p.pure with next := p.next + 1, procs := turnP id (fun y : ProcP => { y with state := 1, since := p.next }) p.pure.procs }) := turned_yes (by rw [← HZ.out.2.2.2.2.1]; exact partB_true HZ.out.2.2.1) HX.out.2.2 (by have e : x.toProcP.state = 0 := hst; have e2 : ¬ p.pure.next = 1000000000 := fun h => hmx (HNX.out.symm.trans h); simp [e, e2])
   have e1 : (x.state != 0) = false := by simp [hst]
   have e2 : (S.q.next == 1000000000) = false := by simp [hmx]
   clear hst hmx
   go_wp2_with fail
   clear c1 c3 d3 e1 e2 hlk
   have hnb : 0 ≤ S.q.next ∧ S.q.next ≤ 1000000000 := by have h6 := inB_iff.1 HZ.out.2.2.1.next; have h7 : S.pure.next = S.q.next := rfl; omega
   refine (start_any o g W.heap.size S x w1 HZ.out.2.2.2.1 HX.out.1 hnb.1 hnb.2).mono ?_
   rintro e w2 ⟨rfl, hat2, hb2⟩
   have hlt := HZ.out.2.2.2.2.2.1
   have H2 : Hid (OpenAt w2 W.heap.size o (S.turn g (startF S.q.next) (S.q.next + 1)) ∧ Below w.heap.size w w2 ∧ w2.heap[w.heap.size + 1]? = some (.cells #[.int .i64 0, .int .i64 0, .slice none 0 0, .slice none 0 0, .slice none 0 0, .slice none 0 0, .slice none 0 0, .slice none 0 0] 32 (0, 0)) ∧ W.heap.size ≤ w2.heap.size) := ⟨hat2, HZ.out.1.trans (hb2.mono (by omega)), (hb2.block _ hlt).trans HZ.out.2.1, by have := hb2.size; have := HZ.out.2.2.2.2.2.2; omega⟩
   have HF : Hid ((S.turn g (startF S.q.next) (S.q.next + 1)).Fits ∧ (S.turn g (startF S.q.next) (S.q.next + 1)).pure = { p.pure with next := p.next + 1, procs := turnP id (fun y : ProcP => { y with state := 1, since := p.next }) p.pure.procs }) := by
    refine ⟨fits_turn (open_fits HZ.out.2.2.1) fun _ => rfl, ?_⟩
    rw [OpenD.turn_pure (f' := fun y : ProcP => { y with state := 1, since := S.q.next }) HZ.out.2.2.1 (fun q hq e => HZ.out.2.2.2.1.procs.one hq HX.out.1 e) HX.out.1 (fun _ => rfl), HX.out.2.1, HZ.out.2.2.2.2.1, HNX.out]
   clear hat2 hb2 hnb
   go_wp2_with fail
   refine (toldPart_any o W.heap.size _ w2 H2.out.1 HF.out.1).mono ?_
   rintro e w3 ⟨r, rfl, ho3, hp3, hb3⟩
   have H3 : Hid (PartOwn w3 W.heap.size r ∧ Below w.heap.size w w3 ∧ w3.heap[w.heap.size + 1]? = some (.cells #[.int .i64 0, .int .i64 0, .slice none 0 0, .slice none 0 0, .slice none 0 0, .slice none 0 0, .slice none 0 0, .slice none 0 0] 32 (0, 0)) ∧ r.pure = { p.pure with next := p.next + 1, procs := turnP id (fun y : ProcP => { y with state := 1, since := p.next }) p.pure.procs }) := ⟨ho3, H2.out.2.1.trans (hb3.mono H2.out.2.1.size), (hb3.block _ (Array.getElem?_eq_some_iff.1 H2.out.2.2.1).1).trans H2.out.2.2.1, hp3.trans HF.out.2⟩
   clear ho3 hp3 hb3
   go_wp2_with (refine wpList_store_row rfl 32 (Operand.tmp 4) (Operand.tmp 48) rfl (w.heap.size + 1) _ _ (PartD.cells r) rfl rfl H3.out.2.2.1 (by kernel_rfl) rfl (by kernel_rfl) ?_)
   refine bodyPost_ret (v := .tuple #[.agg (PartD.cells r), .bool true]) (results_row_tmp Tryz.results48 _ _ (w.heap.size + 1) _ _ _ _ (by rfl) (setRow_heap _ _ _ _ _ _ H3.out.2.2.1) Tryz.underlying32 rfl (by kernel_rfl)) rfl ?_
   rw [HN.out]
   exact ⟨r, rfl, (H3.out.1.lower (by omega)).same fun b hb => setRow_other _ _ _ _ (by have := (H3.out.1.lt b hb).1; omega), H3.out.2.2.2, below_setRow H3.out.2.1 (by omega) _⟩
  ·have HN : Hid (startedP p.pure id = none) := turned_no HX.out.2.2 (by have e : ¬ x.toProcP.state = 0 := hst; simp [e])
   have e1 : (x.state != 0) = true := by simp [hst]
   clear hst
   go_wp2_with (refine wpList_store_row rfl 32 (Operand.tmp 4) (Operand.tmp 43) rfl (w.heap.size + 1) _ _ #[.int .i64 0, .int .i64 0, .slice none 0 0, .slice none 0 0, .slice none 0 0, .slice none 0 0, .slice none 0 0, .slice none 0 0] rfl rfl HZ.out.2.1 (by kernel_rfl) rfl (by kernel_rfl) ?_)
   refine bodyPost_ret (v := .tuple #[.agg #[.int .i64 0, .int .i64 0, .slice none 0 0, .slice none 0 0, .slice none 0 0, .slice none 0 0, .slice none 0 0, .slice none 0 0], .bool false]) (results_row_tmp Tryz.results48 _ _ (w.heap.size + 1) _ _ _ _ (by rfl) (setRow_heap _ _ _ _ _ _ HZ.out.2.1) Tryz.underlying32 rfl (by kernel_rfl)) rfl ?_
   exact turnRes_no HN.out (below_setRow HZ.out.1 (by omega) _)
end Go.Proofs.YtkbcplnlehdjfaaGreat

/- The exact law of Started, called at any partition: true, and nothing that was there is changed. (Made by mkexactlaw.py.) -/
namespace Go.Proofs.YtkbcplnlehdjfaaGreat
open Go.RowKit
attribute [local go_sem ↓] Go.wp_at_zero Go.wp_at_succ
set_option maxRecDepth 100000 in
set_option maxHeartbeats 8000000 in
theorem startedLaw_any (p : PartD) (id : Int) (w : World) (hb : p.Big) (hc : p.Came w) (hi : p.Ints) (hwid : (Lit.int .i64 id).wf = true) :
  Calls Tryz.prog 17 #[.agg p.cells, .int .i64 id] w fun e w' => e = .returned (.bool true) ∧ Below w.heap.size w w' := by
 have HB : Hid (p.Big ∧ p.Ints) := ⟨hb, hi⟩
 have HC : Hid (p.Came w) := hc
 have HWid : Hid ((Lit.int .i64 id).wf = true) := hwid
 have HX : Hid (SrcS p w (w.alloc (.cells #[.int .i64 p.id, .int .i64 p.next, .slice p.procA p.procs.length p.procC, .slice p.semA p.sems.length p.semC, .slice p.eventA p.events.length p.eventC, .slice p.boardA p.boards.length p.boardC, .slice p.bufferA p.buffers.length p.bufferC, .slice p.portA p.ports.length p.portC] 73))) := ⟨heap_alloc_new _ _, (Below.refl _ _).alloc (Nat.le_refl _) _⟩
 clear hb hc hi hwid
 unfold PartD.cells
 go_enter Tryz.func17, Tryz.ntmps17
 go_wp2_with fail
 generalize w.alloc (.cells #[.int .i64 p.id, .int .i64 p.next, .slice p.procA p.procs.length p.procC, .slice p.semA p.sems.length p.semC, .slice p.eventA p.events.length p.eventC, .slice p.boardA p.boards.length p.boardC, .slice p.bufferA p.buffers.length p.bufferC, .slice p.portA p.ports.length p.portC] 73) = W0 at *
 refine (szPart_l p 1048576 W0 HB.out.1 (HC.out.below HX.out.2) (by omega) (by omega)).mono ?_
 rintro e W1 ⟨r, rfl, r0, r1, hr, hb⟩
 replace HX : Hid (SrcS p w W1) := HX.out.below hb
 clear hb
 by_cases hneg : r < 0
 ·go_wp2
  go_ret
  exact ⟨rfl, HX.out.2⟩
 have HSM : Hid (p.Shorts ∧ p.pure.Small ∧ p.pure.total ≤ 1048576) := ⟨(hr (by omega)).1, small_of (hr (by omega)).1 HB.out.2, by have := (hr (by omega)).2; omega⟩
 clear hr
 obtain ⟨m0, m1, m2, m3, m4, m5, m6, m7⟩ := srcCells HX.out.1
 go_wp2_with fail
 clear m0 m1 m2 m3 m4 m5 m6 m7
 refine (toPart_l p W1 HSM.out.1 (HC.out.below HX.out.2)).mono ?_
 rintro e W2 ⟨p2, rfl, ho, hp, hb⟩
 have HQ : Hid (PartOwn W2 W1.heap.size p2 ∧ p2.pure = p.pure ∧ p2.pure.Small) := ⟨ho, hp, by rw [hp]; exact HSM.out.2.1⟩
 replace HX : Hid (SrcS p w W2) := HX.out.below hb
 clear ho hp hb
 go_wp2_with fail
 obtain ⟨ok, hok⟩ : ∃ b : Bool, (startedP p.pure id).isSome = b := ⟨_, rfl⟩
 have HOK : Hid ((startedP p.pure id).isSome = ok) := hok
 clear hok
 have dn : (ok != ok) = false := by simp
 refine (specStarted_any p2 id W2 (small_fit HQ.out.2.2) (fun x hx => (small_proc HQ.out.2.2 hx).1) HQ.out.1.at).mono ?_
 rintro e V3 hE
 rw [HQ.out.2.1] at hE
 obtain ⟨r3, rfl, ho, hp, hb⟩ := hE
 rw [HOK.out]
 have hb2 : Below W2.heap.size W2 (V3.alloc (.cells #[.int .i64 r3.id, .int .i64 r3.next, .slice r3.procA r3.procs.length r3.procC, .slice r3.semA r3.sems.length r3.semC, .slice r3.eventA r3.events.length r3.eventC, .slice r3.boardA r3.boards.length r3.boardC, .slice r3.bufferA r3.buffers.length r3.bufferC, .slice r3.portA r3.ports.length r3.portC] 32)) := hb.alloc hb.size _
 have H3 : Hid (PartIn (V3.alloc (.cells #[.int .i64 r3.id, .int .i64 r3.next, .slice r3.procA r3.procs.length r3.procC, .slice r3.semA r3.sems.length r3.semC, .slice r3.eventA r3.events.length r3.eventC, .slice r3.boardA r3.boards.length r3.boardC, .slice r3.bufferA r3.buffers.length r3.bufferC, .slice r3.portA r3.ports.length r3.portC] 32)) V3.heap.size W2.heap.size r3) := ⟨heap_alloc_new _ _, ho.below ((Below.refl _ _).alloc (Nat.le_refl _) _)⟩
 have HP3 : Hid (r3.pure = (startedP p.pure id).getD zeroPart) := hp
 have HR : Hid ((∀ g ∈ r3.blocks, w.heap.size < g ∧ g < V3.heap.size) ∧ w.heap.size < V3.heap.size) := by
  have h5 := (Array.getElem?_eq_some_iff.1 HX.out.1).1
  have h6 := hb.size
  exact ⟨fun g hg => by have := (ho.lt g hg); omega, by omega⟩
 clear ho hp HQ
 replace HX : Hid (SrcS p w (V3.alloc (.cells #[.int .i64 r3.id, .int .i64 r3.next, .slice r3.procA r3.procs.length r3.procC, .slice r3.semA r3.sems.length r3.semC, .slice r3.eventA r3.events.length r3.eventC, .slice r3.boardA r3.boards.length r3.boardC, .slice r3.bufferA r3.buffers.length r3.bufferC, .slice r3.portA r3.ports.length r3.portC] 32))) := HX.out.below hb2
 obtain ⟨m0, m1, m2, m3, m4, m5, m6, m7⟩ := srcCells HX.out.1
 unfold PartD.cells
 go_wp2_with fail
 clear m0 m1 m2 m3 m4 m5 m6 m7
 generalize V3.alloc (.cells #[.int .i64 r3.id, .int .i64 r3.next, .slice r3.procA r3.procs.length r3.procC, .slice r3.semA r3.sems.length r3.semC, .slice r3.eventA r3.events.length r3.eventC, .slice r3.boardA r3.boards.length r3.boardC, .slice r3.bufferA r3.buffers.length r3.bufferC, .slice r3.portA r3.ports.length r3.portC] 32) = W3 at *
 have hxl := H3.out.1.lt
 generalize V3.heap.size = X3 at *
 clear hb2 hb
 refine (toPart_l p W3 HSM.out.1 (HC.out.below HX.out.2)).mono ?_
 rintro e V4 ⟨p4, rfl, ho, hp, hb⟩
 have hb2 : Below W3.heap.size W3 (V4.alloc (.cells #[.int .i64 p4.id, .int .i64 p4.next, .slice p4.procA p4.procs.length p4.procC, .slice p4.semA p4.sems.length p4.semC, .slice p4.eventA p4.events.length p4.eventC, .slice p4.boardA p4.boards.length p4.boardC, .slice p4.bufferA p4.buffers.length p4.bufferC, .slice p4.portA p4.ports.length p4.portC] 32)) := hb.alloc hb.size _
 have H4 : Hid (PartIn (V4.alloc (.cells #[.int .i64 p4.id, .int .i64 p4.next, .slice p4.procA p4.procs.length p4.procC, .slice p4.semA p4.sems.length p4.semC, .slice p4.eventA p4.events.length p4.eventC, .slice p4.boardA p4.boards.length p4.boardC, .slice p4.bufferA p4.buffers.length p4.bufferC, .slice p4.portA p4.ports.length p4.portC] 32)) V4.heap.size W3.heap.size p4) := ⟨heap_alloc_new _ _, ho.below ((Below.refl _ _).alloc (Nat.le_refl _) _)⟩
 have HP4 : Hid (p4.pure = p.pure ∧ p4.pure.Small ∧ (∀ g ∈ p4.blocks, X3 < g ∧ g < V4.heap.size) ∧ X3 < V4.heap.size) := ⟨hp, by rw [hp]; exact HSM.out.2.1, fun g hg => by have := ho.lt g hg; omega, by have := hb.size; omega⟩
 unfold PartD.cells
 go_wp2_with fail
 generalize V4.alloc (.cells #[.int .i64 p4.id, .int .i64 p4.next, .slice p4.procA p4.procs.length p4.procC, .slice p4.semA p4.sems.length p4.semC, .slice p4.eventA p4.events.length p4.eventC, .slice p4.boardA p4.boards.length p4.boardC, .slice p4.bufferA p4.buffers.length p4.bufferC, .slice p4.portA p4.ports.length p4.portC] 32) = W4 at *
 have hxl4 := H4.out.1.lt
 generalize V4.heap.size = X4 at *
 replace HX : Hid (SrcS p w W4) := HX.out.below hb2
 replace H3 : Hid (PartIn W4 X3 W2.heap.size r3) := H3.out.below hb2
 clear hb2 hb ho hp hxl
 refine (implStarted_any p4 id W4 HWid.out (small_good HP4.out.2.1 H4.out.2)).mono ?_
 rintro e V5 hE
 rw [HP4.out.1] at hE
 obtain ⟨r5, rfl, ho, hp, hb⟩ := hE
 rw [HOK.out]
 have hb2 : Below W4.heap.size W4 (V5.alloc (.cells #[.int .i64 r5.id, .int .i64 r5.next, .slice r5.procA r5.procs.length r5.procC, .slice r5.semA r5.sems.length r5.semC, .slice r5.eventA r5.events.length r5.eventC, .slice r5.boardA r5.boards.length r5.boardC, .slice r5.bufferA r5.buffers.length r5.bufferC, .slice r5.portA r5.ports.length r5.portC] 32)) := hb.alloc hb.size _
 have H5 : Hid (PartIn (V5.alloc (.cells #[.int .i64 r5.id, .int .i64 r5.next, .slice r5.procA r5.procs.length r5.procC, .slice r5.semA r5.sems.length r5.semC, .slice r5.eventA r5.events.length r5.eventC, .slice r5.boardA r5.boards.length r5.boardC, .slice r5.bufferA r5.buffers.length r5.bufferC, .slice r5.portA r5.ports.length r5.portC] 32)) V5.heap.size W4.heap.size r5) := ⟨heap_alloc_new _ _, ho.below ((Below.refl _ _).alloc (Nat.le_refl _) _)⟩
 have HP5 : Hid (r5.pure = (startedP p.pure id).getD zeroPart ∧ (∀ g ∈ r5.blocks, X4 < g ∧ g < V5.heap.size) ∧ X4 < V5.heap.size) := ⟨hp, fun g hg => by have := (ho.lt g hg); omega, by have := hb.size; omega⟩
 clear ho hp
 replace HX : Hid (SrcS p w (V5.alloc (.cells #[.int .i64 r5.id, .int .i64 r5.next, .slice r5.procA r5.procs.length r5.procC, .slice r5.semA r5.sems.length r5.semC, .slice r5.eventA r5.events.length r5.eventC, .slice r5.boardA r5.boards.length r5.boardC, .slice r5.bufferA r5.buffers.length r5.bufferC, .slice r5.portA r5.ports.length r5.portC] 32))) := HX.out.below hb2
 replace H3 : Hid (PartIn (V5.alloc (.cells #[.int .i64 r5.id, .int .i64 r5.next, .slice r5.procA r5.procs.length r5.procC, .slice r5.semA r5.sems.length r5.semC, .slice r5.eventA r5.events.length r5.eventC, .slice r5.boardA r5.boards.length r5.boardC, .slice r5.bufferA r5.buffers.length r5.bufferC, .slice r5.portA r5.ports.length r5.portC] 32)) X3 W2.heap.size r3) := H3.out.below hb2
 replace H4 : Hid (PartIn (V5.alloc (.cells #[.int .i64 r5.id, .int .i64 r5.next, .slice r5.procA r5.procs.length r5.procC, .slice r5.semA r5.sems.length r5.semC, .slice r5.eventA r5.events.length r5.eventC, .slice r5.boardA r5.boards.length r5.boardC, .slice r5.bufferA r5.buffers.length r5.bufferC, .slice r5.portA r5.ports.length r5.portC] 32)) X4 W3.heap.size p4) := H4.out.below hb2
 obtain ⟨v0, v1, v2, v3, v4, v5, v6, v7⟩ := H3.out.1.cells
 unfold PartD.cells
 go_wp2_with fail
 clear v0 v1 v2 v3 v4 v5 v6 v7
 generalize V5.alloc (.cells #[.int .i64 r5.id, .int .i64 r5.next, .slice r5.procA r5.procs.length r5.procC, .slice r5.semA r5.sems.length r5.semC, .slice r5.eventA r5.events.length r5.eventC, .slice r5.boardA r5.boards.length r5.boardC, .slice r5.bufferA r5.buffers.length r5.bufferC, .slice r5.portA r5.ports.length r5.portC] 32) = W5 at *
 generalize V5.heap.size = X5 at *
 clear hb2 hb hxl4
 have HE : Hid (r3.pure = r5.pure) := HP3.out.trans HP5.out.1.symm
 have HL : Hid (r5.pure.Small) := by rw [HP5.out.1]; exact (turned_small HSM.out.2.1 (fun hp y _ hs => ⟨hs.1, hs.2.1, hs.2.2.1, wf_next hp⟩))
 refine (eqPart_l r5 r3 W5 HL.out HE.out H5.out.2.at H3.out.2.at).mono ?_
 rintro e W6 ⟨rfl, hb⟩
 replace HX : Hid (SrcS p w W6) := HX.out.below hb
 replace H3 : Hid (PartIn W6 X3 W2.heap.size r3) := H3.out.below hb
 replace H4 : Hid (PartIn W6 X4 W3.heap.size p4) := H4.out.below hb
 replace H5 : Hid (PartIn W6 X5 W4.heap.size r5) := H5.out.below hb
 clear hb
 go_wp2_with fail
 have HS : Hid (PartBox W6 X4 p4 ∧ W6.heap[w.heap.size]? = some (.cells p.cells 73 (0, 0))) := ⟨H4.out.1, HX.out.1⟩
 refine wp_region_held_drew (S := fun w' => PartBox w' X4 p4 ∧ w'.heap[w.heap.size]? = some (.cells p.cells 73 (0, 0))) (by kernel_rfl) HS.out (fun hHeld => ?_)
 refine wpAnyH_take (i := 0) (v := .agg #[.int .i64 p4.id, .int .i64 p4.next, .slice p4.procA p4.procs.length p4.procC, .slice p4.semA p4.sems.length p4.semC, .slice p4.eventA p4.events.length p4.eventC, .slice p4.boardA p4.boards.length p4.boardC, .slice p4.bufferA p4.buffers.length p4.bufferC, .slice p4.portA p4.ports.length p4.portC]) rfl (by kernel_rfl) (by kernel_rfl) (by kernel_rfl) (fun _ _ _ h => h) (yieldsIf_row (by rfl) 32 _ rfl X4 (by rfl) 32 _ _ (fun _ h => h.1) Tryz.underlying32 rfl (by kernel_rfl)) hHeld ?_
 simp only [List.getElem_toArray, List.getElem_cons_zero, Act.put, List.setIfInBounds_toArray, List.set_cons_zero, List.set_cons_succ]
 refine wpAnyH_take (i := 1) (v := .agg #[.int .i64 p.id, .int .i64 p.next, .slice p.procA p.procs.length p.procC, .slice p.semA p.sems.length p.semC, .slice p.eventA p.events.length p.eventC, .slice p.boardA p.boards.length p.boardC, .slice p.bufferA p.buffers.length p.bufferC, .slice p.portA p.ports.length p.portC]) rfl (by kernel_rfl) (by kernel_rfl) (by kernel_rfl) (fun _ _ _ h => h) (yieldsIf_row (by rfl) 73 _ rfl w.heap.size (by rfl) 73 _ _ (fun _ h => h.2) Tryz.underlying73 rfl (by kernel_rfl)) hHeld ?_
 simp only [List.getElem_toArray, List.getElem_cons_zero, List.getElem_cons_succ, Act.put, List.setIfInBounds_toArray, List.set_cons_zero, List.set_cons_succ]
 refine wpAnyH_ready (rs := [2]) (by kernel_rfl) (by simp) ?_
 refine AllReadyH.cons rfl (fun K hK => ?_) AllReadyH.nil
 simp only [List.getElem_toArray, List.getElem_cons_zero, List.getElem_cons_succ]
 rw [if_pos (by rfl)]
 go_wp2_with fail
 refine (toPart_l p W6.drew HSM.out.1 (HC.out.below HX.out.2.drew)).mono ?_
 rintro e W7 ⟨p6, rfl, ho, hp, hb2⟩
 have hb : Below W6.heap.size W6 W7 := below_undrew' hb2
 have H7 : Hid (PartD.At W7 p6 ∧ p6.pure = p4.pure) := ⟨ho.at, by rw [hp, HP4.out.1]⟩
 replace HX : Hid (SrcS p w W7) := HX.out.below hb
 replace H3 : Hid (PartIn W7 X3 W2.heap.size r3) := H3.out.below hb
 replace H4 : Hid (PartIn W7 X4 W3.heap.size p4) := H4.out.below hb
 replace H5 : Hid (PartIn W7 X5 W4.heap.size r5) := H5.out.below hb
 clear hb hb2 ho hp HS hHeld
 refine hK.out _ _ ⟨H4.out.1, HX.out.1⟩ (fun hHeld => ?_)
 clear hK K
 try simp only [List.getElem_toArray, List.getElem_cons_zero, List.getElem_cons_succ, Act.put, List.setIfInBounds_toArray, List.set_cons_zero, List.set_cons_succ]
 refine wpAnyH_ready (rs := [3]) (by kernel_rfl) (by simp) ?_
 refine AllReadyH.cons rfl (fun K hK => ?_) AllReadyH.nil
 simp only [List.getElem_toArray, List.getElem_cons_zero, List.getElem_cons_succ]
 rw [if_pos (by rfl)]
 go_wp2_with fail
 refine (eqPart_l p4 p6 W7 HP4.out.2.1 H7.out.2 H4.out.2.at H7.out.1).mono ?_
 rintro e W8 ⟨rfl, hb⟩
 replace HX : Hid (SrcS p w W8) := HX.out.below hb
 replace H3 : Hid (PartIn W8 X3 W2.heap.size r3) := H3.out.below hb
 replace H4 : Hid (PartIn W8 X4 W3.heap.size p4) := H4.out.below hb
 replace H5 : Hid (PartIn W8 X5 W4.heap.size r5) := H5.out.below hb
 clear hb H7
 refine hK.out _ _ ⟨H4.out.1, HX.out.1⟩ (fun hHeld => ?_)
 clear hK K
 try simp only [List.getElem_toArray, List.getElem_cons_zero, List.getElem_cons_succ, Act.put, List.setIfInBounds_toArray, List.set_cons_zero, List.set_cons_succ]
 refine wpAnyH_take (i := 4) (v := .bool false) rfl (by kernel_rfl) (by kernel_rfl) (by kernel_rfl) (fun _ _ _ h => h) (Or.inl ⟨by rfl, fun _ _ => rfl⟩) ⟨H4.out.1, HX.out.1⟩ ?_
 simp only [List.getElem_toArray, List.getElem_cons_zero, List.getElem_cons_succ, Act.put, List.setIfInBounds_toArray, List.set_cons_zero, List.set_cons_succ]
 refine wpAnyH_done (by kernel_rfl) ?_ _
 clear hHeld
 obtain ⟨b0, b1, b2, b3, b4, b5, b6, b7⟩ := H4.out.1.cells
 have HCT : Hid (1 + (cntPart p4 : Nat) ≤ (90000000 : Int)) := by have h5 := cnt_part p4; rw [HP4.out.1] at h5; have h6 := HSM.out.2.2; show (1 : Int) + _ ≤ _; omega
 go_wp2_with fail
 clear b0 b1 b2 b3 b4 b5 b6 b7
 refine (markPart_l p4 1 W8 W3.heap.size (small_cnt HP4.out.2.1) (by omega) HCT.out H4.out.2).mono ?_
 rintro e W9 ⟨rfl, -, hkb⟩
 have hrw := HR.out
 have hr4 := HP4.out.2.2
 have hr5 := HP5.out.2
 replace HX : Hid (SrcS p w W9) := HX.out.kept hkb fun g hg => by have := hr4.1 g hg; omega
 replace H3 : Hid (PartIn W9 X3 W2.heap.size r3) := H3.out.kept hkb (fun hm => by have := hr4.1 _ hm; omega) (fun g hg hm => by have := hr4.1 g hm; have := hrw.1 g hg; omega)
 replace H5 : Hid (PartIn W9 X5 W4.heap.size r5) := H5.out.kept hkb (fun hm => by have := hr4.1 _ hm; omega) (fun g hg hm => by have := hr4.1 g hm; have := hr5.1 g hg; omega)
 clear H4 hkb hrw hr4 hr5
 have nn : decide ((1 : Int) + (cntPart p4 : Nat) < 0) = false := decide_eq_false (by omega)
 obtain ⟨u0, u1, u2, u3, u4, u5, u6, u7⟩ := H5.out.1.cells
 obtain ⟨v0, v1, v2, v3, v4, v5, v6, v7⟩ := H3.out.1.cells
 go_wp2_with fail
 clear u0 u1 u2 u3 u4 u5 u6 u7
 clear v0 v1 v2 v3 v4 v5 v6 v7
 clear nn
 refine (eqPart_l r5 r3 W9 HL.out HE.out H5.out.2.at H3.out.2.at).mono ?_
 rintro e W10 ⟨rfl, hb⟩
 replace HX : Hid (SrcS p w W10) := HX.out.below hb
 replace H3 : Hid (PartIn W10 X3 W2.heap.size r3) := H3.out.below hb
 replace H5 : Hid (PartIn W10 X5 W4.heap.size r5) := H5.out.below hb
 clear hb
 obtain ⟨u0, u1, u2, u3, u4, u5, u6, u7⟩ := H5.out.1.cells
 go_wp2_with fail
 clear u0 u1 u2 u3 u4 u5 u6 u7
 have HCR : Hid (1 + (cntPart r5 : Nat) ≤ (90000000 : Int)) := by have h5 := cnt_part r5; rw [HP5.out.1] at h5; have h6 : ((startedP p.pure id).getD zeroPart).total ≤ 1048576 := Nat.le_trans (turned_total (fun _ => rfl)) HSM.out.2.2; show (1 : Int) + _ ≤ _; omega
 refine (markPart_l r5 1 W10 W4.heap.size (small_cnt HL.out) (by omega) HCR.out H5.out.2).mono ?_
 rintro e W11 ⟨rfl, hmk, hkb⟩
 have hrw := HR.out
 have hr4 := HP4.out.2.2
 have hr5 := HP5.out.2
 replace HX : Hid (SrcS p w W11) := HX.out.kept hkb fun g hg => by have := hr5.1 g hg; omega
 replace H3 : Hid (PartIn W11 X3 W2.heap.size r3) := H3.out.kept hkb (fun hm => by have := hr5.1 _ hm; omega) (fun g hg hm => by have := hr5.1 g hm; have := hrw.1 g hg; omega)
 have HB5 : Hid (PartBox W11 X5 r5) := (hkb.same _ H5.out.1.lt fun hm => by have := hr5.1 _ hm; omega).trans H5.out.1
 have HM : Hid (PartOwn W11 W4.heap.size (mkPart 1 r5)) := hmk
 clear H5 hkb hmk hrw hr4 hr5
 obtain ⟨u0, u1, u2, u3, u4, u5, u6, u7⟩ := HB5.out.cells
 go_wp2_with fail
 clear u0 u1 u2 u3 u4 u5 u6 u7
 refine (heldPart_l r5 1 W11 (small_cnt HL.out) (by omega) HCR.out HM.out.at).mono ?_
 rintro e W12 ⟨rfl, hb⟩
 replace HX : Hid (SrcS p w W12) := HX.out.below hb
 replace H3 : Hid (PartIn W12 X3 W2.heap.size r3) := H3.out.below hb
 replace HB5 : Hid (PartBox W12 X5 r5) := HB5.out.below hb
 replace HM : Hid (PartOwn W12 W4.heap.size (mkPart 1 r5)) := HM.out.below hb
 clear hb
 have nq : ¬ (1 : Int) + (cntPart r5 : Nat) < 0 := by omega
 have nd : ((1 : Int) + (cntPart r5 : Nat) != 1 + (cntPart r5 : Nat)) = false := by simp
 obtain ⟨m0, m1, m2, m3, m4, m5, m6, m7⟩ := srcCells HX.out.1
 go_wp2_with fail
 clear m0 m1 m2 m3 m4 m5 m6 m7
 refine (toPart_l p W12 HSM.out.1 (HC.out.below HX.out.2)).mono ?_
 rintro e W13 ⟨p13, rfl, ho, hp, hb⟩
 have HQ : Hid (PartOwn W13 W12.heap.size p13 ∧ p13.pure = p.pure ∧ p13.pure.Small) := ⟨ho, hp, by rw [hp]; exact HSM.out.2.1⟩
 replace HX : Hid (SrcS p w W13) := HX.out.below hb
 replace H3 : Hid (PartIn W13 X3 W2.heap.size r3) := H3.out.below hb
 replace HB5 : Hid (PartBox W13 X5 r5) := HB5.out.below hb
 replace HM : Hid (PartOwn W13 W4.heap.size (mkPart 1 r5)) := HM.out.below hb
 clear ho hp hb
 go_wp2_with fail
 refine (implStarted_any p13 id W13 HWid.out (small_good HQ.out.2.2 HQ.out.1)).mono ?_
 rintro e V14 hE
 rw [HQ.out.2.1] at hE
 obtain ⟨r14, rfl, ho, hp14, hb⟩ := hE
 rw [HOK.out]
 have hb2 : Below W13.heap.size W13 (V14.alloc (.cells #[.int .i64 r14.id, .int .i64 r14.next, .slice r14.procA r14.procs.length r14.procC, .slice r14.semA r14.sems.length r14.semC, .slice r14.eventA r14.events.length r14.eventC, .slice r14.boardA r14.boards.length r14.boardC, .slice r14.bufferA r14.buffers.length r14.bufferC, .slice r14.portA r14.ports.length r14.portC] 32)) := hb.alloc hb.size _
 have H14 : Hid (PartIn (V14.alloc (.cells #[.int .i64 r14.id, .int .i64 r14.next, .slice r14.procA r14.procs.length r14.procC, .slice r14.semA r14.sems.length r14.semC, .slice r14.eventA r14.events.length r14.eventC, .slice r14.boardA r14.boards.length r14.boardC, .slice r14.bufferA r14.buffers.length r14.bufferC, .slice r14.portA r14.ports.length r14.portC] 32)) V14.heap.size W13.heap.size r14) := ⟨heap_alloc_new _ _, ho.below ((Below.refl _ _).alloc (Nat.le_refl _) _)⟩
 have HE14 : Hid (r3.pure = r14.pure) := HP3.out.trans hp14.symm
 have HL14 : Hid (r14.pure.Small) := by rw [hp14]; exact (turned_small HSM.out.2.1 (fun hp y _ hs => ⟨hs.1, hs.2.1, hs.2.2.1, wf_next hp⟩))
 clear ho hp14 HQ
 replace HX : Hid (SrcS p w (V14.alloc (.cells #[.int .i64 r14.id, .int .i64 r14.next, .slice r14.procA r14.procs.length r14.procC, .slice r14.semA r14.sems.length r14.semC, .slice r14.eventA r14.events.length r14.eventC, .slice r14.boardA r14.boards.length r14.boardC, .slice r14.bufferA r14.buffers.length r14.bufferC, .slice r14.portA r14.ports.length r14.portC] 32))) := HX.out.below hb2
 replace H3 : Hid (PartIn (V14.alloc (.cells #[.int .i64 r14.id, .int .i64 r14.next, .slice r14.procA r14.procs.length r14.procC, .slice r14.semA r14.sems.length r14.semC, .slice r14.eventA r14.events.length r14.eventC, .slice r14.boardA r14.boards.length r14.boardC, .slice r14.bufferA r14.buffers.length r14.bufferC, .slice r14.portA r14.ports.length r14.portC] 32)) X3 W2.heap.size r3) := H3.out.below hb2
 replace HB5 : Hid (PartBox (V14.alloc (.cells #[.int .i64 r14.id, .int .i64 r14.next, .slice r14.procA r14.procs.length r14.procC, .slice r14.semA r14.sems.length r14.semC, .slice r14.eventA r14.events.length r14.eventC, .slice r14.boardA r14.boards.length r14.boardC, .slice r14.bufferA r14.buffers.length r14.bufferC, .slice r14.portA r14.ports.length r14.portC] 32)) X5 r5) := HB5.out.below hb2
 replace HM : Hid (PartOwn (V14.alloc (.cells #[.int .i64 r14.id, .int .i64 r14.next, .slice r14.procA r14.procs.length r14.procC, .slice r14.semA r14.sems.length r14.semC, .slice r14.eventA r14.events.length r14.eventC, .slice r14.boardA r14.boards.length r14.boardC, .slice r14.bufferA r14.buffers.length r14.bufferC, .slice r14.portA r14.ports.length r14.portC] 32)) W4.heap.size (mkPart 1 r5)) := HM.out.below hb2
 obtain ⟨v0, v1, v2, v3, v4, v5, v6, v7⟩ := H3.out.1.cells
 unfold PartD.cells
 go_wp2_with fail
 clear v0 v1 v2 v3 v4 v5 v6 v7
 generalize V14.alloc (.cells #[.int .i64 r14.id, .int .i64 r14.next, .slice r14.procA r14.procs.length r14.procC, .slice r14.semA r14.sems.length r14.semC, .slice r14.eventA r14.events.length r14.eventC, .slice r14.boardA r14.boards.length r14.boardC, .slice r14.bufferA r14.buffers.length r14.bufferC, .slice r14.portA r14.ports.length r14.portC] 32) = W14 at *
 generalize V14.heap.size = X14 at *
 clear hb2 hb
 refine (eqPart_l r14 r3 W14 HL14.out HE14.out H14.out.2.at H3.out.2.at).mono ?_
 rintro e W15 ⟨rfl, hb⟩
 replace HX : Hid (SrcS p w W15) := HX.out.below hb
 replace H3 : Hid (PartIn W15 X3 W2.heap.size r3) := H3.out.below hb
 replace HB5 : Hid (PartBox W15 X5 r5) := HB5.out.below hb
 replace HM : Hid (PartOwn W15 W4.heap.size (mkPart 1 r5)) := HM.out.below hb
 clear hb
 obtain ⟨u0, u1, u2, u3, u4, u5, u6, u7⟩ := HB5.out.cells
 go_wp2_with fail
 clear u0 u1 u2 u3 u4 u5 u6 u7
 refine (heldPart_l r5 1 W15 (small_cnt HL.out) (by omega) HCR.out HM.out.at).mono ?_
 rintro e W16 ⟨rfl, hb⟩
 replace HX : Hid (SrcS p w W16) := HX.out.below hb
 replace H3 : Hid (PartIn W16 X3 W2.heap.size r3) := H3.out.below hb
 replace HB5 : Hid (PartBox W16 X5 r5) := HB5.out.below hb
 replace HM : Hid (PartOwn W16 W4.heap.size (mkPart 1 r5)) := HM.out.below hb
 clear hb
 go_wp2
 go_ret
 exact ⟨rfl, HX.out.2⟩
end Go.Proofs.YtkbcplnlehdjfaaGreat
