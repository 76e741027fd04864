/- What the proof leans on, part 0: StartedS, StartedI, StartedLaw. -/
import Derived.Test.YtkbcplnlehdjfaaGreatOwnQ0
import Derived.Test.YtkbcplnlehdjfaaGreatOwnQ1
import Derived.Test.YtkbcplnlehdjfaaGreatOwnQ2
import Derived.Test.YtkbcplnlehdjfaaGreatOwnQ3
import Derived.Test.YtkbcplnlehdjfaaGreatOwnQ4
import Derived.Test.YtkbcplnlehdjfaaGreatOwnQ5
import Derived.Test.YtkbcplnlehdjfaaGreatOwnQ6

namespace Go.Proofs.YtkbcplnlehdjfaaGreat
open Go.RowKit Go.Maps
attribute [local go_sem ↓] Go.wp_at_zero Go.wp_at_succ

/-- A process that is started. -/
def startedP (p : PartP) (id : Int) : Option PartP := turnedP p id (fun y => decide (y.state = 0) && !decide (p.next = 1000000000)) (fun y => { y with state := 1, since := p.next }) (p.next + 1)

set_option maxRecDepth 100000 in
set_option maxHeartbeats 4000000 in
theorem l4Place_any (q : PartD) (n base : Nat) (x : ProcD) (w : World) (h : PartOwn w base q) (hb : base ≤ w.heap.size) (hx : q.procs[n]? = some x) (hn : 0 ≤ q.next ∧ q.next ≤ 1000000000) :
  Calls Tryz.prog 98 #[.agg q.cells, .int .i64 n] w fun e w' => ∃ q2 : PartD, e = .returned (.agg q2.cells) ∧ q2 = { q with next := q.next + 1, procs := q.procs.set n { x with since := q.next } } ∧ PartOwn w' base q2 ∧ Below base w w' := by
 obtain ⟨gs, ha, hat⟩ := proc_at h.at.1 hx
 have hb1 : Below w.heap.size w ((w.alloc (.cells #[.int .i64 q.id, .int .i64 q.next, .slice (some ⟨gs, 0, none⟩) q.procs.length q.procC, .slice q.semA q.sems.length q.semC, .slice q.eventA q.events.length q.eventC, .slice q.boardA q.boards.length q.boardC, .slice q.bufferA q.buffers.length q.bufferC, .slice q.portA q.ports.length q.portC] 32)).alloc (.cells #[.int .i64 0, .int .i64 0, .slice none 0 0, .slice none 0 0, .slice none 0 0, .slice none 0 0, .slice none 0 0, .slice none 0 0] 32)) := ((Below.refl _ _).alloc (Nat.le_refl _) _).alloc (by simp) _
 have hnl : n < q.procs.length := (List.getElem?_eq_some_iff.1 hx).1
 have HB : Hid (PartBox ((w.alloc (.cells #[.int .i64 q.id, .int .i64 q.next, .slice (some ⟨gs, 0, none⟩) q.procs.length q.procC, .slice q.semA q.sems.length q.semC, .slice q.eventA q.events.length q.eventC, .slice q.boardA q.boards.length q.boardC, .slice q.bufferA q.buffers.length q.bufferC, .slice q.portA q.ports.length q.portC] 32)).alloc (.cells #[.int .i64 0, .int .i64 0, .slice none 0 0, .slice none 0 0, .slice none 0 0, .slice none 0 0, .slice none 0 0, .slice none 0 0] 32)) w.heap.size q ∧ PartOwn ((w.alloc (.cells #[.int .i64 q.id, .int .i64 q.next, .slice (some ⟨gs, 0, none⟩) q.procs.length q.procC, .slice q.semA q.sems.length q.semC, .slice q.eventA q.events.length q.eventC, .slice q.boardA q.boards.length q.boardC, .slice q.bufferA q.buffers.length q.bufferC, .slice q.portA q.ports.length q.portC] 32)).alloc (.cells #[.int .i64 0, .int .i64 0, .slice none 0 0, .slice none 0 0, .slice none 0 0, .slice none 0 0, .slice none 0 0, .slice none 0 0] 32)) base q ∧ Below w.heap.size w ((w.alloc (.cells #[.int .i64 q.id, .int .i64 q.next, .slice (some ⟨gs, 0, none⟩) q.procs.length q.procC, .slice q.semA q.sems.length q.semC, .slice q.eventA q.events.length q.eventC, .slice q.boardA q.boards.length q.boardC, .slice q.bufferA q.buffers.length q.bufferC, .slice q.portA q.ports.length q.portC] 32)).alloc (.cells #[.int .i64 0, .int .i64 0, .slice none 0 0, .slice none 0 0, .slice none 0 0, .slice none 0 0, .slice none 0 0, .slice none 0 0] 32)) ∧ ((w.alloc (.cells #[.int .i64 q.id, .int .i64 q.next, .slice (some ⟨gs, 0, none⟩) q.procs.length q.procC, .slice q.semA q.sems.length q.semC, .slice q.eventA q.events.length q.eventC, .slice q.boardA q.boards.length q.boardC, .slice q.bufferA q.buffers.length q.bufferC, .slice q.portA q.ports.length q.portC] 32)).alloc (.cells #[.int .i64 0, .int .i64 0, .slice none 0 0, .slice none 0 0, .slice none 0 0, .slice none 0 0, .slice none 0 0, .slice none 0 0] 32)).heap[w.heap.size + 1]? = some (.cells #[.int .i64 0, .int .i64 0, .slice none 0 0, .slice none 0 0, .slice none 0 0, .slice none 0 0, .slice none 0 0, .slice none 0 0] 32 (0, 0)) ∧ q.procs[n]? = some x ∧ q.procA = some ⟨gs, 0, none⟩ ∧ base ≤ w.heap.size ∧ gs < w.heap.size ∧ base ≤ gs) := by
  have h5 := own_lt h.procs (g := gs) (by rw [ha]; simp [blk])
  exact ⟨by unfold PartBox; rw [ha]; exact (heap_alloc_old _ _ (by simp)).trans (heap_alloc_new _ _), h.below hb1, hb1, heap_alloc2_new _ _ _, hx, ha, hb, h5.2, h5.1⟩
 obtain ⟨m0, m1, m2, m3, m4, m5, m6, m7⟩ := HB.out.1.cells
 rw [ha] at m2
 obtain ⟨⟨u, c11⟩, f11⟩ : (∃ u, ((w.alloc (.cells #[.int .i64 q.id, .int .i64 q.next, .slice (some ⟨gs, 0, none⟩) q.procs.length q.procC, .slice q.semA q.sems.length q.semC, .slice q.eventA q.events.length q.eventC, .slice q.boardA q.boards.length q.boardC, .slice q.bufferA q.buffers.length q.bufferC, .slice q.portA q.ports.length q.portC] 32)).alloc (.cells #[.int .i64 0, .int .i64 0, .slice none 0 0, .slice none 0 0, .slice none 0 0, .slice none 0 0, .slice none 0 0, .slice none 0 0] 32)).cell? ⟨gs, n * 12 + 11, none⟩ = some u) ∧ ((w.alloc (.cells #[.int .i64 q.id, .int .i64 q.next, .slice (some ⟨gs, 0, none⟩) q.procs.length q.procC, .slice q.semA q.sems.length q.semC, .slice q.eventA q.events.length q.eventC, .slice q.boardA q.boards.length q.boardC, .slice q.bufferA q.buffers.length q.bufferC, .slice q.portA q.ports.length q.portC] 32)).alloc (.cells #[.int .i64 0, .int .i64 0, .slice none 0 0, .slice none 0 0, .slice none 0 0, .slice none 0 0, .slice none 0 0, .slice none 0 0] 32)).frozen? ⟨gs, n * 12 + 11, none⟩ = false := by
  obtain ⟨g, hg, hrow⟩ := RowAt.of_owns (K := procK) HB.out.2.1.procs (by omega)
  rw [ha] at hg
  cases hg
  exact ⟨⟨_, (hrow.cell hx (r := 11) (by decide)).1⟩, (hrow.cell hx (r := 11) (by decide)).2⟩
 have j0 : (0 : Int) ≤ (n : Int) := by omega
 have j1 : (n : Int) < (q.procs.length : Int) := by omega
 obtain ⟨hn0, hn1⟩ := hn
 have h5 := HB.out.2.1.setProc (n := n) (j := 11) (x := x) (y := { x with since := q.next }) (vs := [.int .i64 q.next]) hx ha ⟨rfl, rfl, rfl⟩ (by show 11 + 1 ≤ 12; omega) (fun r hr => by match r, hr with | 0, _ => rfl) (fun r hr hn => by match r, hr, hn with | 0, _, _ => rfl | 1, _, _ => rfl | 2, _, _ => rfl | 3, _, _ => rfl | 4, _, _ => rfl | 5, _, _ => rfl | 6, _, _ => rfl | 7, _, _ => rfl | 8, _, _ => rfl | 9, _, _ => rfl | 10, _, _ => rfl | 11, _, hn => exact absurd ⟨by omega, by show 11 < 11 + 1; omega⟩ hn)
 simp only [setAllW] at h5
 have HS : Hid (PartOwn (((w.alloc (.cells #[.int .i64 q.id, .int .i64 q.next, .slice (some ⟨gs, 0, none⟩) q.procs.length q.procC, .slice q.semA q.sems.length q.semC, .slice q.eventA q.events.length q.eventC, .slice q.boardA q.boards.length q.boardC, .slice q.bufferA q.buffers.length q.bufferC, .slice q.portA q.ports.length q.portC] 32)).alloc (.cells #[.int .i64 0, .int .i64 0, .slice none 0 0, .slice none 0 0, .slice none 0 0, .slice none 0 0, .slice none 0 0, .slice none 0 0] 32)).setCell ⟨gs, n * 12 + 11, none⟩ (.int .i64 q.next)) base ({ q with procs := q.procs.set n { x with since := q.next } } : PartD) ∧ Below base w (((w.alloc (.cells #[.int .i64 q.id, .int .i64 q.next, .slice (some ⟨gs, 0, none⟩) q.procs.length q.procC, .slice q.semA q.sems.length q.semC, .slice q.eventA q.events.length q.eventC, .slice q.boardA q.boards.length q.boardC, .slice q.bufferA q.buffers.length q.bufferC, .slice q.portA q.ports.length q.portC] 32)).alloc (.cells #[.int .i64 0, .int .i64 0, .slice none 0 0, .slice none 0 0, .slice none 0 0, .slice none 0 0, .slice none 0 0, .slice none 0 0] 32)).setCell ⟨gs, n * 12 + 11, none⟩ (.int .i64 q.next)) ∧ PartBox (((w.alloc (.cells #[.int .i64 q.id, .int .i64 q.next, .slice (some ⟨gs, 0, none⟩) q.procs.length q.procC, .slice q.semA q.sems.length q.semC, .slice q.eventA q.events.length q.eventC, .slice q.boardA q.boards.length q.boardC, .slice q.bufferA q.buffers.length q.bufferC, .slice q.portA q.ports.length q.portC] 32)).alloc (.cells #[.int .i64 0, .int .i64 0, .slice none 0 0, .slice none 0 0, .slice none 0 0, .slice none 0 0, .slice none 0 0, .slice none 0 0] 32)).setCell ⟨gs, n * 12 + 11, none⟩ (.int .i64 q.next)) w.heap.size q ∧ (((w.alloc (.cells #[.int .i64 q.id, .int .i64 q.next, .slice (some ⟨gs, 0, none⟩) q.procs.length q.procC, .slice q.semA q.sems.length q.semC, .slice q.eventA q.events.length q.eventC, .slice q.boardA q.boards.length q.boardC, .slice q.bufferA q.buffers.length q.bufferC, .slice q.portA q.ports.length q.portC] 32)).alloc (.cells #[.int .i64 0, .int .i64 0, .slice none 0 0, .slice none 0 0, .slice none 0 0, .slice none 0 0, .slice none 0 0, .slice none 0 0] 32)).setCell ⟨gs, n * 12 + 11, none⟩ (.int .i64 q.next)).heap[w.heap.size + 1]? = some (.cells #[.int .i64 0, .int .i64 0, .slice none 0 0, .slice none 0 0, .slice none 0 0, .slice none 0 0, .slice none 0 0, .slice none 0 0] 32 (0, 0))) := by
  have hg := HB.out.2.2.2.2.2.2
  refine ⟨h5.1, (hb1.mono hb).trans (h5.2.1.below (by have := hb1.size; omega) (by simp; omega)), (setCell_other (by omega)).trans HB.out.1, (setCell_other (by omega)).trans HB.out.2.2.2.1⟩
 have hq8 : (PartD.cells q) = #[.int .i64 q.id, .int .i64 q.next, .slice (some ⟨gs, 0, none⟩) q.procs.length q.procC, .slice q.semA q.sems.length q.semC, .slice q.eventA q.events.length q.eventC, .slice q.boardA q.boards.length q.boardC, .slice q.bufferA q.buffers.length q.bufferC, .slice q.portA q.ports.length q.portC] := by unfold PartD.cells; rw [ha]
 rw [hq8]
 have hbks := h5.2.2
 have hlt0 : ∀ g ∈ q.blocks, g < w.heap.size := fun g hg => (h.lt g hg).2
 have HBK : Hid (∀ g ∈ ({ q with procs := q.procs.set n { x with since := q.next } } : PartD).blocks, g < w.heap.size) := fun g hg => hlt0 g (by rw [← hbks]; exact hg)
 have k1 : (((w.alloc (.cells #[.int .i64 q.id, .int .i64 q.next, .slice (some ⟨gs, 0, none⟩) q.procs.length q.procC, .slice q.semA q.sems.length q.semC, .slice q.eventA q.events.length q.eventC, .slice q.boardA q.boards.length q.boardC, .slice q.bufferA q.buffers.length q.bufferC, .slice q.portA q.ports.length q.portC] 32)).alloc (.cells #[.int .i64 0, .int .i64 0, .slice none 0 0, .slice none 0 0, .slice none 0 0, .slice none 0 0, .slice none 0 0, .slice none 0 0] 32)).setCell ⟨gs, n * 12 + 11, none⟩ (.int .i64 q.next)).cell? ⟨w.heap.size, 1, none⟩ = some (.int .i64 q.next) := by have h6 := HS.out.2.2.1; unfold PartBox at h6; simp only [World.cell?, h6]; rfl
 have k1f : (((w.alloc (.cells #[.int .i64 q.id, .int .i64 q.next, .slice (some ⟨gs, 0, none⟩) q.procs.length q.procC, .slice q.semA q.sems.length q.semC, .slice q.eventA q.events.length q.eventC, .slice q.boardA q.boards.length q.boardC, .slice q.bufferA q.buffers.length q.bufferC, .slice q.portA q.ports.length q.portC] 32)).alloc (.cells #[.int .i64 0, .int .i64 0, .slice none 0 0, .slice none 0 0, .slice none 0 0, .slice none 0 0, .slice none 0 0, .slice none 0 0] 32)).setCell ⟨gs, n * 12 + 11, none⟩ (.int .i64 q.next)).frozen? ⟨w.heap.size, 1, none⟩ = false := frozen_of_row _ _ _ _ _ HS.out.2.2.1
 clear h hb hx hb1 h5 hat ha hq8
 go_enter Tryz.func98, Tryz.ntmps98
 have HT : Hid (((((w.alloc (.cells #[.int .i64 q.id, .int .i64 q.next, .slice (some ⟨gs, 0, none⟩) q.procs.length q.procC, .slice q.semA q.sems.length q.semC, .slice q.eventA q.events.length q.eventC, .slice q.boardA q.boards.length q.boardC, .slice q.bufferA q.buffers.length q.bufferC, .slice q.portA q.ports.length q.portC] 32)).alloc (.cells #[.int .i64 0, .int .i64 0, .slice none 0 0, .slice none 0 0, .slice none 0 0, .slice none 0 0, .slice none 0 0, .slice none 0 0] 32)).setCell ⟨gs, n * 12 + 11, none⟩ (.int .i64 q.next)).setCell ⟨w.heap.size, 1, none⟩ (.int .i64 (q.next + 1))).heap[w.heap.size + 1]? = some (.cells #[.int .i64 0, .int .i64 0, .slice none 0 0, .slice none 0 0, .slice none 0 0, .slice none 0 0, .slice none 0 0, .slice none 0 0] 32 (0, 0)) ∧ PartOwn ((((w.alloc (.cells #[.int .i64 q.id, .int .i64 q.next, .slice (some ⟨gs, 0, none⟩) q.procs.length q.procC, .slice q.semA q.sems.length q.semC, .slice q.eventA q.events.length q.eventC, .slice q.boardA q.boards.length q.boardC, .slice q.bufferA q.buffers.length q.bufferC, .slice q.portA q.ports.length q.portC] 32)).alloc (.cells #[.int .i64 0, .int .i64 0, .slice none 0 0, .slice none 0 0, .slice none 0 0, .slice none 0 0, .slice none 0 0, .slice none 0 0] 32)).setCell ⟨gs, n * 12 + 11, none⟩ (.int .i64 q.next)).setCell ⟨w.heap.size, 1, none⟩ (.int .i64 (q.next + 1))) base ({ q with procs := q.procs.set n { x with since := q.next } } : PartD) ∧ Below base w ((((w.alloc (.cells #[.int .i64 q.id, .int .i64 q.next, .slice (some ⟨gs, 0, none⟩) q.procs.length q.procC, .slice q.semA q.sems.length q.semC, .slice q.eventA q.events.length q.eventC, .slice q.boardA q.boards.length q.boardC, .slice q.bufferA q.buffers.length q.bufferC, .slice q.portA q.ports.length q.portC] 32)).alloc (.cells #[.int .i64 0, .int .i64 0, .slice none 0 0, .slice none 0 0, .slice none 0 0, .slice none 0 0, .slice none 0 0, .slice none 0 0] 32)).setCell ⟨gs, n * 12 + 11, none⟩ (.int .i64 q.next)).setCell ⟨w.heap.size, 1, none⟩ (.int .i64 (q.next + 1)))) := by
  have hg := HB.out.2.2.2.2.2.2
  have hbl : ∀ g ∈ ({ q with procs := q.procs.set n { x with since := q.next } } : PartD).blocks, g ≠ w.heap.size := fun g hg2 e => by rw [hbks] at hg2; have := hlt0 g hg2; omega
  exact ⟨(setCell_other (by omega)).trans HS.out.2.2.2, HS.out.1.same fun g hg2 => setCell_other (hbl g hg2), below_setCell HS.out.2.1 (by omega)⟩
 clear hbks hlt0
 go_wp2_with (refine wpList_store_row rfl 32 (Operand.tmp 4) (Operand.tmp 16) rfl (w.heap.size + 1) _ _ #[.int .i64 q.id, .int .i64 (q.next + 1), .slice (some ⟨gs, 0, none⟩) q.procs.length q.procC, .slice q.semA q.sems.length q.semC, .slice q.eventA q.events.length q.eventC, .slice q.boardA q.boards.length q.boardC, .slice q.bufferA q.buffers.length q.bufferC, .slice q.portA q.ports.length q.portC] rfl rfl HT.out.1 (by kernel_rfl) rfl (by kernel_rfl) ?_)
 refine bodyPost_ret (v := .agg #[.int .i64 q.id, .int .i64 (q.next + 1), .slice (some ⟨gs, 0, none⟩) q.procs.length q.procC, .slice q.semA q.sems.length q.semC, .slice q.eventA q.events.length q.eventC, .slice q.boardA q.boards.length q.boardC, .slice q.bufferA q.buffers.length q.bufferC, .slice q.portA q.ports.length q.portC]) (results_cell_row Tryz.results98 _ _ (w.heap.size + 1) _ _ (0, 0) _ rfl (setRow_heap _ _ _ _ _ _ HT.out.1) Tryz.underlying32 rfl (by kernel_rfl)) rfl ?_
 have hg := HB.out.2.2.2.2.2.2
 have hbn : ∀ g ∈ ({ q with procs := q.procs.set n { x with since := q.next } } : PartD).blocks, g ≠ w.heap.size + 1 := fun g hg2 e => by have := HBK.out g hg2; omega
 have ho := HT.out.2.1.same (w' := ((((w.alloc (.cells #[.int .i64 q.id, .int .i64 q.next, .slice (some ⟨gs, 0, none⟩) q.procs.length q.procC, .slice q.semA q.sems.length q.semC, .slice q.eventA q.events.length q.eventC, .slice q.boardA q.boards.length q.boardC, .slice q.bufferA q.buffers.length q.bufferC, .slice q.portA q.ports.length q.portC] 32)).alloc (.cells #[.int .i64 0, .int .i64 0, .slice none 0 0, .slice none 0 0, .slice none 0 0, .slice none 0 0, .slice none 0 0, .slice none 0 0] 32)).setCell ⟨gs, n * 12 + 11, none⟩ (.int .i64 q.next)).setCell ⟨w.heap.size, 1, none⟩ (.int .i64 (q.next + 1))).setRow (w.heap.size + 1) #[.int .i64 q.id, .int .i64 (q.next + 1), .slice (some ⟨gs, 0, none⟩) q.procs.length q.procC, .slice q.semA q.sems.length q.semC, .slice q.eventA q.events.length q.eventC, .slice q.boardA q.boards.length q.boardC, .slice q.bufferA q.buffers.length q.bufferC, .slice q.portA q.ports.length q.portC]) fun g hg2 => setRow_other _ _ _ _ (hbn g hg2)
 refine ⟨_, ?_, rfl, ⟨ho.procs, ho.sems, ho.events, ho.boards, ho.buffers, ho.ports, ho.mineP, ho.mineF, ho.mineQ, ho.nodup⟩, below_setRow HT.out.2.2 (by omega) _⟩
 simp only [PartD.cells, List.length_set, HB.out.2.2.2.2.2.1]

set_option maxRecDepth 100000 in
set_option maxHeartbeats 8000000 in
theorem specStarted_any (p : PartD) (id : Int) (w : World) (hf : p.Fit) (hs : ∀ x ∈ p.procs, x.Short) (h : PartD.At w p) :
  Calls Tryz.prog 49 #[.agg p.cells, .int .i64 id] w fun e w' => TurnRes w (startedP p.pure id) e w' := by
 have HB : Hid (PartBox ((w.alloc (.cells #[.int .i64 p.id, .int .i64 p.next, .slice p.procA p.procs.length p.procC, .slice p.semA p.sems.length p.semC, .slice p.eventA p.events.length p.eventC, .slice p.boardA p.boards.length p.boardC, .slice p.bufferA p.buffers.length p.bufferC, .slice p.portA p.ports.length p.portC] 32)).alloc (.cells #[.int .i64 0, .int .i64 0, .slice none 0 0, .slice none 0 0, .slice none 0 0, .slice none 0 0, .slice none 0 0, .slice none 0 0] 32)) w.heap.size p ∧ PartD.At ((w.alloc (.cells #[.int .i64 p.id, .int .i64 p.next, .slice p.procA p.procs.length p.procC, .slice p.semA p.sems.length p.semC, .slice p.eventA p.events.length p.eventC, .slice p.boardA p.boards.length p.boardC, .slice p.bufferA p.buffers.length p.bufferC, .slice p.portA p.ports.length p.portC] 32)).alloc (.cells #[.int .i64 0, .int .i64 0, .slice none 0 0, .slice none 0 0, .slice none 0 0, .slice none 0 0, .slice none 0 0, .slice none 0 0] 32)) p ∧ Below w.heap.size w ((w.alloc (.cells #[.int .i64 p.id, .int .i64 p.next, .slice p.procA p.procs.length p.procC, .slice p.semA p.sems.length p.semC, .slice p.eventA p.events.length p.eventC, .slice p.boardA p.boards.length p.boardC, .slice p.bufferA p.buffers.length p.bufferC, .slice p.portA p.ports.length p.portC] 32)).alloc (.cells #[.int .i64 0, .int .i64 0, .slice none 0 0, .slice none 0 0, .slice none 0 0, .slice none 0 0, .slice none 0 0, .slice none 0 0] 32)) ∧ ((w.alloc (.cells #[.int .i64 p.id, .int .i64 p.next, .slice p.procA p.procs.length p.procC, .slice p.semA p.sems.length p.semC, .slice p.eventA p.events.length p.eventC, .slice p.boardA p.boards.length p.boardC, .slice p.bufferA p.buffers.length p.bufferC, .slice p.portA p.ports.length p.portC] 32)).alloc (.cells #[.int .i64 0, .int .i64 0, .slice none 0 0, .slice none 0 0, .slice none 0 0, .slice none 0 0, .slice none 0 0, .slice none 0 0] 32)).heap[w.heap.size + 1]? = some (.cells #[.int .i64 0, .int .i64 0, .slice none 0 0, .slice none 0 0, .slice none 0 0, .slice none 0 0, .slice none 0 0, .slice none 0 0] 32 (0, 0))) := by
  have b1 : Below w.heap.size w ((w.alloc (.cells #[.int .i64 p.id, .int .i64 p.next, .slice p.procA p.procs.length p.procC, .slice p.semA p.sems.length p.semC, .slice p.eventA p.events.length p.eventC, .slice p.boardA p.boards.length p.boardC, .slice p.bufferA p.buffers.length p.bufferC, .slice p.portA p.ports.length p.portC] 32)).alloc (.cells #[.int .i64 0, .int .i64 0, .slice none 0 0, .slice none 0 0, .slice none 0 0, .slice none 0 0, .slice none 0 0, .slice none 0 0] 32)) := ((Below.refl _ _).alloc (Nat.le_refl _) _).alloc (by simp) _
  exact ⟨(heap_alloc_old _ _ (by simp)).trans (heap_alloc_new _ _), h.below b1, b1, heap_alloc2_new _ _ _⟩
 have HFT : Hid (p.Fit ∧ ∀ x ∈ p.procs, x.Short) := ⟨hf, hs⟩
 have hpl := hf.short.procs
 clear h hf hs
 obtain ⟨m0, m1, m2, m3, m4, m5, m6, m7⟩ := HB.out.1.cells
 unfold PartD.cells
 go_enter Tryz.func49, Tryz.ntmps49
 go_wp2_with fail
 generalize (w.alloc (.cells #[.int .i64 p.id, .int .i64 p.next, .slice p.procA p.procs.length p.procC, .slice p.semA p.sems.length p.semC, .slice p.eventA p.events.length p.eventC, .slice p.boardA p.boards.length p.boardC, .slice p.bufferA p.buffers.length p.bufferC, .slice p.portA p.ports.length p.portC] 32)).alloc (.cells #[.int .i64 0, .int .i64 0, .slice none 0 0, .slice none 0 0, .slice none 0 0, .slice none 0 0, .slice none 0 0, .slice none 0 0] 32) = W at *
 clear m0 m1 m2 m3 m4 m5 m6 m7
 refine (l3Proc_any p id W hpl HB.out.2.1).mono ?_
 rintro e W1 ⟨rfl, hb⟩
 replace HB : Hid (PartBox W1 w.heap.size p ∧ PartD.At W1 p ∧ Below w.heap.size w W1 ∧ W1.heap[w.heap.size + 1]? = some (.cells #[.int .i64 0, .int .i64 0, .slice none 0 0, .slice none 0 0, .slice none 0 0, .slice none 0 0, .slice none 0 0, .slice none 0 0] 32 (0, 0))) := ⟨HB.out.1.below hb, HB.out.2.1.below hb, HB.out.2.2.1.trans (hb.mono HB.out.2.2.1.size), (hb.block _ (Array.getElem?_eq_some_iff.1 HB.out.2.2.2).1).trans HB.out.2.2.2⟩
 clear hb
 obtain ⟨m0, m1, m2, m3, m4, m5, m6, m7⟩ := HB.out.1.cells
 have hpf := place_find id p.pure.procs 0
 rw [show p.pure.procs.map (·.id) = p.procs.map (·.id) by simp [PartD.pure, Function.comp_def]] at hpf
 have HPF : Hid (_) := hpf
 clear hpf
 generalize place (p.procs.map (·.id)) id 0 = z at *
 go_wp2_with fail
 clear m0 m1 m2 m3 m4 m5 m6 m7
 refine (specPartOk_any p W1 HFT.out.1 HFT.out.2 HB.out.2.1).mono ?_
 rintro e W2 ⟨rfl, hb⟩
 replace HB : Hid (PartBox W2 w.heap.size p ∧ PartD.At W2 p ∧ Below w.heap.size w W2 ∧ W2.heap[w.heap.size + 1]? = some (.cells #[.int .i64 0, .int .i64 0, .slice none 0 0, .slice none 0 0, .slice none 0 0, .slice none 0 0, .slice none 0 0, .slice none 0 0] 32 (0, 0))) := ⟨HB.out.1.below hb, HB.out.2.1.below hb, HB.out.2.2.1.trans (hb.mono HB.out.2.2.1.size), (hb.block _ (Array.getElem?_eq_some_iff.1 HB.out.2.2.2).1).trans HB.out.2.2.2⟩
 clear hb
 obtain ⟨m0, m1, m2, m3, m4, m5, m6, m7⟩ := HB.out.1.cells
 cases h4 : partB p.pure
 ·have HN : Hid (startedP p.pure id = none) := turned_not h4
  clear h4
  go_wp2_with (refine wpList_store_row rfl 32 (Operand.tmp 4) (Operand.tmp 32) rfl (w.heap.size + 1) _ _ #[.int .i64 0, .int .i64 0, .slice none 0 0, .slice none 0 0, .slice none 0 0, .slice none 0 0, .slice none 0 0, .slice none 0 0] rfl rfl HB.out.2.2.2 (by kernel_rfl) rfl (by kernel_rfl) ?_)
  refine bodyPost_ret (v := .tuple #[.agg #[.int .i64 0, .int .i64 0, .slice none 0 0, .slice none 0 0, .slice none 0 0, .slice none 0 0, .slice none 0 0, .slice none 0 0], .bool false]) (results_row_tmp Tryz.results49 _ _ (w.heap.size + 1) _ _ _ _ (by rfl) (setRow_heap _ _ _ _ _ _ HB.out.2.2.2) Tryz.underlying32 rfl (by kernel_rfl)) rfl ?_
  exact turnRes_no HN.out (below_setRow HB.out.2.2.1 (by omega) _)
 have H4 : Hid (partB p.pure = true) := h4
 clear h4
 rcases HPF.out with ⟨hz, hnf⟩ | ⟨n, y0, hz, hn, hfd⟩
 ·have HN : Hid (startedP p.pure id = none) := turned_none hnf
  subst hz
  clear hnf HPF
  go_wp2_with (refine wpList_store_row rfl 32 (Operand.tmp 4) (Operand.tmp 32) rfl (w.heap.size + 1) _ _ #[.int .i64 0, .int .i64 0, .slice none 0 0, .slice none 0 0, .slice none 0 0, .slice none 0 0, .slice none 0 0, .slice none 0 0] rfl rfl HB.out.2.2.2 (by kernel_rfl) rfl (by kernel_rfl) ?_)
  refine bodyPost_ret (v := .tuple #[.agg #[.int .i64 0, .int .i64 0, .slice none 0 0, .slice none 0 0, .slice none 0 0, .slice none 0 0, .slice none 0 0, .slice none 0 0], .bool false]) (results_row_tmp Tryz.results49 _ _ (w.heap.size + 1) _ _ _ _ (by rfl) (setRow_heap _ _ _ _ _ _ HB.out.2.2.2) Tryz.underlying32 rfl (by kernel_rfl)) rfl ?_
  exact turnRes_no HN.out (below_setRow HB.out.2.2.1 (by omega) _)
 rw [Nat.zero_add] at hz
 subst hz
 have hnl : n < p.procs.length := by have h5 := (List.getElem?_eq_some_iff.1 hn).1; simpa [PartD.pure] using h5
 have dz : decide ((n : Int) < 0) = false := decide_eq_false (by omega)
 obtain ⟨x0, hx0, hxy⟩ : ∃ x, p.procs[n]? = some x ∧ x.toProcP = y0 := by
  have h5 : (p.procs.map (·.toProcP))[n]? = some y0 := hn
  rw [List.getElem?_map, Option.map_eq_some_iff] at h5
  exact h5
 subst hxy
 have HY : Hid (p.pure.procs[n]? = some x0.toProcP ∧ p.pure.procs.find? (fun x => decide (x.id = id)) = some x0.toProcP) := ⟨hn, hfd⟩
 obtain ⟨gp, hap, hatp⟩ := proc_at HB.out.2.1.1 hx0
 rw [hap] at m2
 have HAP : Hid (p.procA = some ⟨gp, 0, none⟩) := hap
 have d3 := hatp.2.2.2.1
 clear hn hfd HPF hx0 hatp hap
 have j0 : (0 : Int) ≤ (n : Int) := by omega
 have j1 : (n : Int) < (p.procs.length : Int) := by omega
 by_cases hst : x0.state = 0
 ·by_cases hnx : p.next = 1000000000
  ·have HN : Hid (startedP p.pure id = none) := turned_no HY.out.2 (by have e : p.pure.next = 1000000000 := hnx; simp [e])
   have e1 : (x0.state != 0) = false := by simp [hst]
   have e2 : (p.next == 1000000000) = true := by simp [hnx]
   clear hst hnx
   go_wp2_with (refine wpList_store_row rfl 32 (Operand.tmp 4) (Operand.tmp 32) rfl (w.heap.size + 1) _ _ #[.int .i64 0, .int .i64 0, .slice none 0 0, .slice none 0 0, .slice none 0 0, .slice none 0 0, .slice none 0 0, .slice none 0 0] rfl rfl HB.out.2.2.2 (by kernel_rfl) rfl (by kernel_rfl) ?_)
   refine bodyPost_ret (v := .tuple #[.agg #[.int .i64 0, .int .i64 0, .slice none 0 0, .slice none 0 0, .slice none 0 0, .slice none 0 0, .slice none 0 0, .slice none 0 0], .bool false]) (results_row_tmp Tryz.results49 _ _ (w.heap.size + 1) _ _ _ _ (by rfl) (setRow_heap _ _ _ _ _ _ HB.out.2.2.2) Tryz.underlying32 rfl (by kernel_rfl)) rfl ?_
   exact turnRes_no HN.out (below_setRow HB.out.2.2.1 (by omega) _)
  have HN : Hid (startedP p.pure id = some { p.pure with next := p.next + 1, procs := turnP id (fun y : ProcP => { y with state := 1, since := p.next }) p.pure.procs }) := turned_yes H4.out HY.out.2 (by have e : x0.toProcP.state = 0 := hst; have e2 : ¬ p.pure.next = 1000000000 := hnx; simp [e, e2])
  have e1 : (x0.state != 0) = false := by simp [hst]
  have e2 : (p.next == 1000000000) = false := by simp [hnx]
  clear hst hnx
  go_wp2_with fail
  clear m0 m1 m2 m3 m4 m5 m6 m7 d3 e1 e2
  have hcall := l3Copy_any p W2 HFT.out.1 HFT.out.2 HB.out.2.1
  rw [show PartD.cells p = #[.int .i64 p.id, .int .i64 p.next, .slice (some ⟨gp, 0, none⟩) p.procs.length p.procC, .slice p.semA p.sems.length p.semC, .slice p.eventA p.events.length p.eventC, .slice p.boardA p.boards.length p.boardC, .slice p.bufferA p.buffers.length p.bufferC, .slice p.portA p.ports.length p.portC] by unfold PartD.cells; rw [HAP.out]] at hcall
  refine hcall.mono ?_
  clear hcall
  rintro e W3 ⟨q, rfl, hown, hpu, hb3⟩
  obtain ⟨x, hx, hxy⟩ : ∃ x, q.procs[n]? = some x ∧ x.toProcP = x0.toProcP := by
   have h5 : (q.procs.map (·.toProcP))[n]? = some x0.toProcP := by have h6 := HY.out.1; rw [← hpu] at h6; exact h6
   rw [List.getElem?_map, Option.map_eq_some_iff] at h5
   exact h5
  obtain ⟨gs, ha, hat⟩ := proc_at hown.at.1 hx
  have hnq : n < q.procs.length := (List.getElem?_eq_some_iff.1 hx).1
  have hgs := own_lt hown.procs (g := gs) (by rw [ha]; simp [blk])
  have hb4 : Below W3.heap.size W3 (W3.alloc (.cells #[.int .i64 q.id, .int .i64 q.next, .slice (some ⟨gs, 0, none⟩) q.procs.length q.procC, .slice q.semA q.sems.length q.semC, .slice q.eventA q.events.length q.eventC, .slice q.boardA q.boards.length q.boardC, .slice q.bufferA q.buffers.length q.bufferC, .slice q.portA q.ports.length q.portC] 32)) := (Below.refl _ _).alloc (Nat.le_refl _) _
  obtain ⟨⟨u, c3⟩, f3⟩ : (∃ u, (W3.alloc (.cells #[.int .i64 q.id, .int .i64 q.next, .slice (some ⟨gs, 0, none⟩) q.procs.length q.procC, .slice q.semA q.sems.length q.semC, .slice q.eventA q.events.length q.eventC, .slice q.boardA q.boards.length q.boardC, .slice q.bufferA q.buffers.length q.bufferC, .slice q.portA q.ports.length q.portC] 32)).cell? ⟨gs, n * 12 + 3, none⟩ = some u) ∧ (W3.alloc (.cells #[.int .i64 q.id, .int .i64 q.next, .slice (some ⟨gs, 0, none⟩) q.procs.length q.procC, .slice q.semA q.sems.length q.semC, .slice q.eventA q.events.length q.eventC, .slice q.boardA q.boards.length q.boardC, .slice q.bufferA q.buffers.length q.bufferC, .slice q.portA q.ports.length q.portC] 32)).frozen? ⟨gs, n * 12 + 3, none⟩ = false := by
   obtain ⟨g, hg, hrow⟩ := RowAt.of_owns (K := procK) (hown.below hb4).procs (by omega)
   rw [ha] at hg
   cases hg
   exact ⟨⟨_, (hrow.cell hx (r := 3) (by decide)).1⟩, (hrow.cell hx (r := 3) (by decide)).2⟩
  have h5 := (hown.below hb4).setProc (n := n) (j := 3) (x := x) (y := { x with state := 1 }) (vs := [.int .i64 1]) hx ha ⟨rfl, rfl, rfl⟩ (by decide) (fun r hr => by match r, hr with | 0, _ => rfl) (fun r hr hn => by match r, hr, hn with | 0, _, _ => rfl | 1, _, _ => rfl | 2, _, _ => rfl | 3, _, hn => exact absurd ⟨by omega, by decide⟩ hn | 4, _, _ => rfl | 5, _, _ => rfl | 6, _, _ => rfl | 7, _, _ => rfl | 8, _, _ => rfl | 9, _, _ => rfl | 10, _, _ => rfl | 11, _, _ => rfl)
  simp only [setAllW] at h5
  have hlt2 : w.heap.size + 1 < W2.heap.size := (Array.getElem?_eq_some_iff.1 HB.out.2.2.2).1
  have hs3 := hb3.size
  have HS : Hid (PartOwn ((W3.alloc (.cells #[.int .i64 q.id, .int .i64 q.next, .slice (some ⟨gs, 0, none⟩) q.procs.length q.procC, .slice q.semA q.sems.length q.semC, .slice q.eventA q.events.length q.eventC, .slice q.boardA q.boards.length q.boardC, .slice q.bufferA q.buffers.length q.bufferC, .slice q.portA q.ports.length q.portC] 32)).setCell ⟨gs, n * 12 + 3, none⟩ (.int .i64 1)) W2.heap.size ({ q with procs := q.procs.set n { x with state := 1 } } : PartD) ∧ PartBox ((W3.alloc (.cells #[.int .i64 q.id, .int .i64 q.next, .slice (some ⟨gs, 0, none⟩) q.procs.length q.procC, .slice q.semA q.sems.length q.semC, .slice q.eventA q.events.length q.eventC, .slice q.boardA q.boards.length q.boardC, .slice q.bufferA q.buffers.length q.bufferC, .slice q.portA q.ports.length q.portC] 32)).setCell ⟨gs, n * 12 + 3, none⟩ (.int .i64 1)) W3.heap.size q ∧ Below w.heap.size w ((W3.alloc (.cells #[.int .i64 q.id, .int .i64 q.next, .slice (some ⟨gs, 0, none⟩) q.procs.length q.procC, .slice q.semA q.sems.length q.semC, .slice q.eventA q.events.length q.eventC, .slice q.boardA q.boards.length q.boardC, .slice q.bufferA q.buffers.length q.bufferC, .slice q.portA q.ports.length q.portC] 32)).setCell ⟨gs, n * 12 + 3, none⟩ (.int .i64 1)) ∧ ((W3.alloc (.cells #[.int .i64 q.id, .int .i64 q.next, .slice (some ⟨gs, 0, none⟩) q.procs.length q.procC, .slice q.semA q.sems.length q.semC, .slice q.eventA q.events.length q.eventC, .slice q.boardA q.boards.length q.boardC, .slice q.bufferA q.buffers.length q.bufferC, .slice q.portA q.ports.length q.portC] 32)).setCell ⟨gs, n * 12 + 3, none⟩ (.int .i64 1)).heap[w.heap.size + 1]? = some (.cells #[.int .i64 0, .int .i64 0, .slice none 0 0, .slice none 0 0, .slice none 0 0, .slice none 0 0, .slice none 0 0, .slice none 0 0] 32 (0, 0)) ∧ ({ q with procs := q.procs.set n { x with state := 1 } } : PartD).procs[n]? = some { x with state := 1 } ∧ PartD.cells ({ q with procs := q.procs.set n { x with state := 1 } } : PartD) = #[.int .i64 q.id, .int .i64 q.next, .slice (some ⟨gs, 0, none⟩) q.procs.length q.procC, .slice q.semA q.sems.length q.semC, .slice q.eventA q.events.length q.eventC, .slice q.boardA q.boards.length q.boardC, .slice q.bufferA q.buffers.length q.bufferC, .slice q.portA q.ports.length q.portC] ∧ W2.heap.size ≤ ((W3.alloc (.cells #[.int .i64 q.id, .int .i64 q.next, .slice (some ⟨gs, 0, none⟩) q.procs.length q.procC, .slice q.semA q.sems.length q.semC, .slice q.eventA q.events.length q.eventC, .slice q.boardA q.boards.length q.boardC, .slice q.bufferA q.buffers.length q.bufferC, .slice q.portA q.ports.length q.portC] 32)).setCell ⟨gs, n * 12 + 3, none⟩ (.int .i64 1)).heap.size ∧ q.pure = p.pure ∧ x.toProcP = x0.toProcP) := by
   refine ⟨h5.1, ?_, ?_, ?_, by simp [hnq], by simp only [PartD.cells, List.length_set, ha], ?_, hpu, hxy⟩
   ·refine (setCell_other (by omega)).trans ?_
    rw [ha]
    exact heap_alloc_new _ _
   ·exact below_setCell (HB.out.2.2.1.trans ((hb3.alloc hs3 _).mono HB.out.2.2.1.size)) (by omega)
   ·exact (setCell_other (by omega)).trans ((hb4.block _ (by omega)).trans ((hb3.block _ hlt2).trans HB.out.2.2.2))
   ·have := hb4.size; rw [show (((W3.alloc (.cells #[.int .i64 q.id, .int .i64 q.next, .slice (some ⟨gs, 0, none⟩) q.procs.length q.procC, .slice q.semA q.sems.length q.semC, .slice q.eventA q.events.length q.eventC, .slice q.boardA q.boards.length q.boardC, .slice q.bufferA q.buffers.length q.bufferC, .slice q.portA q.ports.length q.portC] 32)).setCell ⟨gs, n * 12 + 3, none⟩ (.int .i64 1))).heap.size = _ from setAllW_size [_]]; omega
  obtain ⟨k0, k1, k2, k3, k4, k5, k6, k7⟩ := HS.out.2.1.cells
  rw [ha] at k2
  have jq : (n : Int) < (q.procs.length : Int) := by omega
  rw [show PartD.cells q = #[.int .i64 q.id, .int .i64 q.next, .slice (some ⟨gs, 0, none⟩) q.procs.length q.procC, .slice q.semA q.sems.length q.semC, .slice q.eventA q.events.length q.eventC, .slice q.boardA q.boards.length q.boardC, .slice q.bufferA q.buffers.length q.bufferC, .slice q.portA q.ports.length q.portC] by unfold PartD.cells; rw [ha]]
  clear hown hpu hb3 hx hxy ha hat hgs hb4 h5 hs3
  go_wp2_with fail
  clear k0 k1 k2 k3 k4 k5 k6 k7 c3 f3
  generalize (W3.alloc (.cells #[.int .i64 q.id, .int .i64 q.next, .slice (some ⟨gs, 0, none⟩) q.procs.length q.procC, .slice q.semA q.sems.length q.semC, .slice q.eventA q.events.length q.eventC, .slice q.boardA q.boards.length q.boardC, .slice q.bufferA q.buffers.length q.bufferC, .slice q.portA q.ports.length q.portC] 32)).setCell ⟨gs, n * 12 + 3, none⟩ (.int .i64 1) = W5 at *
  have hnx : 0 ≤ q.next ∧ q.next ≤ 1000000000 := by have h6 := inB_iff.1 ((partB_iff _).1 H4.out).next; rw [← HS.out.2.2.2.2.2.2.2.1] at h6; have h7 : q.pure.next = q.next := rfl; omega
  have hcall := l4Place_any ({ q with procs := q.procs.set n { x with state := 1 } } : PartD) n W2.heap.size { x with state := 1 } W5 HS.out.1 HS.out.2.2.2.2.2.2.1 HS.out.2.2.2.2.1 hnx
  rw [HS.out.2.2.2.2.2.1] at hcall
  refine hcall.mono ?_
  clear hcall
  rintro e W6 ⟨q2, rfl, hq2, ho2, hb6⟩
  have H6 : Hid (PartOwn W6 W2.heap.size q2 ∧ Below w.heap.size w W6 ∧ W6.heap[w.heap.size + 1]? = some (.cells #[.int .i64 0, .int .i64 0, .slice none 0 0, .slice none 0 0, .slice none 0 0, .slice none 0 0, .slice none 0 0, .slice none 0 0] 32 (0, 0)) ∧ q2.pure = { p.pure with next := p.next + 1, procs := turnP id (fun y : ProcP => { y with state := 1, since := p.next }) p.pure.procs } ∧ w.heap.size + 1 < W2.heap.size) := by
   refine ⟨ho2, HS.out.2.2.1.trans (hb6.mono (by omega)), (hb6.block _ hlt2).trans HS.out.2.2.2.1, ?_, hlt2⟩
   have hpp := HS.out.2.2.2.2.2.2.2.1
   have hid : x0.toProcP.id = id := by have h7 := List.find?_some HY.out.2; simpa using h7
   rw [turn_set (part_rise H4.out) HY.out.1 hid]
   have hnn : q.next = p.next := congrArg PartP.next hpp
   have hpr : q.procs.map (·.toProcP) = p.pure.procs := congrArg PartP.procs hpp
   have hxx := HS.out.2.2.2.2.2.2.2.2
   subst hq2
   show ({ q.pure with next := q.next + 1, procs := ((q.procs.set n { x with state := 1 }).set n { { x with state := 1 } with since := q.next }).map (·.toProcP) } : PartP) = _
   rw [List.set_set, List.map_set, hpr, hpp, hnn, ← hxx]
  clear hq2 ho2 hb6 HS hnx
  go_wp2_with (refine wpList_store_row rfl 32 (Operand.tmp 4) (Operand.tmp 42) rfl (w.heap.size + 1) _ _ (PartD.cells q2) rfl rfl H6.out.2.2.1 (by kernel_rfl) rfl (by kernel_rfl) ?_)
  refine bodyPost_ret (v := .tuple #[.agg (PartD.cells q2), .bool true]) (results_row_tmp Tryz.results49 _ _ (w.heap.size + 1) _ _ _ _ (by rfl) (setRow_heap _ _ _ _ _ _ H6.out.2.2.1) Tryz.underlying32 rfl (by kernel_rfl)) rfl ?_
  rw [HN.out]
  have hl := H6.out.2.2.2.2
  exact ⟨q2, rfl, (H6.out.1.lower (by omega)).same fun g hg => setRow_other _ _ _ _ (by have := (H6.out.1.lt g hg).1; omega), H6.out.2.2.2.1, below_setRow H6.out.2.1 (by omega) _⟩
 ·have HN : Hid (startedP p.pure id = none) := turned_no HY.out.2 (by have e : ¬ x0.toProcP.state = 0 := hst; simp [e])
  have e1 : (x0.state != 0) = true := by simp [hst]
  clear hst
  go_wp2_with (refine wpList_store_row rfl 32 (Operand.tmp 4) (Operand.tmp 32) rfl (w.heap.size + 1) _ _ #[.int .i64 0, .int .i64 0, .slice none 0 0, .slice none 0 0, .slice none 0 0, .slice none 0 0, .slice none 0 0, .slice none 0 0] rfl rfl HB.out.2.2.2 (by kernel_rfl) rfl (by kernel_rfl) ?_)
  refine bodyPost_ret (v := .tuple #[.agg #[.int .i64 0, .int .i64 0, .slice none 0 0, .slice none 0 0, .slice none 0 0, .slice none 0 0, .slice none 0 0, .slice none 0 0], .bool false]) (results_row_tmp Tryz.results49 _ _ (w.heap.size + 1) _ _ _ _ (by rfl) (setRow_heap _ _ _ _ _ _ HB.out.2.2.2) Tryz.underlying32 rfl (by kernel_rfl)) rfl ?_
  exact turnRes_no HN.out (below_setRow HB.out.2.2.1 (by omega) _)

end Go.Proofs.YtkbcplnlehdjfaaGreat

/- A process that is started: the programme. (Made by mkstartedi.py.) -/
namespace Go.Proofs.YtkbcplnlehdjfaaGreat
open Go.RowKit Go.Maps
attribute [local go_sem ↓] Go.wp_at_zero Go.wp_at_succ

set_option maxRecDepth 100000 in
set_option maxHeartbeats 8000000 in
theorem implStarted_any (p : PartD) (id : Int) (w : World) (hid : (Lit.int .i64 id).wf = true) (hg : p.Good w) :
  Calls Tryz.prog 48 #[.agg p.cells, .int .i64 id] w fun e w' => TurnRes w (startedP p.pure id) e w' := by
 have HB : Hid (p.Good ((w.alloc (.cells #[.int .i64 p.id, .int .i64 p.next, .slice p.procA p.procs.length p.procC, .slice p.semA p.sems.length p.semC, .slice p.eventA p.events.length p.eventC, .slice p.boardA p.boards.length p.boardC, .slice p.bufferA p.buffers.length p.bufferC, .slice p.portA p.ports.length p.portC] 32)).alloc (.cells #[.int .i64 0, .int .i64 0, .slice none 0 0, .slice none 0 0, .slice none 0 0, .slice none 0 0, .slice none 0 0, .slice none 0 0] 32)) ∧ Below w.heap.size w ((w.alloc (.cells #[.int .i64 p.id, .int .i64 p.next, .slice p.procA p.procs.length p.procC, .slice p.semA p.sems.length p.semC, .slice p.eventA p.events.length p.eventC, .slice p.boardA p.boards.length p.boardC, .slice p.bufferA p.buffers.length p.bufferC, .slice p.portA p.ports.length p.portC] 32)).alloc (.cells #[.int .i64 0, .int .i64 0, .slice none 0 0, .slice none 0 0, .slice none 0 0, .slice none 0 0, .slice none 0 0, .slice none 0 0] 32)) ∧ ((w.alloc (.cells #[.int .i64 p.id, .int .i64 p.next, .slice p.procA p.procs.length p.procC, .slice p.semA p.sems.length p.semC, .slice p.eventA p.events.length p.eventC, .slice p.boardA p.boards.length p.boardC, .slice p.bufferA p.buffers.length p.bufferC, .slice p.portA p.ports.length p.portC] 32)).alloc (.cells #[.int .i64 0, .int .i64 0, .slice none 0 0, .slice none 0 0, .slice none 0 0, .slice none 0 0, .slice none 0 0, .slice none 0 0] 32)).heap[w.heap.size + 1]? = some (.cells #[.int .i64 0, .int .i64 0, .slice none 0 0, .slice none 0 0, .slice none 0 0, .slice none 0 0, .slice none 0 0, .slice none 0 0] 32 (0, 0)) ∧ PartBox ((w.alloc (.cells #[.int .i64 p.id, .int .i64 p.next, .slice p.procA p.procs.length p.procC, .slice p.semA p.sems.length p.semC, .slice p.eventA p.events.length p.eventC, .slice p.boardA p.boards.length p.boardC, .slice p.bufferA p.buffers.length p.bufferC, .slice p.portA p.ports.length p.portC] 32)).alloc (.cells #[.int .i64 0, .int .i64 0, .slice none 0 0, .slice none 0 0, .slice none 0 0, .slice none 0 0, .slice none 0 0, .slice none 0 0] 32)) w.heap.size p ∧ (Lit.int .i64 id).wf = true) := by
  have b1 : Below w.heap.size w ((w.alloc (.cells #[.int .i64 p.id, .int .i64 p.next, .slice p.procA p.procs.length p.procC, .slice p.semA p.sems.length p.semC, .slice p.eventA p.events.length p.eventC, .slice p.boardA p.boards.length p.boardC, .slice p.bufferA p.buffers.length p.bufferC, .slice p.portA p.ports.length p.portC] 32)).alloc (.cells #[.int .i64 0, .int .i64 0, .slice none 0 0, .slice none 0 0, .slice none 0 0, .slice none 0 0, .slice none 0 0, .slice none 0 0] 32)) := ((Below.refl _ _).alloc (Nat.le_refl _) _).alloc (by simp) _
  exact ⟨hg.below b1, b1, heap_alloc2_new _ _ _, (heap_alloc_old _ _ (by simp)).trans (heap_alloc_new _ _), hid⟩
 clear hg hid
 obtain ⟨m0, m1, m2, m3, m4, m5, m6, m7⟩ := HB.out.2.2.2.1.cells
 unfold PartD.cells
 go_enter Tryz.func48, Tryz.ntmps48
 go_wp2_with fail
 generalize (w.alloc (.cells #[.int .i64 p.id, .int .i64 p.next, .slice p.procA p.procs.length p.procC, .slice p.semA p.sems.length p.semC, .slice p.eventA p.events.length p.eventC, .slice p.boardA p.boards.length p.boardC, .slice p.bufferA p.buffers.length p.bufferC, .slice p.portA p.ports.length p.portC] 32)).alloc (.cells #[.int .i64 0, .int .i64 0, .slice none 0 0, .slice none 0 0, .slice none 0 0, .slice none 0 0, .slice none 0 0, .slice none 0 0] 32) = W at *
 clear m0 m1 m2 m3 m4 m5 m6 m7
 refine (opened_any p W HB.out.1).mono ?_
 rintro e w1 ⟨hb1, ⟨hno, rfl⟩ | ⟨hyes, o, S, rfl, hat, hpu⟩⟩
 ·have HZ : Hid (Below w.heap.size w w1 ∧ w1.heap[w.heap.size + 1]? = some (.cells #[.int .i64 0, .int .i64 0, .slice none 0 0, .slice none 0 0, .slice none 0 0, .slice none 0 0, .slice none 0 0, .slice none 0 0] 32 (0, 0)) ∧ True) := ⟨HB.out.2.1.trans (hb1.mono HB.out.2.1.size), (hb1.block _ (Array.getElem?_eq_some_iff.1 HB.out.2.2.1).1).trans HB.out.2.2.1, trivial⟩
  have HN : Hid (startedP p.pure id = none) := turned_not (partB_false hno)
  clear hb1 hno
  go_wp2_with (refine wpList_store_row rfl 32 (Operand.tmp 4) (Operand.tmp 16) rfl (w.heap.size + 1) _ _ #[.int .i64 0, .int .i64 0, .slice none 0 0, .slice none 0 0, .slice none 0 0, .slice none 0 0, .slice none 0 0, .slice none 0 0] rfl rfl HZ.out.2.1 (by kernel_rfl) rfl (by kernel_rfl) ?_)
  refine bodyPost_ret (v := .tuple #[.agg #[.int .i64 0, .int .i64 0, .slice none 0 0, .slice none 0 0, .slice none 0 0, .slice none 0 0, .slice none 0 0, .slice none 0 0], .bool false]) (results_row_tmp Tryz.results48 _ _ (w.heap.size + 1) _ _ _ _ (by rfl) (setRow_heap _ _ _ _ _ _ HZ.out.2.1) Tryz.underlying32 rfl (by kernel_rfl)) rfl ?_
  exact turnRes_no HN.out (below_setRow HZ.out.1 (by omega) _)
 have HZ : Hid (Below w.heap.size w w1 ∧ w1.heap[w.heap.size + 1]? = some (.cells #[.int .i64 0, .int .i64 0, .slice none 0 0, .slice none 0 0, .slice none 0 0, .slice none 0 0, .slice none 0 0, .slice none 0 0] 32 (0, 0)) ∧ PartR S.pure ∧ OpenAt w1 W.heap.size o S ∧ S.pure = p.pure ∧ w.heap.size + 1 < W.heap.size ∧ W.heap.size ≤ w1.heap.size) := ⟨HB.out.2.1.trans (hb1.mono HB.out.2.1.size), (hb1.block _ (Array.getElem?_eq_some_iff.1 HB.out.2.2.1).1).trans HB.out.2.2.1, by rw [hpu]; exact hyes, hat, hpu, (Array.getElem?_eq_some_iff.1 HB.out.2.2.1).1, hb1.size⟩
 have c3 : w1.cell? ⟨o, 3, none⟩ = some (.map (some S.q.bp)) := hat.opn.cell 3
 have c1 : w1.cell? ⟨o, 1, none⟩ = some (.int .i64 S.q.next) := hat.opn.cell 1
 have hlk := hat.procs.map.look Tryz.underlying108 (zeroPtrProc w1) HB.out.2.2.2.2 true
 have hpo : p.pure.procs.find? (fun x => decide (x.id = id)) = (S.lp.find? (fun p => decide (p.1.id = id))).map (fun p => p.1.toProcP) := by rw [← hpu]; exact find_pure id S.lp
 have hnx : p.next = S.q.next := (congrArg PartP.next hpu).symm
 rw [look_find] at hlk
 simp only [if_true] at hlk
 have HNX : Hid (p.next = S.q.next) := hnx
 clear hb1 hyes hat hpu hnx
 cases hfd : S.lp.find? (fun p => decide (p.1.id = id)) with
 | none =>
  rw [hfd] at hlk hpo
  simp only [Option.map_none, ptrO, Option.isSome_none] at hlk
  have HN : Hid (startedP p.pure id = none) := turned_none hpo
  clear hfd hpo
  go_wp2_with (refine wpList_store_row rfl 32 (Operand.tmp 4) (Operand.tmp 43) rfl (w.heap.size + 1) _ _ #[.int .i64 0, .int .i64 0, .slice none 0 0, .slice none 0 0, .slice none 0 0, .slice none 0 0, .slice none 0 0, .slice none 0 0] rfl rfl HZ.out.2.1 (by kernel_rfl) rfl (by kernel_rfl) ?_)
  refine bodyPost_ret (v := .tuple #[.agg #[.int .i64 0, .int .i64 0, .slice none 0 0, .slice none 0 0, .slice none 0 0, .slice none 0 0, .slice none 0 0, .slice none 0 0], .bool false]) (results_row_tmp Tryz.results48 _ _ (w.heap.size + 1) _ _ _ _ (by rfl) (setRow_heap _ _ _ _ _ _ HZ.out.2.1) Tryz.underlying32 rfl (by kernel_rfl)) rfl ?_
  exact turnRes_no HN.out (below_setRow HZ.out.1 (by omega) _)
 | some r =>
  obtain ⟨x, g⟩ := r
  rw [hfd] at hlk hpo
  simp only [Option.map_some, ptrO, ptrV, Option.isSome_some] at hlk
  have hm : (x, g) ∈ S.lp := List.mem_of_find?_eq_some hfd
  have hxid : x.id = id := by have h7 := List.find?_some hfd; simpa using h7
  have HX : Hid ((x, g) ∈ S.lp ∧ x.id = id ∧ p.pure.procs.find? (fun x => decide (x.id = id)) = some x.toProcP) := ⟨hm, hxid, hpo⟩
  have d3 := (proc_cells (HZ.out.2.2.2.1.procs.box (x, g) hm)).2.2.2.1
  clear hfd hpo hm hxid
  by_cases hst : x.state = 0
  ·by_cases hmx : S.q.next = 1000000000
   ·have HN : Hid (startedP p.pure id = none) := turned_no HX.out.2.2 (by have e : p.pure.next = 1000000000 := HNX.out.trans hmx; simp [e])
    have e1 : (x.state != 0) = false := by simp [hst]
    have e2 : (S.q.next == 1000000000) = true := by simp [hmx]
    clear hst hmx
    go_wp2_with (refine wpList_store_row rfl 32 (Operand.tmp 4) (Operand.tmp 43) rfl (w.heap.size + 1) _ _ #[.int .i64 0, .int .i64 0, .slice none 0 0, .slice none 0 0, .slice none 0 0, .slice none 0 0, .slice none 0 0, .slice none 0 0] rfl rfl HZ.out.2.1 (by kernel_rfl) rfl (by kernel_rfl) ?_)
    refine bodyPost_ret (v := .tuple #[.agg #[.int .i64 0, .int .i64 0, .slice none 0 0, .slice none 0 0, .slice none 0 0, .slice none 0 0, .slice none 0 0, .slice none 0 0], .bool false]) (results_row_tmp Tryz.results48 _ _ (w.heap.size + 1) _ _ _ _ (by rfl) (setRow_heap _ _ _ _ _ _ HZ.out.2.1) Tryz.underlying32 rfl (by kernel_rfl)) rfl ?_
    exact turnRes_no HN.out (below_setRow HZ.out.1 (by omega) _)
   have HN : Hid (startedP p.pure id = some { p.pure with next := p.next + 1, procs := turnP id (fun y : ProcP => { y with state := 1, since := p.next }) p.pure.procs }) := turned_yes (by rw [← HZ.out.2.2.2.2.1]; exact partB_true HZ.out.2.2.1) HX.out.2.2 (by have e : x.toProcP.state = 0 := hst; have e2 : ¬ p.pure.next = 1000000000 := fun h => hmx (HNX.out.symm.trans h); simp [e, e2])
   have e1 : (x.state != 0) = false := by simp [hst]
   have e2 : (S.q.next == 1000000000) = false := by simp [hmx]
   clear hst hmx
   go_wp2_with fail
   clear c1 c3 d3 e1 e2 hlk
   have hnb : 0 ≤ S.q.next ∧ S.q.next ≤ 1000000000 := by have h6 := inB_iff.1 HZ.out.2.2.1.next; have h7 : S.pure.next = S.q.next := rfl; omega
   refine (start_any o g W.heap.size S x w1 HZ.out.2.2.2.1 HX.out.1 hnb.1 hnb.2).mono ?_
   rintro e w2 ⟨rfl, hat2, hb2⟩
   have hlt := HZ.out.2.2.2.2.2.1
   have H2 : Hid (OpenAt w2 W.heap.size o (S.turn g (startF S.q.next) (S.q.next + 1)) ∧ Below w.heap.size w w2 ∧ w2.heap[w.heap.size + 1]? = some (.cells #[.int .i64 0, .int .i64 0, .slice none 0 0, .slice none 0 0, .slice none 0 0, .slice none 0 0, .slice none 0 0, .slice none 0 0] 32 (0, 0)) ∧ W.heap.size ≤ w2.heap.size) := ⟨hat2, HZ.out.1.trans (hb2.mono (by omega)), (hb2.block _ hlt).trans HZ.out.2.1, by have := hb2.size; have := HZ.out.2.2.2.2.2.2; omega⟩
   have HF : Hid ((S.turn g (startF S.q.next) (S.q.next + 1)).Fits ∧ (S.turn g (startF S.q.next) (S.q.next + 1)).pure = { p.pure with next := p.next + 1, procs := turnP id (fun y : ProcP => { y with state := 1, since := p.next }) p.pure.procs }) := by
    refine ⟨fits_turn (open_fits HZ.out.2.2.1) fun _ => rfl, ?_⟩
    rw [OpenD.turn_pure (f' := fun y : ProcP => { y with state := 1, since := S.q.next }) HZ.out.2.2.1 (fun q hq e => HZ.out.2.2.2.1.procs.one hq HX.out.1 e) HX.out.1 (fun _ => rfl), HX.out.2.1, HZ.out.2.2.2.2.1, HNX.out]
   clear hat2 hb2 hnb
   go_wp2_with fail
   refine (toldPart_any o W.heap.size _ w2 H2.out.1 HF.out.1).mono ?_
   rintro e w3 ⟨r, rfl, ho3, hp3, hb3⟩
   have H3 : Hid (PartOwn w3 W.heap.size r ∧ Below w.heap.size w w3 ∧ w3.heap[w.heap.size + 1]? = some (.cells #[.int .i64 0, .int .i64 0, .slice none 0 0, .slice none 0 0, .slice none 0 0, .slice none 0 0, .slice none 0 0, .slice none 0 0] 32 (0, 0)) ∧ r.pure = { p.pure with next := p.next + 1, procs := turnP id (fun y : ProcP => { y with state := 1, since := p.next }) p.pure.procs }) := ⟨ho3, H2.out.2.1.trans (hb3.mono H2.out.2.1.size), (hb3.block _ (Array.getElem?_eq_some_iff.1 H2.out.2.2.1).1).trans H2.out.2.2.1, hp3.trans HF.out.2⟩
   clear ho3 hp3 hb3
   go_wp2_with (refine wpList_store_row rfl 32 (Operand.tmp 4) (Operand.tmp 48) rfl (w.heap.size + 1) _ _ (PartD.cells r) rfl rfl H3.out.2.2.1 (by kernel_rfl) rfl (by kernel_rfl) ?_)
   refine bodyPost_ret (v := .tuple #[.agg (PartD.cells r), .bool true]) (results_row_tmp Tryz.results48 _ _ (w.heap.size + 1) _ _ _ _ (by rfl) (setRow_heap _ _ _ _ _ _ H3.out.2.2.1) Tryz.underlying32 rfl (by kernel_rfl)) rfl ?_
   rw [HN.out]
   exact ⟨r, rfl, (H3.out.1.lower (by omega)).same fun b hb => setRow_other _ _ _ _ (by have := (H3.out.1.lt b hb).1; omega), H3.out.2.2.2, below_setRow H3.out.2.1 (by omega) _⟩
  ·have HN : Hid (startedP p.pure id = none) := turned_no HX.out.2.2 (by have e : ¬ x.toProcP.state = 0 := hst; simp [e])
   have e1 : (x.state != 0) = true := by simp [hst]
   clear hst
   go_wp2_with (refine wpList_store_row rfl 32 (Operand.tmp 4) (Operand.tmp 43) rfl (w.heap.size + 1) _ _ #[.int .i64 0, .int .i64 0, .slice none 0 0, .slice none 0 0, .slice none 0 0, .slice none 0 0, .slice none 0 0, .slice none 0 0] rfl rfl HZ.out.2.1 (by kernel_rfl) rfl (by kernel_rfl) ?_)
   refine bodyPost_ret (v := .tuple #[.agg #[.int .i64 0, .int .i64 0, .slice none 0 0, .slice none 0 0, .slice none 0 0, .slice none 0 0, .slice none 0 0, .slice none 0 0], .bool false]) (results_row_tmp Tryz.results48 _ _ (w.heap.size + 1) _ _ _ _ (by rfl) (setRow_heap _ _ _ _ _ _ HZ.out.2.1) Tryz.underlying32 rfl (by kernel_rfl)) rfl ?_
   exact turnRes_no HN.out (below_setRow HZ.out.1 (by omega) _)

end Go.Proofs.YtkbcplnlehdjfaaGreat

/- The exact law of Started, called at any partition: true, and nothing that was there is changed. (Made by mkexactlaw.py.) -/
namespace Go.Proofs.YtkbcplnlehdjfaaGreat
open Go.RowKit
attribute [local go_sem ↓] Go.wp_at_zero Go.wp_at_succ

set_option maxRecDepth 100000 in
set_option maxHeartbeats 8000000 in
theorem startedLaw_any (p : PartD) (id : Int) (w : World) (hb : p.Big) (hc : p.Came w) (hi : p.Ints) (hwid : (Lit.int .i64 id).wf = true) :
  Calls Tryz.prog 17 #[.agg p.cells, .int .i64 id] w fun e w' => e = .returned (.bool true) ∧ Below w.heap.size w w' := by
 have HB : Hid (p.Big ∧ p.Ints) := ⟨hb, hi⟩
 have HC : Hid (p.Came w) := hc
 have HWid : Hid ((Lit.int .i64 id).wf = true) := hwid
 have HX : Hid (SrcS p w (w.alloc (.cells #[.int .i64 p.id, .int .i64 p.next, .slice p.procA p.procs.length p.procC, .slice p.semA p.sems.length p.semC, .slice p.eventA p.events.length p.eventC, .slice p.boardA p.boards.length p.boardC, .slice p.bufferA p.buffers.length p.bufferC, .slice p.portA p.ports.length p.portC] 73))) := ⟨heap_alloc_new _ _, (Below.refl _ _).alloc (Nat.le_refl _) _⟩
 clear hb hc hi hwid
 unfold PartD.cells
 go_enter Tryz.func17, Tryz.ntmps17
 go_wp2_with fail
 generalize w.alloc (.cells #[.int .i64 p.id, .int .i64 p.next, .slice p.procA p.procs.length p.procC, .slice p.semA p.sems.length p.semC, .slice p.eventA p.events.length p.eventC, .slice p.boardA p.boards.length p.boardC, .slice p.bufferA p.buffers.length p.bufferC, .slice p.portA p.ports.length p.portC] 73) = W0 at *
 refine (szPart_l p 1048576 W0 HB.out.1 (HC.out.below HX.out.2) (by omega) (by omega)).mono ?_
 rintro e W1 ⟨r, rfl, r0, r1, hr, hb⟩
 replace HX : Hid (SrcS p w W1) := HX.out.below hb
 clear hb
 by_cases hneg : r < 0
 ·go_wp2
  go_ret
  exact ⟨rfl, HX.out.2⟩
 have HSM : Hid (p.Shorts ∧ p.pure.Small ∧ p.pure.total ≤ 1048576) := ⟨(hr (by omega)).1, small_of (hr (by omega)).1 HB.out.2, by have := (hr (by omega)).2; omega⟩
 clear hr
 obtain ⟨m0, m1, m2, m3, m4, m5, m6, m7⟩ := srcCells HX.out.1
 go_wp2_with fail
 clear m0 m1 m2 m3 m4 m5 m6 m7
 refine (toPart_l p W1 HSM.out.1 (HC.out.below HX.out.2)).mono ?_
 rintro e W2 ⟨p2, rfl, ho, hp, hb⟩
 have HQ : Hid (PartOwn W2 W1.heap.size p2 ∧ p2.pure = p.pure ∧ p2.pure.Small) := ⟨ho, hp, by rw [hp]; exact HSM.out.2.1⟩
 replace HX : Hid (SrcS p w W2) := HX.out.below hb
 clear ho hp hb
 go_wp2_with fail
 obtain ⟨ok, hok⟩ : ∃ b : Bool, (startedP p.pure id).isSome = b := ⟨_, rfl⟩
 have HOK : Hid ((startedP p.pure id).isSome = ok) := hok
 clear hok
 have dn : (ok != ok) = false := by simp
 refine (specStarted_any p2 id W2 (small_fit HQ.out.2.2) (fun x hx => (small_proc HQ.out.2.2 hx).1) HQ.out.1.at).mono ?_
 rintro e V3 hE
 rw [HQ.out.2.1] at hE
 obtain ⟨r3, rfl, ho, hp, hb⟩ := hE
 rw [HOK.out]
 have hb2 : Below W2.heap.size W2 (V3.alloc (.cells #[.int .i64 r3.id, .int .i64 r3.next, .slice r3.procA r3.procs.length r3.procC, .slice r3.semA r3.sems.length r3.semC, .slice r3.eventA r3.events.length r3.eventC, .slice r3.boardA r3.boards.length r3.boardC, .slice r3.bufferA r3.buffers.length r3.bufferC, .slice r3.portA r3.ports.length r3.portC] 32)) := hb.alloc hb.size _
 have H3 : Hid (PartIn (V3.alloc (.cells #[.int .i64 r3.id, .int .i64 r3.next, .slice r3.procA r3.procs.length r3.procC, .slice r3.semA r3.sems.length r3.semC, .slice r3.eventA r3.events.length r3.eventC, .slice r3.boardA r3.boards.length r3.boardC, .slice r3.bufferA r3.buffers.length r3.bufferC, .slice r3.portA r3.ports.length r3.portC] 32)) V3.heap.size W2.heap.size r3) := ⟨heap_alloc_new _ _, ho.below ((Below.refl _ _).alloc (Nat.le_refl _) _)⟩
 have HP3 : Hid (r3.pure = (startedP p.pure id).getD zeroPart) := hp
 have HR : Hid ((∀ g ∈ r3.blocks, w.heap.size < g ∧ g < V3.heap.size) ∧ w.heap.size < V3.heap.size) := by
  have h5 := (Array.getElem?_eq_some_iff.1 HX.out.1).1
  have h6 := hb.size
  exact ⟨fun g hg => by have := (ho.lt g hg); omega, by omega⟩
 clear ho hp HQ
 replace HX : Hid (SrcS p w (V3.alloc (.cells #[.int .i64 r3.id, .int .i64 r3.next, .slice r3.procA r3.procs.length r3.procC, .slice r3.semA r3.sems.length r3.semC, .slice r3.eventA r3.events.length r3.eventC, .slice r3.boardA r3.boards.length r3.boardC, .slice r3.bufferA r3.buffers.length r3.bufferC, .slice r3.portA r3.ports.length r3.portC] 32))) := HX.out.below hb2
 obtain ⟨m0, m1, m2, m3, m4, m5, m6, m7⟩ := srcCells HX.out.1
 unfold PartD.cells
 go_wp2_with fail
 clear m0 m1 m2 m3 m4 m5 m6 m7
 generalize V3.alloc (.cells #[.int .i64 r3.id, .int .i64 r3.next, .slice r3.procA r3.procs.length r3.procC, .slice r3.semA r3.sems.length r3.semC, .slice r3.eventA r3.events.length r3.eventC, .slice r3.boardA r3.boards.length r3.boardC, .slice r3.bufferA r3.buffers.length r3.bufferC, .slice r3.portA r3.ports.length r3.portC] 32) = W3 at *
 have hxl := H3.out.1.lt
 generalize V3.heap.size = X3 at *
 clear hb2 hb
 refine (toPart_l p W3 HSM.out.1 (HC.out.below HX.out.2)).mono ?_
 rintro e V4 ⟨p4, rfl, ho, hp, hb⟩
 have hb2 : Below W3.heap.size W3 (V4.alloc (.cells #[.int .i64 p4.id, .int .i64 p4.next, .slice p4.procA p4.procs.length p4.procC, .slice p4.semA p4.sems.length p4.semC, .slice p4.eventA p4.events.length p4.eventC, .slice p4.boardA p4.boards.length p4.boardC, .slice p4.bufferA p4.buffers.length p4.bufferC, .slice p4.portA p4.ports.length p4.portC] 32)) := hb.alloc hb.size _
 have H4 : Hid (PartIn (V4.alloc (.cells #[.int .i64 p4.id, .int .i64 p4.next, .slice p4.procA p4.procs.length p4.procC, .slice p4.semA p4.sems.length p4.semC, .slice p4.eventA p4.events.length p4.eventC, .slice p4.boardA p4.boards.length p4.boardC, .slice p4.bufferA p4.buffers.length p4.bufferC, .slice p4.portA p4.ports.length p4.portC] 32)) V4.heap.size W3.heap.size p4) := ⟨heap_alloc_new _ _, ho.below ((Below.refl _ _).alloc (Nat.le_refl _) _)⟩
 have HP4 : Hid (p4.pure = p.pure ∧ p4.pure.Small ∧ (∀ g ∈ p4.blocks, X3 < g ∧ g < V4.heap.size) ∧ X3 < V4.heap.size) := ⟨hp, by rw [hp]; exact HSM.out.2.1, fun g hg => by have := ho.lt g hg; omega, by have := hb.size; omega⟩
 unfold PartD.cells
 go_wp2_with fail
 generalize V4.alloc (.cells #[.int .i64 p4.id, .int .i64 p4.next, .slice p4.procA p4.procs.length p4.procC, .slice p4.semA p4.sems.length p4.semC, .slice p4.eventA p4.events.length p4.eventC, .slice p4.boardA p4.boards.length p4.boardC, .slice p4.bufferA p4.buffers.length p4.bufferC, .slice p4.portA p4.ports.length p4.portC] 32) = W4 at *
 have hxl4 := H4.out.1.lt
 generalize V4.heap.size = X4 at *
 replace HX : Hid (SrcS p w W4) := HX.out.below hb2
 replace H3 : Hid (PartIn W4 X3 W2.heap.size r3) := H3.out.below hb2
 clear hb2 hb ho hp hxl
 refine (implStarted_any p4 id W4 HWid.out (small_good HP4.out.2.1 H4.out.2)).mono ?_
 rintro e V5 hE
 rw [HP4.out.1] at hE
 obtain ⟨r5, rfl, ho, hp, hb⟩ := hE
 rw [HOK.out]
 have hb2 : Below W4.heap.size W4 (V5.alloc (.cells #[.int .i64 r5.id, .int .i64 r5.next, .slice r5.procA r5.procs.length r5.procC, .slice r5.semA r5.sems.length r5.semC, .slice r5.eventA r5.events.length r5.eventC, .slice r5.boardA r5.boards.length r5.boardC, .slice r5.bufferA r5.buffers.length r5.bufferC, .slice r5.portA r5.ports.length r5.portC] 32)) := hb.alloc hb.size _
 have H5 : Hid (PartIn (V5.alloc (.cells #[.int .i64 r5.id, .int .i64 r5.next, .slice r5.procA r5.procs.length r5.procC, .slice r5.semA r5.sems.length r5.semC, .slice r5.eventA r5.events.length r5.eventC, .slice r5.boardA r5.boards.length r5.boardC, .slice r5.bufferA r5.buffers.length r5.bufferC, .slice r5.portA r5.ports.length r5.portC] 32)) V5.heap.size W4.heap.size r5) := ⟨heap_alloc_new _ _, ho.below ((Below.refl _ _).alloc (Nat.le_refl _) _)⟩
 have HP5 : Hid (r5.pure = (startedP p.pure id).getD zeroPart ∧ (∀ g ∈ r5.blocks, X4 < g ∧ g < V5.heap.size) ∧ X4 < V5.heap.size) := ⟨hp, fun g hg => by have := (ho.lt g hg); omega, by have := hb.size; omega⟩
 clear ho hp
 replace HX : Hid (SrcS p w (V5.alloc (.cells #[.int .i64 r5.id, .int .i64 r5.next, .slice r5.procA r5.procs.length r5.procC, .slice r5.semA r5.sems.length r5.semC, .slice r5.eventA r5.events.length r5.eventC, .slice r5.boardA r5.boards.length r5.boardC, .slice r5.bufferA r5.buffers.length r5.bufferC, .slice r5.portA r5.ports.length r5.portC] 32))) := HX.out.below hb2
 replace H3 : Hid (PartIn (V5.alloc (.cells #[.int .i64 r5.id, .int .i64 r5.next, .slice r5.procA r5.procs.length r5.procC, .slice r5.semA r5.sems.length r5.semC, .slice r5.eventA r5.events.length r5.eventC, .slice r5.boardA r5.boards.length r5.boardC, .slice r5.bufferA r5.buffers.length r5.bufferC, .slice r5.portA r5.ports.length r5.portC] 32)) X3 W2.heap.size r3) := H3.out.below hb2
 replace H4 : Hid (PartIn (V5.alloc (.cells #[.int .i64 r5.id, .int .i64 r5.next, .slice r5.procA r5.procs.length r5.procC, .slice r5.semA r5.sems.length r5.semC, .slice r5.eventA r5.events.length r5.eventC, .slice r5.boardA r5.boards.length r5.boardC, .slice r5.bufferA r5.buffers.length r5.bufferC, .slice r5.portA r5.ports.length r5.portC] 32)) X4 W3.heap.size p4) := H4.out.below hb2
 obtain ⟨v0, v1, v2, v3, v4, v5, v6, v7⟩ := H3.out.1.cells
 unfold PartD.cells
 go_wp2_with fail
 clear v0 v1 v2 v3 v4 v5 v6 v7
 generalize V5.alloc (.cells #[.int .i64 r5.id, .int .i64 r5.next, .slice r5.procA r5.procs.length r5.procC, .slice r5.semA r5.sems.length r5.semC, .slice r5.eventA r5.events.length r5.eventC, .slice r5.boardA r5.boards.length r5.boardC, .slice r5.bufferA r5.buffers.length r5.bufferC, .slice r5.portA r5.ports.length r5.portC] 32) = W5 at *
 generalize V5.heap.size = X5 at *
 clear hb2 hb hxl4
 have HE : Hid (r3.pure = r5.pure) := HP3.out.trans HP5.out.1.symm
 have HL : Hid (r5.pure.Small) := by rw [HP5.out.1]; exact (turned_small HSM.out.2.1 (fun hp y _ hs => ⟨hs.1, hs.2.1, hs.2.2.1, wf_next hp⟩))
 refine (eqPart_l r5 r3 W5 HL.out HE.out H5.out.2.at H3.out.2.at).mono ?_
 rintro e W6 ⟨rfl, hb⟩
 replace HX : Hid (SrcS p w W6) := HX.out.below hb
 replace H3 : Hid (PartIn W6 X3 W2.heap.size r3) := H3.out.below hb
 replace H4 : Hid (PartIn W6 X4 W3.heap.size p4) := H4.out.below hb
 replace H5 : Hid (PartIn W6 X5 W4.heap.size r5) := H5.out.below hb
 clear hb
 go_wp2_with fail
 have HS : Hid (PartBox W6 X4 p4 ∧ W6.heap[w.heap.size]? = some (.cells p.cells 73 (0, 0))) := ⟨H4.out.1, HX.out.1⟩
 refine wp_region_held_drew (S := fun w' => PartBox w' X4 p4 ∧ w'.heap[w.heap.size]? = some (.cells p.cells 73 (0, 0))) (by kernel_rfl) HS.out (fun hHeld => ?_)
 refine wpAnyH_take (i := 0) (v := .agg #[.int .i64 p4.id, .int .i64 p4.next, .slice p4.procA p4.procs.length p4.procC, .slice p4.semA p4.sems.length p4.semC, .slice p4.eventA p4.events.length p4.eventC, .slice p4.boardA p4.boards.length p4.boardC, .slice p4.bufferA p4.buffers.length p4.bufferC, .slice p4.portA p4.ports.length p4.portC]) rfl (by kernel_rfl) (by kernel_rfl) (by kernel_rfl) (fun _ _ _ h => h) (yieldsIf_row (by rfl) 32 _ rfl X4 (by rfl) 32 _ _ (fun _ h => h.1) Tryz.underlying32 rfl (by kernel_rfl)) hHeld ?_
 simp only [List.getElem_toArray, List.getElem_cons_zero, Act.put, List.setIfInBounds_toArray, List.set_cons_zero, List.set_cons_succ]
 refine wpAnyH_take (i := 1) (v := .agg #[.int .i64 p.id, .int .i64 p.next, .slice p.procA p.procs.length p.procC, .slice p.semA p.sems.length p.semC, .slice p.eventA p.events.length p.eventC, .slice p.boardA p.boards.length p.boardC, .slice p.bufferA p.buffers.length p.bufferC, .slice p.portA p.ports.length p.portC]) rfl (by kernel_rfl) (by kernel_rfl) (by kernel_rfl) (fun _ _ _ h => h) (yieldsIf_row (by rfl) 73 _ rfl w.heap.size (by rfl) 73 _ _ (fun _ h => h.2) Tryz.underlying73 rfl (by kernel_rfl)) hHeld ?_
 simp only [List.getElem_toArray, List.getElem_cons_zero, List.getElem_cons_succ, Act.put, List.setIfInBounds_toArray, List.set_cons_zero, List.set_cons_succ]
 refine wpAnyH_ready (rs := [2]) (by kernel_rfl) (by simp) ?_
 refine AllReadyH.cons rfl (fun K hK => ?_) AllReadyH.nil
 simp only [List.getElem_toArray, List.getElem_cons_zero, List.getElem_cons_succ]
 rw [if_pos (by rfl)]
 go_wp2_with fail
 refine (toPart_l p W6.drew HSM.out.1 (HC.out.below HX.out.2.drew)).mono ?_
 rintro e W7 ⟨p6, rfl, ho, hp, hb2⟩
 have hb : Below W6.heap.size W6 W7 := below_undrew' hb2
 have H7 : Hid (PartD.At W7 p6 ∧ p6.pure = p4.pure) := ⟨ho.at, by rw [hp, HP4.out.1]⟩
 replace HX : Hid (SrcS p w W7) := HX.out.below hb
 replace H3 : Hid (PartIn W7 X3 W2.heap.size r3) := H3.out.below hb
 replace H4 : Hid (PartIn W7 X4 W3.heap.size p4) := H4.out.below hb
 replace H5 : Hid (PartIn W7 X5 W4.heap.size r5) := H5.out.below hb
 clear hb hb2 ho hp HS hHeld
 refine hK.out _ _ ⟨H4.out.1, HX.out.1⟩ (fun hHeld => ?_)
 clear hK K
 try simp only [List.getElem_toArray, List.getElem_cons_zero, List.getElem_cons_succ, Act.put, List.setIfInBounds_toArray, List.set_cons_zero, List.set_cons_succ]
 refine wpAnyH_ready (rs := [3]) (by kernel_rfl) (by simp) ?_
 refine AllReadyH.cons rfl (fun K hK => ?_) AllReadyH.nil
 simp only [List.getElem_toArray, List.getElem_cons_zero, List.getElem_cons_succ]
 rw [if_pos (by rfl)]
 go_wp2_with fail
 refine (eqPart_l p4 p6 W7 HP4.out.2.1 H7.out.2 H4.out.2.at H7.out.1).mono ?_
 rintro e W8 ⟨rfl, hb⟩
 replace HX : Hid (SrcS p w W8) := HX.out.below hb
 replace H3 : Hid (PartIn W8 X3 W2.heap.size r3) := H3.out.below hb
 replace H4 : Hid (PartIn W8 X4 W3.heap.size p4) := H4.out.below hb
 replace H5 : Hid (PartIn W8 X5 W4.heap.size r5) := H5.out.below hb
 clear hb H7
 refine hK.out _ _ ⟨H4.out.1, HX.out.1⟩ (fun hHeld => ?_)
 clear hK K
 try simp only [List.getElem_toArray, List.getElem_cons_zero, List.getElem_cons_succ, Act.put, List.setIfInBounds_toArray, List.set_cons_zero, List.set_cons_succ]
 refine wpAnyH_take (i := 4) (v := .bool false) rfl (by kernel_rfl) (by kernel_rfl) (by kernel_rfl) (fun _ _ _ h => h) (Or.inl ⟨by rfl, fun _ _ => rfl⟩) ⟨H4.out.1, HX.out.1⟩ ?_
 simp only [List.getElem_toArray, List.getElem_cons_zero, List.getElem_cons_succ, Act.put, List.setIfInBounds_toArray, List.set_cons_zero, List.set_cons_succ]
 refine wpAnyH_done (by kernel_rfl) ?_ _
 clear hHeld
 obtain ⟨b0, b1, b2, b3, b4, b5, b6, b7⟩ := H4.out.1.cells
 have HCT : Hid (1 + (cntPart p4 : Nat) ≤ (90000000 : Int)) := by have h5 := cnt_part p4; rw [HP4.out.1] at h5; have h6 := HSM.out.2.2; show (1 : Int) + _ ≤ _; omega
 go_wp2_with fail
 clear b0 b1 b2 b3 b4 b5 b6 b7
 refine (markPart_l p4 1 W8 W3.heap.size (small_cnt HP4.out.2.1) (by omega) HCT.out H4.out.2).mono ?_
 rintro e W9 ⟨rfl, -, hkb⟩
 have hrw := HR.out
 have hr4 := HP4.out.2.2
 have hr5 := HP5.out.2
 replace HX : Hid (SrcS p w W9) := HX.out.kept hkb fun g hg => by have := hr4.1 g hg; omega
 replace H3 : Hid (PartIn W9 X3 W2.heap.size r3) := H3.out.kept hkb (fun hm => by have := hr4.1 _ hm; omega) (fun g hg hm => by have := hr4.1 g hm; have := hrw.1 g hg; omega)
 replace H5 : Hid (PartIn W9 X5 W4.heap.size r5) := H5.out.kept hkb (fun hm => by have := hr4.1 _ hm; omega) (fun g hg hm => by have := hr4.1 g hm; have := hr5.1 g hg; omega)
 clear H4 hkb hrw hr4 hr5
 have nn : decide ((1 : Int) + (cntPart p4 : Nat) < 0) = false := decide_eq_false (by omega)
 obtain ⟨u0, u1, u2, u3, u4, u5, u6, u7⟩ := H5.out.1.cells
 obtain ⟨v0, v1, v2, v3, v4, v5, v6, v7⟩ := H3.out.1.cells
 go_wp2_with fail
 clear u0 u1 u2 u3 u4 u5 u6 u7
 clear v0 v1 v2 v3 v4 v5 v6 v7
 clear nn
 refine (eqPart_l r5 r3 W9 HL.out HE.out H5.out.2.at H3.out.2.at).mono ?_
 rintro e W10 ⟨rfl, hb⟩
 replace HX : Hid (SrcS p w W10) := HX.out.below hb
 replace H3 : Hid (PartIn W10 X3 W2.heap.size r3) := H3.out.below hb
 replace H5 : Hid (PartIn W10 X5 W4.heap.size r5) := H5.out.below hb
 clear hb
 obtain ⟨u0, u1, u2, u3, u4, u5, u6, u7⟩ := H5.out.1.cells
 go_wp2_with fail
 clear u0 u1 u2 u3 u4 u5 u6 u7
 have HCR : Hid (1 + (cntPart r5 : Nat) ≤ (90000000 : Int)) := by have h5 := cnt_part r5; rw [HP5.out.1] at h5; have h6 : ((startedP p.pure id).getD zeroPart).total ≤ 1048576 := Nat.le_trans (turned_total (fun _ => rfl)) HSM.out.2.2; show (1 : Int) + _ ≤ _; omega
 refine (markPart_l r5 1 W10 W4.heap.size (small_cnt HL.out) (by omega) HCR.out H5.out.2).mono ?_
 rintro e W11 ⟨rfl, hmk, hkb⟩
 have hrw := HR.out
 have hr4 := HP4.out.2.2
 have hr5 := HP5.out.2
 replace HX : Hid (SrcS p w W11) := HX.out.kept hkb fun g hg => by have := hr5.1 g hg; omega
 replace H3 : Hid (PartIn W11 X3 W2.heap.size r3) := H3.out.kept hkb (fun hm => by have := hr5.1 _ hm; omega) (fun g hg hm => by have := hr5.1 g hm; have := hrw.1 g hg; omega)
 have HB5 : Hid (PartBox W11 X5 r5) := (hkb.same _ H5.out.1.lt fun hm => by have := hr5.1 _ hm; omega).trans H5.out.1
 have HM : Hid (PartOwn W11 W4.heap.size (mkPart 1 r5)) := hmk
 clear H5 hkb hmk hrw hr4 hr5
 obtain ⟨u0, u1, u2, u3, u4, u5, u6, u7⟩ := HB5.out.cells
 go_wp2_with fail
 clear u0 u1 u2 u3 u4 u5 u6 u7
 refine (heldPart_l r5 1 W11 (small_cnt HL.out) (by omega) HCR.out HM.out.at).mono ?_
 rintro e W12 ⟨rfl, hb⟩
 replace HX : Hid (SrcS p w W12) := HX.out.below hb
 replace H3 : Hid (PartIn W12 X3 W2.heap.size r3) := H3.out.below hb
 replace HB5 : Hid (PartBox W12 X5 r5) := HB5.out.below hb
 replace HM : Hid (PartOwn W12 W4.heap.size (mkPart 1 r5)) := HM.out.below hb
 clear hb
 have nq : ¬ (1 : Int) + (cntPart r5 : Nat) < 0 := by omega
 have nd : ((1 : Int) + (cntPart r5 : Nat) != 1 + (cntPart r5 : Nat)) = false := by simp
 obtain ⟨m0, m1, m2, m3, m4, m5, m6, m7⟩ := srcCells HX.out.1
 go_wp2_with fail
 clear m0 m1 m2 m3 m4 m5 m6 m7
 refine (toPart_l p W12 HSM.out.1 (HC.out.below HX.out.2)).mono ?_
 rintro e W13 ⟨p13, rfl, ho, hp, hb⟩
 have HQ : Hid (PartOwn W13 W12.heap.size p13 ∧ p13.pure = p.pure ∧ p13.pure.Small) := ⟨ho, hp, by rw [hp]; exact HSM.out.2.1⟩
 replace HX : Hid (SrcS p w W13) := HX.out.below hb
 replace H3 : Hid (PartIn W13 X3 W2.heap.size r3) := H3.out.below hb
 replace HB5 : Hid (PartBox W13 X5 r5) := HB5.out.below hb
 replace HM : Hid (PartOwn W13 W4.heap.size (mkPart 1 r5)) := HM.out.below hb
 clear ho hp hb
 go_wp2_with fail
 refine (implStarted_any p13 id W13 HWid.out (small_good HQ.out.2.2 HQ.out.1)).mono ?_
 rintro e V14 hE
 rw [HQ.out.2.1] at hE
 obtain ⟨r14, rfl, ho, hp14, hb⟩ := hE
 rw [HOK.out]
 have hb2 : Below W13.heap.size W13 (V14.alloc (.cells #[.int .i64 r14.id, .int .i64 r14.next, .slice r14.procA r14.procs.length r14.procC, .slice r14.semA r14.sems.length r14.semC, .slice r14.eventA r14.events.length r14.eventC, .slice r14.boardA r14.boards.length r14.boardC, .slice r14.bufferA r14.buffers.length r14.bufferC, .slice r14.portA r14.ports.length r14.portC] 32)) := hb.alloc hb.size _
 have H14 : Hid (PartIn (V14.alloc (.cells #[.int .i64 r14.id, .int .i64 r14.next, .slice r14.procA r14.procs.length r14.procC, .slice r14.semA r14.sems.length r14.semC, .slice r14.eventA r14.events.length r14.eventC, .slice r14.boardA r14.boards.length r14.boardC, .slice r14.bufferA r14.buffers.length r14.bufferC, .slice r14.portA r14.ports.length r14.portC] 32)) V14.heap.size W13.heap.size r14) := ⟨heap_alloc_new _ _, ho.below ((Below.refl _ _).alloc (Nat.le_refl _) _)⟩
 have HE14 : Hid (r3.pure = r14.pure) := HP3.out.trans hp14.symm
 have HL14 : Hid (r14.pure.Small) := by rw [hp14]; exact (turned_small HSM.out.2.1 (fun hp y _ hs => ⟨hs.1, hs.2.1, hs.2.2.1, wf_next hp⟩))
 clear ho hp14 HQ
 replace HX : Hid (SrcS p w (V14.alloc (.cells #[.int .i64 r14.id, .int .i64 r14.next, .slice r14.procA r14.procs.length r14.procC, .slice r14.semA r14.sems.length r14.semC, .slice r14.eventA r14.events.length r14.eventC, .slice r14.boardA r14.boards.length r14.boardC, .slice r14.bufferA r14.buffers.length r14.bufferC, .slice r14.portA r14.ports.length r14.portC] 32))) := HX.out.below hb2
 replace H3 : Hid (PartIn (V14.alloc (.cells #[.int .i64 r14.id, .int .i64 r14.next, .slice r14.procA r14.procs.length r14.procC, .slice r14.semA r14.sems.length r14.semC, .slice r14.eventA r14.events.length r14.eventC, .slice r14.boardA r14.boards.length r14.boardC, .slice r14.bufferA r14.buffers.length r14.bufferC, .slice r14.portA r14.ports.length r14.portC] 32)) X3 W2.heap.size r3) := H3.out.below hb2
 replace HB5 : Hid (PartBox (V14.alloc (.cells #[.int .i64 r14.id, .int .i64 r14.next, .slice r14.procA r14.procs.length r14.procC, .slice r14.semA r14.sems.length r14.semC, .slice r14.eventA r14.events.length r14.eventC, .slice r14.boardA r14.boards.length r14.boardC, .slice r14.bufferA r14.buffers.length r14.bufferC, .slice r14.portA r14.ports.length r14.portC] 32)) X5 r5) := HB5.out.below hb2
 replace HM : Hid (PartOwn (V14.alloc (.cells #[.int .i64 r14.id, .int .i64 r14.next, .slice r14.procA r14.procs.length r14.procC, .slice r14.semA r14.sems.length r14.semC, .slice r14.eventA r14.events.length r14.eventC, .slice r14.boardA r14.boards.length r14.boardC, .slice r14.bufferA r14.buffers.length r14.bufferC, .slice r14.portA r14.ports.length r14.portC] 32)) W4.heap.size (mkPart 1 r5)) := HM.out.below hb2
 obtain ⟨v0, v1, v2, v3, v4, v5, v6, v7⟩ := H3.out.1.cells
 unfold PartD.cells
 go_wp2_with fail
 clear v0 v1 v2 v3 v4 v5 v6 v7
 generalize V14.alloc (.cells #[.int .i64 r14.id, .int .i64 r14.next, .slice r14.procA r14.procs.length r14.procC, .slice r14.semA r14.sems.length r14.semC, .slice r14.eventA r14.events.length r14.eventC, .slice r14.boardA r14.boards.length r14.boardC, .slice r14.bufferA r14.buffers.length r14.bufferC, .slice r14.portA r14.ports.length r14.portC] 32) = W14 at *
 generalize V14.heap.size = X14 at *
 clear hb2 hb
 refine (eqPart_l r14 r3 W14 HL14.out HE14.out H14.out.2.at H3.out.2.at).mono ?_
 rintro e W15 ⟨rfl, hb⟩
 replace HX : Hid (SrcS p w W15) := HX.out.below hb
 replace H3 : Hid (PartIn W15 X3 W2.heap.size r3) := H3.out.below hb
 replace HB5 : Hid (PartBox W15 X5 r5) := HB5.out.below hb
 replace HM : Hid (PartOwn W15 W4.heap.size (mkPart 1 r5)) := HM.out.below hb
 clear hb
 obtain ⟨u0, u1, u2, u3, u4, u5, u6, u7⟩ := HB5.out.cells
 go_wp2_with fail
 clear u0 u1 u2 u3 u4 u5 u6 u7
 refine (heldPart_l r5 1 W15 (small_cnt HL.out) (by omega) HCR.out HM.out.at).mono ?_
 rintro e W16 ⟨rfl, hb⟩
 replace HX : Hid (SrcS p w W16) := HX.out.below hb
 replace H3 : Hid (PartIn W16 X3 W2.heap.size r3) := H3.out.below hb
 replace HB5 : Hid (PartBox W16 X5 r5) := HB5.out.below hb
 replace HM : Hid (PartOwn W16 W4.heap.size (mkPart 1 r5)) := HM.out.below hb
 clear hb
 go_wp2
 go_ret
 exact ⟨rfl, HX.out.2⟩

end Go.Proofs.YtkbcplnlehdjfaaGreat
