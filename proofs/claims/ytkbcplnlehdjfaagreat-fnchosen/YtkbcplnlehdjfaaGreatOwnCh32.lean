/- What the proof leans on, part 32: WithBoardS, WithN. -/
import Derived.Test.YtkbcplnlehdjfaaGreatOwnCh29
import Derived.Test.YtkbcplnlehdjfaaGreatOwnCh30

namespace Go.Proofs.YtkbcplnlehdjfaaGreat
open Go.RowKit Go.Maps
attribute [local go_sem ↓] Go.wp_at_zero Go.wp_at_succ
set_option maxRecDepth 100000 in
set_option maxHeartbeats 8000000 in
theorem specWithBoard_any (p : PartD) (id : Int) (w : World) (b0 : Nat) (hwf : (Lit.int .i64 id).wf = true) (hsm : p.pure.Small) (h : PartOwn w b0 p) :
  Calls Tryz.prog 40 #[.agg p.cells, .int .i64 id] w fun e w' => TurnRes w (withR p.pure { p.pure with boards := insF (·.id) (⟨id, false, ⟨#[]⟩⟩ : BoardD) p.pure.boards }) e w' := by
 have HB : Hid (PartBox ((w.alloc (.cells #[.int .i64 p.id, .int .i64 p.next, .slice p.procA p.procs.length p.procC, .slice p.semA p.sems.length p.semC, .slice p.eventA p.events.length p.eventC, .slice p.boardA p.boards.length p.boardC, .slice p.bufferA p.buffers.length p.bufferC, .slice p.portA p.ports.length p.portC] 32)).alloc (.cells #[.int .i64 0, .int .i64 0, .slice none 0 0, .slice none 0 0, .slice none 0 0, .slice none 0 0, .slice none 0 0, .slice none 0 0] 32)) w.heap.size p ∧ PartOwn ((w.alloc (.cells #[.int .i64 p.id, .int .i64 p.next, .slice p.procA p.procs.length p.procC, .slice p.semA p.sems.length p.semC, .slice p.eventA p.events.length p.eventC, .slice p.boardA p.boards.length p.boardC, .slice p.bufferA p.buffers.length p.bufferC, .slice p.portA p.ports.length p.portC] 32)).alloc (.cells #[.int .i64 0, .int .i64 0, .slice none 0 0, .slice none 0 0, .slice none 0 0, .slice none 0 0, .slice none 0 0, .slice none 0 0] 32)) b0 p ∧ Below w.heap.size w ((w.alloc (.cells #[.int .i64 p.id, .int .i64 p.next, .slice p.procA p.procs.length p.procC, .slice p.semA p.sems.length p.semC, .slice p.eventA p.events.length p.eventC, .slice p.boardA p.boards.length p.boardC, .slice p.bufferA p.buffers.length p.bufferC, .slice p.portA p.ports.length p.portC] 32)).alloc (.cells #[.int .i64 0, .int .i64 0, .slice none 0 0, .slice none 0 0, .slice none 0 0, .slice none 0 0, .slice none 0 0, .slice none 0 0] 32)) ∧ ((w.alloc (.cells #[.int .i64 p.id, .int .i64 p.next, .slice p.procA p.procs.length p.procC, .slice p.semA p.sems.length p.semC, .slice p.eventA p.events.length p.eventC, .slice p.boardA p.boards.length p.boardC, .slice p.bufferA p.buffers.length p.bufferC, .slice p.portA p.ports.length p.portC] 32)).alloc (.cells #[.int .i64 0, .int .i64 0, .slice none 0 0, .slice none 0 0, .slice none 0 0, .slice none 0 0, .slice none 0 0, .slice none 0 0] 32)).heap[w.heap.size + 1]? = some (.cells #[.int .i64 0, .int .i64 0, .slice none 0 0, .slice none 0 0, .slice none 0 0, .slice none 0 0, .slice none 0 0, .slice none 0 0] 32 (0, 0))) := by
  have b1 : Below w.heap.size w ((w.alloc (.cells #[.int .i64 p.id, .int .i64 p.next, .slice p.procA p.procs.length p.procC, .slice p.semA p.sems.length p.semC, .slice p.eventA p.events.length p.eventC, .slice p.boardA p.boards.length p.boardC, .slice p.bufferA p.buffers.length p.bufferC, .slice p.portA p.ports.length p.portC] 32)).alloc (.cells #[.int .i64 0, .int .i64 0, .slice none 0 0, .slice none 0 0, .slice none 0 0, .slice none 0 0, .slice none 0 0, .slice none 0 0] 32)) := ((Below.refl _ _).alloc (Nat.le_refl _) _).alloc (by simp) _
  exact ⟨(heap_alloc_old _ _ (by simp)).trans (heap_alloc_new _ _), h.below b1, b1, heap_alloc2_new _ _ _⟩
 have HFT : Hid (p.Fit ∧ (∀ x ∈ p.procs, x.Short) ∧ p.pure.Small ∧ (Lit.int .i64 id).wf = true) := ⟨small_fit hsm, fun x hx => (small_proc hsm hx).1, hsm, hwf⟩
 have hpl := HFT.out.1.short.boards
 have hcap : p.boards.length ≤ p.boardC := own_cap h.boards
 have hpb0 : ∀ g ∈ p.blocks, g < w.heap.size := fun g hg => (h.lt g hg).2
 clear h hsm hwf
 obtain ⟨m0, m1, m2, m3, m4, m5, m6, m7⟩ := HB.out.1.cells
 unfold PartD.cells
 go_enter Tryz.func40, Tryz.ntmps40
 go_wp2_with fail
 generalize (w.alloc (.cells #[.int .i64 p.id, .int .i64 p.next, .slice p.procA p.procs.length p.procC, .slice p.semA p.sems.length p.semC, .slice p.eventA p.events.length p.eventC, .slice p.boardA p.boards.length p.boardC, .slice p.bufferA p.buffers.length p.bufferC, .slice p.portA p.ports.length p.portC] 32)).alloc (.cells #[.int .i64 0, .int .i64 0, .slice none 0 0, .slice none 0 0, .slice none 0 0, .slice none 0 0, .slice none 0 0, .slice none 0 0] 32) = W at *
 clear m0 m1 m2 m3 m4 m5 m6 m7
 refine (l3Copy_any p W HFT.out.1 HFT.out.2.1 HB.out.2.1.at).mono ?_
 rintro e W1 ⟨q, rfl, hown, hpu, hb1⟩
 have hb2 : Below W1.heap.size W1 (W1.alloc (.cells #[.int .i64 q.id, .int .i64 q.next, .slice q.procA q.procs.length q.procC, .slice q.semA q.sems.length q.semC, .slice q.eventA q.events.length q.eventC, .slice q.boardA q.boards.length q.boardC, .slice q.bufferA q.buffers.length q.bufferC, .slice q.portA q.ports.length q.portC] 32)) := (Below.refl _ _).alloc (Nat.le_refl _) _
 have hlt : w.heap.size + 1 < W.heap.size := (Array.getElem?_eq_some_iff.1 HB.out.2.2.2).1
 have hb3 : Below W.heap.size W (W1.alloc (.cells #[.int .i64 q.id, .int .i64 q.next, .slice q.procA q.procs.length q.procC, .slice q.semA q.sems.length q.semC, .slice q.eventA q.events.length q.eventC, .slice q.boardA q.boards.length q.boardC, .slice q.bufferA q.buffers.length q.bufferC, .slice q.portA q.ports.length q.portC] 32)) := hb1.trans (hb2.mono hb1.size)
 have hq1 : ∀ g ∈ q.blocks, g < W1.heap.size := fun g hg => (hown.lt g hg).2
 have HQ : Hid (PartBox (W1.alloc (.cells #[.int .i64 q.id, .int .i64 q.next, .slice q.procA q.procs.length q.procC, .slice q.semA q.sems.length q.semC, .slice q.eventA q.events.length q.eventC, .slice q.boardA q.boards.length q.boardC, .slice q.bufferA q.buffers.length q.bufferC, .slice q.portA q.ports.length q.portC] 32)) W1.heap.size q ∧ PartOwn (W1.alloc (.cells #[.int .i64 q.id, .int .i64 q.next, .slice q.procA q.procs.length q.procC, .slice q.semA q.sems.length q.semC, .slice q.eventA q.events.length q.eventC, .slice q.boardA q.boards.length q.boardC, .slice q.bufferA q.buffers.length q.bufferC, .slice q.portA q.ports.length q.portC] 32)) W.heap.size q ∧ q.pure = p.pure ∧ (∀ g ∈ q.blocks, g < W1.heap.size) ∧ W.heap.size ≤ W1.heap.size ∧ w.heap.size + 1 < W.heap.size ∧ W1.heap.size < (W1.alloc (.cells #[.int .i64 q.id, .int .i64 q.next, .slice q.procA q.procs.length q.procC, .slice q.semA q.sems.length q.semC, .slice q.eventA q.events.length q.eventC, .slice q.boardA q.boards.length q.boardC, .slice q.bufferA q.buffers.length q.bufferC, .slice q.portA q.ports.length q.portC] 32)).heap.size) := ⟨heap_alloc_new _ _, hown.below hb2, hpu, hq1, hb1.size, hlt, by simp⟩
 replace HB : Hid (PartBox (W1.alloc (.cells #[.int .i64 q.id, .int .i64 q.next, .slice q.procA q.procs.length q.procC, .slice q.semA q.sems.length q.semC, .slice q.eventA q.events.length q.eventC, .slice q.boardA q.boards.length q.boardC, .slice q.bufferA q.buffers.length q.bufferC, .slice q.portA q.ports.length q.portC] 32)) w.heap.size p ∧ PartOwn (W1.alloc (.cells #[.int .i64 q.id, .int .i64 q.next, .slice q.procA q.procs.length q.procC, .slice q.semA q.sems.length q.semC, .slice q.eventA q.events.length q.eventC, .slice q.boardA q.boards.length q.boardC, .slice q.bufferA q.buffers.length q.bufferC, .slice q.portA q.ports.length q.portC] 32)) b0 p ∧ Below w.heap.size w (W1.alloc (.cells #[.int .i64 q.id, .int .i64 q.next, .slice q.procA q.procs.length q.procC, .slice q.semA q.sems.length q.semC, .slice q.eventA q.events.length q.eventC, .slice q.boardA q.boards.length q.boardC, .slice q.bufferA q.buffers.length q.bufferC, .slice q.portA q.ports.length q.portC] 32)) ∧ (W1.alloc (.cells #[.int .i64 q.id, .int .i64 q.next, .slice q.procA q.procs.length q.procC, .slice q.semA q.sems.length q.semC, .slice q.eventA q.events.length q.eventC, .slice q.boardA q.boards.length q.boardC, .slice q.bufferA q.buffers.length q.bufferC, .slice q.portA q.ports.length q.portC] 32)).heap[w.heap.size + 1]? = some (.cells #[.int .i64 0, .int .i64 0, .slice none 0 0, .slice none 0 0, .slice none 0 0, .slice none 0 0, .slice none 0 0, .slice none 0 0] 32 (0, 0))) := ⟨HB.out.1.below hb3, HB.out.2.1.below hb3, HB.out.2.2.1.trans (hb3.mono HB.out.2.2.1.size), (hb3.block _ hlt).trans HB.out.2.2.2⟩
 have HPB : Hid (∀ g ∈ p.blocks, g < w.heap.size) := fun g hg => hpb0 g hg
 clear hown hpu hb1 hb2 hb3 hq1 hlt hpb0
 obtain ⟨m0, m1, m2, m3, m4, m5, m6, m7⟩ := HB.out.1.cells
 unfold PartD.cells
 go_wp2_with fail
 generalize W1.alloc (.cells #[.int .i64 q.id, .int .i64 q.next, .slice q.procA q.procs.length q.procC, .slice q.semA q.sems.length q.semC, .slice q.eventA q.events.length q.eventC, .slice q.boardA q.boards.length q.boardC, .slice q.bufferA q.buffers.length q.bufferC, .slice q.portA q.ports.length q.portC] 32) = W2 at *
 clear m0 m1 m2 m3 m4 m6 m7
 generalize W1.heap.size = o at *
 go_loop [7] (fun i => ∃ k : Nat, k ≤ p.boards.length ∧ i = .int .i64 k ∧ Hid (∀ y ∈ p.boards.take k, y.id < id)) (fun i => p.boards.length - (intOf i).toNat)
 case atStart => exact ⟨0, Nat.zero_le _, rfl, fun y hy => by simp at hy⟩
 case round =>
  obtain ⟨k, hk, rfl, HA⟩ := hrel
  have i0 : (0 : Int) ≤ (k : Int) := by omega
  have icap : (k : Int) ≤ (p.boardC : Int) := by omega
  have i2 : (k : Int) ≤ (p.boards.length : Int) := by omega
  rcases at_ways (fun y : BoardD => y.id) id p.boards k with ⟨x, hx, hc, hlt⟩ | ⟨x, hx, hc, hlt⟩ | hlt
  ·have HT : Hid (∀ y ∈ p.boards.take (k + 1), y.id < id) := all_up hx HA.out hc
   have i1 : (k : Int) < (p.boards.length : Int) := by omega
   obtain ⟨g, ha, hat⟩ := board_at HB.out.2.1.at.2.2.2.1 hx
   have c0 := hat.1
   have m := m5
   rw [ha] at m
   clear m5 hat hx
   go_wp2
   go_round
   case rel => exact ⟨k + 1, by omega, by go_num, HT.out⟩
   case measure => simp [intOf]; omega
  focus
   have HX : Hid (∀ y, p.boards[k]? = some y → ¬ y.id < id) := fun y hy e => by rw [hx] at hy; cases hy; exact hc e
   have i1 : (k : Int) < (p.boards.length : Int) := by omega
   obtain ⟨g, ha, hat⟩ := board_at HB.out.2.1.at.2.2.2.1 hx
   have c0 := hat.1
   have m := m5
   rw [ha] at m
   clear m5 hat hx ha
  rotate_left
  focus
   have HX : Hid (∀ y, p.boards[k]? = some y → ¬ y.id < id) := fun y hy => absurd (List.getElem?_eq_some_iff.1 hy).1 hlt
   have i1 : ¬ (k : Int) < (p.boards.length : Int) := by omega
   have m := m5
   clear m5
  all_goals
   have hkl : (p.boards.take k).length = k := by rw [List.length_take]; omega
   have hb3 : Below W2.heap.size W2 (W2.alloc (.cells #[] 141)) := (Below.refl _ _).alloc (Nat.le_refl _) _
   obtain ⟨a5, c5, w5, hap, ho5, hg5, -⟩ := more_board (W2.alloc (.cells #[] 141)) W2.heap.size (some ⟨W2.heap.size, 0, none⟩) 0 [] (own_empty (heap_alloc_new _ _) (Nat.le_refl _)) p.boardA (p.boards.take k) p.boardC (take_src k (HB.out.2.1.below hb3).at.2.2.2.1.1) (by rw [hkl]; show 0 + k ≤ _; omega) hb3.size
   rw [hkl] at hap ho5
   simp only [List.length_nil, Nat.zero_add, List.nil_append] at hap ho5
   have hb5 : Below W2.heap.size W2 w5 := hb3.grown hg5 hb3.size fun c e => by cases e; exact Nat.le_refl _
   have hb6 : Below w5.heap.size w5 (w5.alloc (.cells #[.int .i64 id, .bool false, .string ⟨#[]⟩] 141)) := (Below.refl _ _).alloc (Nat.le_refl _) _
   have hb6o : Below W2.heap.size W2 (w5.alloc (.cells #[.int .i64 id, .bool false, .string ⟨#[]⟩] 141)) := hb5.trans (hb6.mono hb5.size)
   have ho6 : (w5.alloc (.cells #[.int .i64 id, .bool false, .string ⟨#[]⟩] 141)).ownsRow W2.heap.size 141 3 (.slice a5 (p.boards.take k).length c5) (p.boards.take k).length (boardK.flat (p.boards.take k)) := by rw [hkl]; exact own_below ho5 hb6
   obtain ⟨a7, c7, w7, hap2, ho7, hg7, -⟩ := more_board (w5.alloc (.cells #[.int .i64 id, .bool false, .string ⟨#[]⟩] 141)) W2.heap.size a5 c5 (p.boards.take k) ho6 (some ⟨w5.heap.size, 0, none⟩) [(⟨id, false, ⟨#[]⟩⟩ : BoardD)] 1 (src_block (heap_alloc_new _ _)) (by rw [hkl]; show k + 1 ≤ _; omega) hb6o.size
   have hl7 : (p.boards.take k ++ [(⟨id, false, ⟨#[]⟩⟩ : BoardD)]).length = k + 1 := by rw [List.length_append, hkl]; rfl
   rw [hkl] at hap2 ho7
   simp only [List.length_cons, List.length_nil, Nat.zero_add] at hap2 ho7
   have hb7 : Below W2.heap.size W2 w7 := hb6o.grown hg7 hb6o.size fun c e => (own_lt ho5 (own_block e)).1
   have HO7 : Hid (w7.ownsRow W2.heap.size 141 3 (.slice a7 (k + 1) c7) (k + 1) (boardK.flat (p.boards.take k ++ [(⟨id, false, ⟨#[]⟩⟩ : BoardD)])) ∧ Below W2.heap.size W2 w7 ∧ (p.boards.take k ++ [(⟨id, false, ⟨#[]⟩⟩ : BoardD)]).length = k + 1) := ⟨ho7, hb7, hl7⟩
   have m2 : (W2.alloc (.cells #[] 141)).cell? ⟨w.heap.size, 5, none⟩ = some (.slice p.boardA p.boards.length p.boardC) := (HB.out.1.below hb3).cells.2.2.2.2.2.1
   have hbo : W2.heap.size ≤ w7.heap.size := hb7.size
   obtain ⟨⟨u, co⟩, fo⟩ : (∃ u, w7.cell? ⟨o, 5, none⟩ = some u) ∧ w7.frozen? ⟨o, 5, none⟩ = false := ⟨⟨_, (HQ.out.1.below hb7).cells.2.2.2.2.2.1⟩, frozen_of_row _ _ _ _ _ (HQ.out.1.below hb7)⟩
   clear ho5 hg5 hb5 hb6 hb6o ho6 ho7 hg7 hb7 hb3 hl7
   go_wp2_with (at_builtin; first | (refine wpList_append_run _ rfl _ _ 28 rfl _ _ _ _ rfl rfl hap ?_; clear hap) | (refine wpList_append_run _ rfl _ _ 28 rfl _ _ _ _ rfl rfl hap2 ?_; clear hap2))
   have H8 : Hid (((PartBox (w7.setCell ⟨o, 5, none⟩ (.slice a7 (k + 1) c7)) w.heap.size p ∧ PartOwn (w7.setCell ⟨o, 5, none⟩ (.slice a7 (k + 1) c7)) b0 p ∧ Below w.heap.size w (w7.setCell ⟨o, 5, none⟩ (.slice a7 (k + 1) c7)) ∧ (w7.setCell ⟨o, 5, none⟩ (.slice a7 (k + 1) c7)).heap[w.heap.size + 1]? = some (.cells #[.int .i64 0, .int .i64 0, .slice none 0 0, .slice none 0 0, .slice none 0 0, .slice none 0 0, .slice none 0 0, .slice none 0 0] 32 (0, 0))) ∧ (w7.setCell ⟨o, 5, none⟩ (.slice a7 (k + 1) c7)).heap[o]? = some (.cells #[.int .i64 q.id, .int .i64 q.next, .slice q.procA q.procs.length q.procC, .slice q.semA q.sems.length q.semC, .slice q.eventA q.events.length q.eventC, .slice a7 (k + 1) c7, .slice q.bufferA q.buffers.length q.bufferC, .slice q.portA q.ports.length q.portC] 32 (0, 0)) ∧ PartOwn (w7.setCell ⟨o, 5, none⟩ (.slice a7 (k + 1) c7)) W.heap.size q) ∧ (w7.setCell ⟨o, 5, none⟩ (.slice a7 (k + 1) c7)).ownsRow W2.heap.size 141 3 (.slice a7 (k + 1) c7) (k + 1) (boardK.flat (p.boards.take k ++ [(⟨id, false, ⟨#[]⟩⟩ : BoardD)])) ∧ W2.heap.size ≤ (w7.setCell ⟨o, 5, none⟩ (.slice a7 (k + 1) c7)).heap.size) := by
    have hb7 := HO7.out.2.1
    have hq := HQ.out
    have hbw : Below w.heap.size w w7 := HB.out.2.2.1.trans (hb7.mono (by have := HB.out.2.2.1.size; omega))
    refine ⟨⟨⟨(setCell_other (by omega)).trans (HB.out.1.below hb7), (HB.out.2.1.below hb7).same fun g hg => setCell_other (fun e => ?_), below_setCell hbw (by omega), (setCell_other (by omega)).trans ((hb7.block _ (by omega)).trans HB.out.2.2.2)⟩, setCell_block (HQ.out.1.below hb7), (HQ.out.2.1.below hb7).same fun g hg => setCell_other (by have := HQ.out.2.2.2.1 g hg; omega)⟩, own_same HO7.out.1 fun g hg => setCell_other (by have := (own_lt HO7.out.1 hg).1; omega), ?_⟩
    ·have := HPB.out g hg; omega
    ·rw [setCell_size]; exact hb7.size
   generalize w7.setCell ⟨o, 5, none⟩ (.slice a7 (k + 1) c7) = W8 at *
   have HS : Hid (W8.cell? ⟨w.heap.size, 5, none⟩ = some (.slice p.boardA p.boards.length p.boardC)) := H8.out.1.1.1.cells.2.2.2.2.2.1
   have co8 : W8.drew.cell? ⟨o, 5, none⟩ = some (.slice a7 (k + 1) c7) := by rw [cell_of_row _ _ _ _ _ _ (show W8.drew.heap[o]? = _ from H8.out.1.2.1)]; rfl
   clear m m2 co fo hbo i1 hlt
   obtain ⟨aS, haS⟩ : ∃ aS, (if p.boardC = k then p.boardA else Option.map (fun x => x.add (k * 3)) p.boardA) = aS := ⟨_, rfl⟩
   refine wp_region_held_drew (S := fun w' => w'.cell? ⟨w.heap.size, 5, none⟩ = some (.slice p.boardA p.boards.length p.boardC)) (by kernel_rfl) HS.out (fun hHeld => ?_)
   refine tk 0 (v := ?_) ?_ hHeld ?_; rotate_left; (intro w0 hS0; have hS1 := hS0; go_simp; try with_reducible rfl); simp only [pt, sb, s0, s1]
   refine tk 2 (v := ?_) ?_ hHeld ?_; rotate_left; (intro w0 hS0; have hS1 := hS0; go_simp; try with_reducible rfl); simp only [pt, sb, s0, s1]
   refine tk 3 (v := ?_) ?_ hHeld ?_; rotate_left; (intro w0 hS0; have hS1 := hS0; go_simp; try with_reducible rfl); simp only [pt, sb, s0, s1]
   refine tk 4 (v := ?_) ?_ hHeld ?_; rotate_left; (intro w0 hS0; have hS1 := hS0; go_simp; try with_reducible rfl); simp only [pt, sb, s0, s1]
   refine tk 5 (v := ?_) ?_ hHeld ?_; rotate_left; (intro w0 hS0; have hS1 := hS0; go_simp; try with_reducible rfl); simp only [pt, sb, s0, s1]
   refine wpAnyH_ready (rs := [1]) (by kernel_rfl) (by simp) ?_
   refine AllReadyH.cons rfl (fun K hK => ?_) AllReadyH.nil
   simp only [List.getElem_toArray, List.getElem_cons_zero, List.getElem_cons_succ]
   rw [if_pos (by rfl)]
   go_wp2_with fail
   refine hK.out _ _ HS.out (fun hHeld => ?_)
   clear hK K
   try simp only [pt, sb, s0, s1]
   have hbd : Below W8.heap.size W8 W8.drew := (Below.refl _ _).drew
   have hl7 := HO7.out.2.2
   have hkd : (p.boards.drop k).length = p.boards.length - k := List.length_drop
   obtain ⟨a9, c9, w9, hr, ho9, hg9, -⟩ := more_board W8.drew W2.heap.size a7 c7 (p.boards.take k ++ [(⟨id, false, ⟨#[]⟩⟩ : BoardD)]) (by rw [hl7]; exact own_below H8.out.2.1 hbd) aS (p.boards.drop k) (p.boardC - k) (by rw [← haS]; exact tail_src hcap (H8.out.1.1.2.1.below hbd).at.2.2.2.1.1) (by rw [hl7, hkd]; omega) H8.out.2.2
   rw [hl7, hkd] at hr ho9
   have hb9 : Below W2.heap.size W8.drew w9 := (Below.refl _ _).grown (a := W8.drew) hg9 H8.out.2.2 fun c e => (own_lt H8.out.2.1 (own_block e)).1
   have hq := HQ.out
   have h8 := H8.out
   have hol : o < W2.heap.size := hq.2.2.2.2.2.2
   have hwl : w.heap.size + 1 < o := by omega
   have ho10 : w9.heap[o]? = some (.cells #[.int .i64 q.id, .int .i64 q.next, .slice q.procA q.procs.length q.procC, .slice q.semA q.sems.length q.semC, .slice q.eventA q.events.length q.eventC, .slice a7 (k + 1) c7, .slice q.bufferA q.buffers.length q.bufferC, .slice q.portA q.ports.length q.portC] 32 (0, 0)) := (hb9.block _ hol).trans h8.1.2.1
   have H9 : Hid (w9.cell? ⟨w.heap.size, 5, none⟩ = some (.slice p.boardA p.boards.length p.boardC) ∧ (w9.setCell ⟨o, 5, none⟩ (.slice a9 (k + 1 + (p.boards.length - k)) c9)).cell? ⟨w.heap.size, 5, none⟩ = some (.slice p.boardA p.boards.length p.boardC)) := by
    have e1 : w9.cell? ⟨w.heap.size, 5, none⟩ = some (.slice p.boardA p.boards.length p.boardC) := (World.cell?_of_block (hb9.block _ (by show w.heap.size < _; omega))).trans HS.out
    exact ⟨e1, (World.cell?_of_block (setCell_other (by show w.heap.size ≠ o; omega))).trans e1⟩
   have hln : ((p.boards.take k ++ [(⟨id, false, ⟨#[]⟩⟩ : BoardD)]) ++ p.boards.drop k).length = k + 1 + (p.boards.length - k) := by rw [List.length_append, hl7, hkd]
   have hpu : ({ q with boards := (p.boards.take k ++ [(⟨id, false, ⟨#[]⟩⟩ : BoardD)]) ++ p.boards.drop k, boardA := a9, boardC := c9 } : PartD).pure = { p.pure with boards := insF (·.id) (⟨id, false, ⟨#[]⟩⟩ : BoardD) p.pure.boards } := by
    have e1 : (p.boards.take k ++ [(⟨id, false, ⟨#[]⟩⟩ : BoardD)]) ++ p.boards.drop k = insF (·.id) (⟨id, false, ⟨#[]⟩⟩ : BoardD) p.pure.boards := by
     rw [List.append_assoc]
     exact insF_at HA.out (fun y hy => by have h5 := HX.out y hy; show ¬ y.id < id; omega)
    have e2 := HQ.out.2.2.1
    show ({ q.pure with boards := (p.boards.take k ++ [(⟨id, false, ⟨#[]⟩⟩ : BoardD)]) ++ p.boards.drop k } : PartP) = _
    rw [e1, e2]
   have H10 : Hid (PartBox (w9.setCell ⟨o, 5, none⟩ (.slice a9 (k + 1 + (p.boards.length - k)) c9)) w.heap.size p ∧ PartOwn (w9.setCell ⟨o, 5, none⟩ (.slice a9 (k + 1 + (p.boards.length - k)) c9)) b0 p ∧ Below w.heap.size w (w9.setCell ⟨o, 5, none⟩ (.slice a9 (k + 1 + (p.boards.length - k)) c9)) ∧ (w9.setCell ⟨o, 5, none⟩ (.slice a9 (k + 1 + (p.boards.length - k)) c9)).heap[w.heap.size + 1]? = some (.cells #[.int .i64 0, .int .i64 0, .slice none 0 0, .slice none 0 0, .slice none 0 0, .slice none 0 0, .slice none 0 0, .slice none 0 0] 32 (0, 0)) ∧ PartBox (w9.setCell ⟨o, 5, none⟩ (.slice a9 (k + 1 + (p.boards.length - k)) c9)) o ({ q with boards := (p.boards.take k ++ [(⟨id, false, ⟨#[]⟩⟩ : BoardD)]) ++ p.boards.drop k, boardA := a9, boardC := c9 } : PartD) ∧ PartOwn (w9.setCell ⟨o, 5, none⟩ (.slice a9 (k + 1 + (p.boards.length - k)) c9)) W.heap.size ({ q with boards := (p.boards.take k ++ [(⟨id, false, ⟨#[]⟩⟩ : BoardD)]) ++ p.boards.drop k, boardA := a9, boardC := c9 } : PartD) ∧ ({ q with boards := (p.boards.take k ++ [(⟨id, false, ⟨#[]⟩⟩ : BoardD)]) ++ p.boards.drop k, boardA := a9, boardC := c9 } : PartD).pure = { p.pure with boards := insF (·.id) (⟨id, false, ⟨#[]⟩⟩ : BoardD) p.pure.boards }) := by
    have hpb : ∀ g ∈ p.blocks, g < w.heap.size := HPB.out
    have hqb : ∀ g ∈ q.blocks, g < o := hq.2.2.2.1
    have sm : ∀ g, g < W2.heap.size → g ≠ o → (w9.setCell ⟨o, 5, none⟩ (.slice a9 (k + 1 + (p.boards.length - k)) c9)).heap[g]? = W8.heap[g]? := fun g hg hne => (setCell_other hne).trans (hb9.block _ hg)
    have hbw : Below w.heap.size w (w9.setCell ⟨o, 5, none⟩ (.slice a9 (k + 1 + (p.boards.length - k)) c9)) := below_setCell (h8.1.1.2.2.1.drew.trans (hb9.mono (by omega))) (by omega)
    refine ⟨(sm _ (by omega) (by omega)).trans h8.1.1.1, h8.1.1.2.1.same fun g hg => sm g (by have := hpb g hg; omega) (by have := hpb g hg; omega), hbw, (sm _ (by omega) (by omega)).trans h8.1.1.2.2.2, ?_, ?_, hpu⟩
    ·have h5 := setCell_block (i := 5) (v := .slice a9 (k + 1 + (p.boards.length - k)) c9) ho10
     unfold PartBox
     simp only [hln]
     exact h5
    ·refine h8.1.2.2.newBoard (B := W2.heap.size) (by omega) (fun g hg => by have := hqb g hg; omega) (fun g hg => sm g (by have := hqb g hg; omega) (by have := hqb g hg; omega)) ?_
     rw [hln]
     exact own_same ho9 fun g hg => setCell_other (by have := (own_lt ho9 hg).1; omega)
   refine wpAnyH_ready (rs := [6]) (by kernel_rfl) (by simp) ?_
   refine AllReadyH.cons rfl (fun K hK => ?_) AllReadyH.nil
   simp only [List.getElem_toArray, List.getElem_cons_zero, List.getElem_cons_succ]
   rw [if_pos (by rfl)]
   refine oper_append _ _ _ rfl _ _ _ w9 rfl rfl hr ?_
   refine hK.out _ _ H9.out.1 (fun hHeld => ?_)
   clear hK K
   try simp only [pt, sb, s0, s1]
   obtain ⟨⟨u, co⟩, fo⟩ : (∃ u, w9.cell? ⟨o, 5, none⟩ = some u) ∧ w9.frozen? ⟨o, 5, none⟩ = false := ⟨⟨_, by rw [cell_of_row _ _ _ _ _ _ ho10]; rfl⟩, frozen_of_row _ _ _ _ _ ho10⟩
   clear hr ho9 hg9 hb9 hq h8 hol hwl ho10 hbd
   refine tk 7 (v := ?_) ?_ hHeld ?_; rotate_left; (intro w0 hS0; have hS1 := hS0; go_simp; try with_reducible rfl); simp only [pt, sb, s0, s1]
   refine wpAnyH_ready (rs := [8]) (by kernel_rfl) (by simp) ?_
   refine AllReadyH.cons rfl (fun K hK => ?_) AllReadyH.nil
   simp only [List.getElem_toArray, List.getElem_cons_zero, List.getElem_cons_succ]
   rw [if_pos (by rfl)]
   go_wp2_with fail
   refine hK.out _ _ H9.out.2 (fun hHeld => ?_)
   clear hK K
   try simp only [pt, sb, s0, s1]
   refine wpAnyH_done (by kernel_rfl) ?_ _
   clear hHeld co fo H9 HS co8
   generalize w9.setCell ⟨o, 5, none⟩ (.slice a9 (k + 1 + (p.boards.length - k)) c9) = W10 at *
   have hcall := l3Checked_any p ({ q with boards := (p.boards.take k ++ [(⟨id, false, ⟨#[]⟩⟩ : BoardD)]) ++ p.boards.drop k, boardA := a9, boardC := c9 } : PartD) W10 ⟨HFT.out.1, HFT.out.2.1, H10.out.2.1.at⟩ (fun hr => by
    have h5 : PartP.Small ({ q with boards := (p.boards.take k ++ [(⟨id, false, ⟨#[]⟩⟩ : BoardD)]) ++ p.boards.drop k, boardA := a9, boardC := c9 } : PartD).pure := by rw [H10.out.2.2.2.2.2.2]; exact insBoard_small HFT.out.2.2.1 hr ⟨HFT.out.2.2.2, Nat.zero_le _⟩
    exact ⟨small_fit h5, fun x hx => (small_proc h5 hx).1, H10.out.2.2.2.2.2.1.at⟩)
   obtain ⟨m0, m1, m2, m3, m4, m5, m6, m7⟩ := H10.out.1.cells
   obtain ⟨k0, k1, k2, k3, k4, k5, k6, k7⟩ := H10.out.2.2.2.2.1.cells
   unfold PartD.cells at hcall
   simp only [hln] at hcall k0 k1 k2 k3 k4 k5 k6 k7
   have HLN : Hid (((p.boards.take k ++ [(⟨id, false, ⟨#[]⟩⟩ : BoardD)]) ++ p.boards.drop k).length = k + 1 + (p.boards.length - k)) := hln
   clear hln hl7 hkd haS hpu
   go_wp2_with fail
   refine hcall.mono ?_
   clear hcall m0 m1 m2 m3 m4 m5 m6 m7 k0 k1 k2 k3 k4 k5 k6 k7
   rintro e w11 ⟨hb11, hok⟩
   have hq := HQ.out.2.2.2.2
   have HZ : Hid (Below w.heap.size w w11 ∧ w11.heap[w.heap.size + 1]? = some (.cells #[.int .i64 0, .int .i64 0, .slice none 0 0, .slice none 0 0, .slice none 0 0, .slice none 0 0, .slice none 0 0, .slice none 0 0] 32 (0, 0)) ∧ PartOwn w11 W.heap.size ({ q with boards := (p.boards.take k ++ [(⟨id, false, ⟨#[]⟩⟩ : BoardD)]) ++ p.boards.drop k, boardA := a9, boardC := c9 } : PartD) ∧ w.heap.size + 1 < W.heap.size) := ⟨H10.out.2.2.1.trans (hb11.mono H10.out.2.2.1.size), (hb11.block _ (Array.getElem?_eq_some_iff.1 H10.out.2.2.2.1).1).trans H10.out.2.2.2.1, H10.out.2.2.2.2.2.1.below hb11, hq.2.1⟩
   clear hb11 hq
   rw [H10.out.2.2.2.2.2.2] at hok
   rcases hok with ⟨hok, rfl⟩ | ⟨hok, rfl⟩
   ·have HN : Hid (withR p.pure { p.pure with boards := insF (·.id) (⟨id, false, ⟨#[]⟩⟩ : BoardD) p.pure.boards } = some { p.pure with boards := insF (·.id) (⟨id, false, ⟨#[]⟩⟩ : BoardD) p.pure.boards }) := withR_ok hok
    clear hok
    go_wp2_with (refine wpList_store_row rfl 32 (Operand.tmp 4) (Operand.tmp 49) rfl (w.heap.size + 1) _ _ #[.int .i64 q.id, .int .i64 q.next, .slice q.procA q.procs.length q.procC, .slice q.semA q.sems.length q.semC, .slice q.eventA q.events.length q.eventC, .slice a9 (k + 1 + (p.boards.length - k)) c9, .slice q.bufferA q.buffers.length q.bufferC, .slice q.portA q.ports.length q.portC] rfl rfl HZ.out.2.1 (by kernel_rfl) rfl (by kernel_rfl) ?_)
    refine bodyPost_ret (v := .tuple #[.agg #[.int .i64 q.id, .int .i64 q.next, .slice q.procA q.procs.length q.procC, .slice q.semA q.sems.length q.semC, .slice q.eventA q.events.length q.eventC, .slice a9 (k + 1 + (p.boards.length - k)) c9, .slice q.bufferA q.buffers.length q.bufferC, .slice q.portA q.ports.length q.portC], .bool true]) (results_row_tmp Tryz.results40 _ _ (w.heap.size + 1) _ _ _ _ (by rfl) (setRow_heap _ _ _ _ _ _ HZ.out.2.1) Tryz.underlying32 rfl (by kernel_rfl)) rfl ?_
    have hl := HZ.out.2.2.2
    rw [HN.out]
    refine ⟨({ q with boards := (p.boards.take k ++ [(⟨id, false, ⟨#[]⟩⟩ : BoardD)]) ++ p.boards.drop k, boardA := a9, boardC := c9 } : PartD), by unfold PartD.cells; simp only [HLN.out]; rfl, (HZ.out.2.2.1.lower (by omega)).same fun g hg => setRow_other _ _ _ _ (by have := (HZ.out.2.2.1.lt g hg).1; omega), H10.out.2.2.2.2.2.2, below_setRow HZ.out.1 (by omega) _⟩
   ·have HN : Hid (withR p.pure { p.pure with boards := insF (·.id) (⟨id, false, ⟨#[]⟩⟩ : BoardD) p.pure.boards } = none) := withR_bad hok
    clear hok
    go_wp2_with (refine wpList_store_row rfl 32 (Operand.tmp 4) (Operand.tmp 49) rfl (w.heap.size + 1) _ _ #[.int .i64 0, .int .i64 0, .slice none 0 0, .slice none 0 0, .slice none 0 0, .slice none 0 0, .slice none 0 0, .slice none 0 0] rfl rfl HZ.out.2.1 (by kernel_rfl) rfl (by kernel_rfl) ?_)
    refine bodyPost_ret (v := .tuple #[.agg #[.int .i64 0, .int .i64 0, .slice none 0 0, .slice none 0 0, .slice none 0 0, .slice none 0 0, .slice none 0 0, .slice none 0 0], .bool false]) (results_row_tmp Tryz.results40 _ _ (w.heap.size + 1) _ _ _ _ (by rfl) (setRow_heap _ _ _ _ _ _ HZ.out.2.1) Tryz.underlying32 rfl (by kernel_rfl)) rfl ?_
    exact turnRes_no HN.out (below_setRow HZ.out.1 (by omega) _)
end Go.Proofs.YtkbcplnlehdjfaaGreat

/- A list that is made anew by appending, and a partition with it. (Made by mkwithnb.py.) -/
namespace Go.Proofs.YtkbcplnlehdjfaaGreat
open Go.RowKit Go.Maps
section
variable {α : Type} {num : α → Int}
theorem insG_map {β : Type} {num' : β → Int} (f : α → β) (hf : ∀ y, num' (f y) = num y) (x : α) : ∀ l : List α, (insG num x l).map f = insG num' (f x) (l.map f)
 | [] => rfl
 | y :: r => by
  simp only [insG, List.map_cons, hf]
  split
  ·simp
  ·simp [insG_map f hf x r]
theorem insG_all {x : α} : ∀ {l : List α}, (∀ y ∈ l, ¬ num x < num y) → insG num x l = l ++ [x]
 | [], _ => rfl
 | y :: r, h => by
  simp only [insG, if_neg (h y (by simp)), List.cons_append]
  rw [insG_all fun z hz => h z (by simp [hz])]
theorem insG_more {x : α} : ∀ {l r : List α}, (∃ y ∈ l, num x < num y) → insG num x (l ++ r) = insG num x l ++ r
 | [], _, h => by obtain ⟨y, hy, _⟩ := h; cases hy
 | y :: l, r, h => by
  simp only [List.cons_append, insG]
  split
  ·rfl
  ·rename_i hn
   rw [insG_more, List.cons_append]
   obtain ⟨z, hz, hlt⟩ := h
   rcases List.mem_cons.1 hz with rfl | hz
   ·exact absurd hlt hn
   ·exact ⟨z, hz, hlt⟩
theorem insG_first {x y : α} {l : List α} (h : ∀ z ∈ l, ¬ num x < num z) (hy : num x < num y) : insG num x (l ++ [y]) = l ++ [x] ++ [y] := by
 induction l with
 | nil => simp [insG, hy]
 | cons z r ih =>
  simp only [List.cons_append, insG, if_neg (h z (by simp))]
  rw [ih fun u hu => h u (by simp [hu])]
theorem insG_perm (x : α) : ∀ l : List α, (insG num x l).Perm (x :: l)
 | [] => List.Perm.refl _
 | y :: r => by
  simp only [insG]
  split
  ·exact List.Perm.refl _
  ·exact (List.Perm.cons y (insG_perm x r)).trans (List.Perm.swap x y r)
def AccIs (num : α → Int) (x : α) (l : List α) (k : Nat) (dn : Bool) (acc : List α) : Prop :=
 (dn = false ∧ acc = l.take k ∧ ∀ y ∈ l.take k, ¬ num x < num y) ∨ (dn = true ∧ acc = insG num x (l.take k) ∧ ∃ y ∈ l.take k, num x < num y)
theorem AccIs.start (x : α) (l : List α) : AccIs num x l 0 false [] := .inl ⟨rfl, by simp, fun y hy => by simp at hy⟩
theorem AccIs.on {x y : α} {l : List α} {k : Nat} {acc : List α} (h : AccIs num x l k true acc) (hy : l[k]? = some y) : AccIs num x l (k + 1) true (acc ++ [y]) := by
 rcases h with ⟨h, -⟩ | ⟨-, rfl, z, hz, hlt⟩
 ·cases h
 ·rw [AccIs, take_up hy]
  exact .inr ⟨rfl, (insG_more ⟨z, hz, hlt⟩).symm, z, List.mem_append_left _ hz, hlt⟩
theorem AccIs.past {x y : α} {l : List α} {k : Nat} {acc : List α} (h : AccIs num x l k false acc) (hy : l[k]? = some y) (hn : ¬ num x < num y) : AccIs num x l (k + 1) false (acc ++ [y]) := by
 rcases h with ⟨-, rfl, h⟩ | ⟨h, -⟩
 ·rw [AccIs, take_up hy]
  refine .inl ⟨rfl, rfl, fun z hz => ?_⟩
  rcases List.mem_append.1 hz with hz | hz
  ·exact h z hz
  ·rw [List.mem_singleton.1 hz]; exact hn
 ·cases h
theorem AccIs.here {x y : α} {l : List α} {k : Nat} {acc : List α} (h : AccIs num x l k false acc) (hy : l[k]? = some y) (hn : num x < num y) : AccIs num x l (k + 1) true (acc ++ [x] ++ [y]) := by
 rcases h with ⟨-, rfl, h⟩ | ⟨h, -⟩
 ·rw [AccIs, take_up hy]
  exact .inr ⟨rfl, (insG_first h hn).symm, y, by simp, hn⟩
 ·cases h
theorem AccIs.done {x : α} {l : List α} {k : Nat} {acc : List α} (h : AccIs num x l k true acc) (hk : ¬ k < l.length) : acc = insG num x l := by
 rcases h with ⟨h, -⟩ | ⟨-, rfl, -⟩
 ·cases h
 ·rw [List.take_of_length_le (by omega)]
theorem AccIs.last {x : α} {l : List α} {k : Nat} {acc : List α} (h : AccIs num x l k false acc) (hk : ¬ k < l.length) : acc ++ [x] = insG num x l := by
 rcases h with ⟨-, rfl, h⟩ | ⟨h, -⟩
 ·rw [List.take_of_length_le (by omega)] at h ⊢
  exact (insG_all h).symm
 ·cases h
theorem AccIs.le {x : α} {l : List α} {k : Nat} {dn : Bool} {acc : List α} (h : AccIs num x l k dn acc) : acc.length ≤ l.length + 1 := by
 rcases h with ⟨-, rfl, -⟩ | ⟨-, rfl, -⟩
 ·rw [List.length_take]; omega
 ·rw [insG_length, List.length_take]; omega
end
structure ListIn {α : Type} (K : Kind α) (T : TypeId) (XV : Array Value) (W w : World) (acc : List α) (a : Option Addr) (c : Nat) : Prop where
 own : w.ownsRow W.heap.size T K.n (.slice a acc.length c) acc.length (K.flat acc)
 ne : ∀ g ∈ blk a, g ≠ W.heap.size + 1
 bel : Below W.heap.size W w
 box : w.heap[W.heap.size + 1]? = some (.cells XV T (0, 0))
theorem ListIn.start {α : Type} {K : Kind α} {T : TypeId} {XV : Array Value} {W : World} : ListIn K T XV W ((W.alloc (.cells #[] T)).alloc (.cells XV T)) [] (some ⟨W.heap.size, 0, none⟩) 0 := by
 have b1 : Below W.heap.size W (W.alloc (.cells #[] T)) := (Below.refl _ _).alloc (Nat.le_refl _) _
 refine ⟨own_empty ((heap_alloc_old _ _ (by simp)).trans (heap_alloc_new _ _)) (Nat.le_refl _), fun g hg => by simp [blk] at hg; omega, b1.alloc b1.size _, heap_alloc2_new _ _ _⟩
theorem ListIn.add {α : Type} {K : Kind α} {T : TypeId} {XV : Array Value} {W w : World} {acc : List α} {a : Option Addr} {c : Nat} (h : ListIn K T XV W w acc a c) (t : TypeId) (bytes : Nat) {z0 : Value} {P : Program} (ht : P.underlying t = some (.slice T))
  (hi : (P.info? T).map (fun i => (i.zero, i.size, i.bytes)) = some (some z0, K.n, bytes)) (hz : z0.cells.size = K.n) (hn : 0 < K.n) (hby : bytes ≤ 1000) (z : α) (zs : Array Value) (hzs : zs.toList = K.vals z) (h1 : ∀ u ∈ K.vals z, u.oneCell' = true) (hl : acc.length ≤ 2000000) :
  ∃ a' c' w', (Builtin.append_ #[t, t] t #[.slice a acc.length c, .slice (some ⟨w.heap.size, 0, none⟩) 1 1]).run P (w.alloc (.cells zs T)) = .ok (.slice a' (acc.length + 1) c') w' ∧ ListIn K T XV W w' (acc ++ [z]) a' c' := by
 obtain ⟨i, hi, e⟩ := Option.map_eq_some_iff.1 hi
 simp only [Prod.mk.injEq] at e
 have b1 : Below w.heap.size w (w.alloc (.cells zs T)) := (Below.refl _ _).alloc (Nat.le_refl _) _
 have b2 := h.bel.trans (b1.mono h.bel.size)
 have hlt := (Array.getElem?_eq_some_iff.1 h.box).1
 obtain ⟨a', c', w', hr, ho, hg, hq⟩ := append_more (P := P) (w.alloc (.cells zs T)) W.heap.size t t T i z0 K.n bytes ht hi e.1 e.2.1 e.2.2 hz hn a acc.length c _ (own_below h.own b1) (some ⟨w.heap.size, 0, none⟩) 1 1 (K.vals z) (by rw [← hzs]; exact src_block (heap_alloc_new _ _)) (by rw [K.len, Nat.one_mul]) h1 (by omega) hby b2.size
 refine ⟨a', c', w', hr, ⟨?_, fun g hg2 => ?_, b2.grown hg b2.size fun k e => (own_lt h.own (own_block e)).1, ?_⟩⟩
 ·have e1 : (acc ++ [z]).length = acc.length + 1 := by simp
  rw [e1, K.flat_append]
  have e2 : K.flat [z] = K.vals z := by simp [Kind.flat]
  rw [e2]
  exact ho
 ·rcases hq g hg2 with h5 | h5
  ·exact h.ne g h5
  ·rw [h5]; have := b1.size; omega
 ·refine (hg.block _ (by simp; omega) (fun e => ?_)).trans ((b1.block _ hlt).trans h.box)
  exact h.ne _ (own_block e.symm) rfl
theorem nodup_swap2 {Z A A' C C' R : List Nat} (h : (Z ++ (A ++ (C ++ R))).Nodup) (hA : A'.Nodup) (hC : C'.Nodup) (h1 : ∀ g ∈ A', g ∉ Z ++ (A ++ (C ++ R)) ∧ g ∉ C') (h2 : ∀ g ∈ C', g ∈ C ∨ g ∉ Z ++ (A ++ (C ++ R))) : (Z ++ (A' ++ (C' ++ R))).Nodup := by
 simp only [List.mem_append, not_or] at h1 h2
 simp only [List.nodup_append, List.mem_append] at h ⊢
 obtain ⟨hz, ⟨-, ⟨-, hR, hCR⟩, -⟩, hzz⟩ := h
 refine ⟨hz, ⟨hA, ⟨hC, hR, fun a ha b hb e => ?_⟩, fun a ha b hb e => ?_⟩, fun a ha b hb e => ?_⟩
 ·rcases h2 a ha with h5 | h5
  ·exact hCR a h5 b hb e
  ·exact h5.2.2.2 (e ▸ hb)
 ·rcases hb with hb | hb
  ·exact (h1 a ha).2 (e ▸ hb)
  ·exact (h1 a ha).1.2.2.2 (e ▸ hb)
 ·rcases hb with hb | hb | hb
  ·exact (h1 b hb).1.1 (e ▸ ha)
  ·rcases h2 b hb with h5 | h5
   ·exact hzz a ha b (.inr (.inl h5)) e
   ·exact h5.1 (e ▸ ha)
  ·exact hzz a ha b (.inr (.inr hb)) e
theorem one_proc {x : ProcD} : ∀ u ∈ procK.vals x, u.oneCell' = true := fun u hu => by
 simp only [procK, procVals, List.mem_cons, List.not_mem_nil, or_false] at hu
 rcases hu with rfl | rfl | rfl | rfl | rfl | rfl | rfl | rfl | rfl | rfl | rfl | rfl <;> rfl
theorem PartOwn.newProc {w w' : World} {base B : Nat} {q : PartD} {l : List ProcD} {a' : Option Addr} {c' : Nat} (h : PartOwn w base q) (hb : base ≤ B) (hB : ∀ g ∈ q.blocks, g < B) (hs : ∀ g ∈ q.blocks, w'.heap[g]? = w.heap[g]?)
  (ho : w'.ownsRow B 43 12 (.slice a' l.length c') l.length (procK.flat l)) (hm : ∀ x ∈ l, procN.Mine w' base x) (hn : (l.filterMap procN.kid).Nodup) (hk : ∀ g ∈ l.filterMap procN.kid, g ∈ q.procs.filterMap procN.kid ∨ g ∉ q.blocks) (hk2 : ∀ g ∈ l.filterMap procN.kid, g < B) : PartOwn w' base ({ q with procs := l, procA := a', procC := c' } : PartD) := by
 refine ⟨own_low ho hb, own_same h.sems fun g hg => hs g (by simp [PartD.blocks, hg]), own_same h.events fun g hg => hs g (by simp [PartD.blocks, hg]), own_same h.boards fun g hg => hs g (by simp [PartD.blocks, hg]), own_same h.buffers fun g hg => hs g (by simp [PartD.blocks, hg]), own_same h.ports fun g hg => hs g (by simp [PartD.blocks, hg]), hm, fun x hx => (h.mineF x hx).same fun g hg => hs g ?_, fun x hx => (h.mineQ x hx).same fun g hg => hs g ?_, ?_⟩
 ·simp only [PartD.blocks, List.mem_append, List.mem_filterMap]
  exact .inr (.inr (.inr (.inr (.inr (.inr (.inl ⟨x, hx, hg⟩))))))
 ·simp only [PartD.blocks, List.mem_append, List.mem_filterMap]
  exact .inr (.inr (.inr (.inr (.inr (.inr (.inr (.inr ⟨x, hx, hg⟩)))))))
 ·have h5 := h.nodup
  have h6 : ∀ g ∈ blk a', g ∉ q.blocks ∧ g ∉ l.filterMap procN.kid := fun g hg => ⟨fun hm => by have := (own_lt ho hg).1; have := hB g hm; omega, fun hm => by have := (own_lt ho hg).1; have := hk2 g hm; omega⟩
  have e1 : ({ q with procs := l, procA := a', procC := c' } : PartD).blocks = ([] : List Nat) ++ (blk a' ++ (l.filterMap procN.kid ++ (blk q.semA ++ (blk q.eventA ++ (blk q.boardA ++ (blk q.bufferA ++ (q.buffers.filterMap bufferN.kid ++ (blk q.portA ++ (q.ports.filterMap portN.kid))))))))) := by simp [PartD.blocks]
  have e3 : q.blocks = ([] : List Nat) ++ (blk q.procA ++ (q.procs.filterMap procN.kid ++ (blk q.semA ++ (blk q.eventA ++ (blk q.boardA ++ (blk q.bufferA ++ (q.buffers.filterMap bufferN.kid ++ (blk q.portA ++ (q.ports.filterMap portN.kid))))))))) := by simp [PartD.blocks]
  rw [e1]
  rw [e3] at h5 h6 hk
  exact nodup_swap2 h5 (blk_nodup _) hn h6 hk
theorem one_buffer {x : BufferD} : ∀ u ∈ bufferK.vals x, u.oneCell' = true := fun u hu => by
 simp only [bufferK, bufferVals, List.mem_cons, List.not_mem_nil, or_false] at hu
 rcases hu with rfl | rfl | rfl <;> rfl
theorem PartOwn.newBuffer {w w' : World} {base B : Nat} {q : PartD} {l : List BufferD} {a' : Option Addr} {c' : Nat} (h : PartOwn w base q) (hb : base ≤ B) (hB : ∀ g ∈ q.blocks, g < B) (hs : ∀ g ∈ q.blocks, w'.heap[g]? = w.heap[g]?)
  (ho : w'.ownsRow B 144 3 (.slice a' l.length c') l.length (bufferK.flat l)) (hm : ∀ x ∈ l, bufferN.Mine w' base x) (hn : (l.filterMap bufferN.kid).Nodup) (hk : ∀ g ∈ l.filterMap bufferN.kid, g ∈ q.buffers.filterMap bufferN.kid ∨ g ∉ q.blocks) (hk2 : ∀ g ∈ l.filterMap bufferN.kid, g < B) : PartOwn w' base ({ q with buffers := l, bufferA := a', bufferC := c' } : PartD) := by
 refine ⟨own_same h.procs fun g hg => hs g (by simp [PartD.blocks, hg]), own_same h.sems fun g hg => hs g (by simp [PartD.blocks, hg]), own_same h.events fun g hg => hs g (by simp [PartD.blocks, hg]), own_same h.boards fun g hg => hs g (by simp [PartD.blocks, hg]), own_low ho hb, own_same h.ports fun g hg => hs g (by simp [PartD.blocks, hg]), fun x hx => (h.mineP x hx).same fun g hg => hs g ?_, hm, fun x hx => (h.mineQ x hx).same fun g hg => hs g ?_, ?_⟩
 ·simp only [PartD.blocks, List.mem_append, List.mem_filterMap]
  exact .inr (.inl ⟨x, hx, hg⟩)
 ·simp only [PartD.blocks, List.mem_append, List.mem_filterMap]
  exact .inr (.inr (.inr (.inr (.inr (.inr (.inr (.inr ⟨x, hx, hg⟩)))))))
 ·have h5 := h.nodup
  have h6 : ∀ g ∈ blk a', g ∉ q.blocks ∧ g ∉ l.filterMap bufferN.kid := fun g hg => ⟨fun hm => by have := (own_lt ho hg).1; have := hB g hm; omega, fun hm => by have := (own_lt ho hg).1; have := hk2 g hm; omega⟩
  have e1 : ({ q with buffers := l, bufferA := a', bufferC := c' } : PartD).blocks = (blk q.procA ++ (q.procs.filterMap procN.kid ++ (blk q.semA ++ (blk q.eventA ++ (blk q.boardA))))) ++ (blk a' ++ (l.filterMap bufferN.kid ++ (blk q.portA ++ (q.ports.filterMap portN.kid)))) := by simp [PartD.blocks]
  have e3 : q.blocks = (blk q.procA ++ (q.procs.filterMap procN.kid ++ (blk q.semA ++ (blk q.eventA ++ (blk q.boardA))))) ++ (blk q.bufferA ++ (q.buffers.filterMap bufferN.kid ++ (blk q.portA ++ (q.ports.filterMap portN.kid)))) := by simp [PartD.blocks]
  rw [e1]
  rw [e3] at h5 h6 hk
  exact nodup_swap2 h5 (blk_nodup _) hn h6 hk
theorem one_port {x : PortD} : ∀ u ∈ portK.vals x, u.oneCell' = true := fun u hu => by
 simp only [portK, portVals, List.mem_cons, List.not_mem_nil, or_false] at hu
 rcases hu with rfl | rfl | rfl | rfl | rfl <;> rfl
theorem PartOwn.newPort {w w' : World} {base B : Nat} {q : PartD} {l : List PortD} {a' : Option Addr} {c' : Nat} (h : PartOwn w base q) (hb : base ≤ B) (hB : ∀ g ∈ q.blocks, g < B) (hs : ∀ g ∈ q.blocks, w'.heap[g]? = w.heap[g]?)
  (ho : w'.ownsRow B 61 5 (.slice a' l.length c') l.length (portK.flat l)) (hm : ∀ x ∈ l, portN.Mine w' base x) (hn : (l.filterMap portN.kid).Nodup) (hk : ∀ g ∈ l.filterMap portN.kid, g ∈ q.ports.filterMap portN.kid ∨ g ∉ q.blocks) (hk2 : ∀ g ∈ l.filterMap portN.kid, g < B) : PartOwn w' base ({ q with ports := l, portA := a', portC := c' } : PartD) := by
 refine ⟨own_same h.procs fun g hg => hs g (by simp [PartD.blocks, hg]), own_same h.sems fun g hg => hs g (by simp [PartD.blocks, hg]), own_same h.events fun g hg => hs g (by simp [PartD.blocks, hg]), own_same h.boards fun g hg => hs g (by simp [PartD.blocks, hg]), own_same h.buffers fun g hg => hs g (by simp [PartD.blocks, hg]), own_low ho hb, fun x hx => (h.mineP x hx).same fun g hg => hs g ?_, fun x hx => (h.mineF x hx).same fun g hg => hs g ?_, hm, ?_⟩
 ·simp only [PartD.blocks, List.mem_append, List.mem_filterMap]
  exact .inr (.inl ⟨x, hx, hg⟩)
 ·simp only [PartD.blocks, List.mem_append, List.mem_filterMap]
  exact .inr (.inr (.inr (.inr (.inr (.inr (.inl ⟨x, hx, hg⟩))))))
 ·have h5 := h.nodup
  have h6 : ∀ g ∈ blk a', g ∉ q.blocks ∧ g ∉ l.filterMap portN.kid := fun g hg => ⟨fun hm => by have := (own_lt ho hg).1; have := hB g hm; omega, fun hm => by have := (own_lt ho hg).1; have := hk2 g hm; omega⟩
  have e1 : ({ q with ports := l, portA := a', portC := c' } : PartD).blocks = (blk q.procA ++ (q.procs.filterMap procN.kid ++ (blk q.semA ++ (blk q.eventA ++ (blk q.boardA ++ (blk q.bufferA ++ (q.buffers.filterMap bufferN.kid))))))) ++ (blk a' ++ (l.filterMap portN.kid ++ ([] : List Nat))) := by simp [PartD.blocks]
  have e3 : q.blocks = (blk q.procA ++ (q.procs.filterMap procN.kid ++ (blk q.semA ++ (blk q.eventA ++ (blk q.boardA ++ (blk q.bufferA ++ (q.buffers.filterMap bufferN.kid))))))) ++ (blk q.portA ++ (q.ports.filterMap portN.kid ++ ([] : List Nat))) := by simp [PartD.blocks]
  rw [e1]
  rw [e3] at h5 h6 hk
  exact nodup_swap2 h5 (blk_nodup _) hn h6 hk
end Go.Proofs.YtkbcplnlehdjfaaGreat
