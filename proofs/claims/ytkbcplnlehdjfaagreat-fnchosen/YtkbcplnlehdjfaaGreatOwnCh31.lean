/- What the proof leans on, part 31: WithSemS, TkR3, LawZ. -/
import Derived.Test.YtkbcplnlehdjfaaGreatOwnCh1
import Derived.Test.YtkbcplnlehdjfaaGreatOwnCh27
import Derived.Test.YtkbcplnlehdjfaaGreatOwnCh29
import Derived.Test.YtkbcplnlehdjfaaGreatOwnCh30

namespace Go.Proofs.YtkbcplnlehdjfaaGreat
open Go.RowKit Go.Maps
attribute [local go_sem ↓] Go.wp_at_zero Go.wp_at_succ
set_option maxRecDepth 100000 in
set_option maxHeartbeats 8000000 in
theorem specWithSem_any (p : PartD) (z : SemD) (w : World) (b0 : Nat) (hwf : (Lit.int .i64 z.id).wf = true) (hsm : p.pure.Small) (h : PartOwn w b0 p) :
  Calls Tryz.prog 35 #[.agg p.cells, .agg #[.int .i64 z.id, .int .i64 z.n, .int .i64 z.max]] w fun e w' => TurnRes w (withR p.pure { p.pure with sems := insF (·.id) z p.pure.sems }) e w' := by
 have HB : Hid (PartBox (((w.alloc (.cells p.cells 32)).alloc (.cells #[.int .i64 z.id, .int .i64 z.n, .int .i64 z.max] 49)).alloc (.cells zero8 32)) w.heap.size p ∧ PartOwn (((w.alloc (.cells p.cells 32)).alloc (.cells #[.int .i64 z.id, .int .i64 z.n, .int .i64 z.max] 49)).alloc (.cells zero8 32)) b0 p ∧ Below w.heap.size w (((w.alloc (.cells p.cells 32)).alloc (.cells #[.int .i64 z.id, .int .i64 z.n, .int .i64 z.max] 49)).alloc (.cells zero8 32)) ∧ (((w.alloc (.cells p.cells 32)).alloc (.cells #[.int .i64 z.id, .int .i64 z.n, .int .i64 z.max] 49)).alloc (.cells zero8 32)).heap[w.heap.size + 1 + 1]? = some (.cells zero8 32 (0, 0))) := by
  have b1 : Below w.heap.size w (((w.alloc (.cells p.cells 32)).alloc (.cells #[.int .i64 z.id, .int .i64 z.n, .int .i64 z.max] 49)).alloc (.cells zero8 32)) := alloc3_below _ _ _ _
  have h3 := alloc3_facts w (.cells p.cells 32) (.cells #[.int .i64 z.id, .int .i64 z.n, .int .i64 z.max] 49) (.cells zero8 32)
  exact ⟨h3.1, h.below b1, b1, h3.2.2.1⟩
 have HX0 : Hid ((((w.alloc (.cells p.cells 32)).alloc (.cells #[.int .i64 z.id, .int .i64 z.n, .int .i64 z.max] 49)).alloc (.cells zero8 32)).heap[w.heap.size + 1]? = some (.cells #[.int .i64 z.id, .int .i64 z.n, .int .i64 z.max] 49 (0, 0))) := (alloc3_facts _ _ _ _).2.1
 have HFT : Hid (p.Fit ∧ (∀ x ∈ p.procs, x.Short) ∧ p.pure.Small ∧ (Lit.int .i64 z.id).wf = true) := ⟨small_fit hsm, fun x hx => (small_proc hsm hx).1, hsm, hwf⟩
 have hpl := HFT.out.1.short.sems
 have hcap : p.sems.length ≤ p.semC := own_cap h.sems
 have hpb0 : ∀ g ∈ p.blocks, g < w.heap.size := fun g hg => (h.lt g hg).2
 clear h hsm hwf
 obtain ⟨m0, m1, m2, m3, m4, m5, m6, m7⟩ := HB.out.1.cells
 unfold PartD.cells at *
 go_enter Tryz.func35, Tryz.ntmps35
 go_wp2_with fail
 generalize ((w.alloc (.cells #[.int .i64 p.id, .int .i64 p.next, .slice p.procA p.procs.length p.procC, .slice p.semA p.sems.length p.semC, .slice p.eventA p.events.length p.eventC, .slice p.boardA p.boards.length p.boardC, .slice p.bufferA p.buffers.length p.bufferC, .slice p.portA p.ports.length p.portC] 32)).alloc (.cells #[.int .i64 z.id, .int .i64 z.n, .int .i64 z.max] 49)).alloc (.cells #[.int .i64 0, .int .i64 0, .slice none 0 0, .slice none 0 0, .slice none 0 0, .slice none 0 0, .slice none 0 0, .slice none 0 0] 32) = W at *
 clear m0 m1 m2 m3 m4 m5 m6 m7
 refine (l3Copy_any p W HFT.out.1 HFT.out.2.1 HB.out.2.1.at).mono ?_
 rintro e W1 ⟨q, rfl, hown, hpu, hb1⟩
 have hb2 : Below W1.heap.size W1 (W1.alloc (.cells q.cells 32)) := (Below.refl _ _).alloc (Nat.le_refl _) _
 have hlt : w.heap.size + 1 + 1 < W.heap.size := (Array.getElem?_eq_some_iff.1 HB.out.2.2.2).1
 have hb3 : Below W.heap.size W (W1.alloc (.cells q.cells 32)) := hb1.trans (hb2.mono hb1.size)
 have hq1 : ∀ g ∈ q.blocks, g < W1.heap.size := fun g hg => (hown.lt g hg).2
 have HQ : Hid (PartBox (W1.alloc (.cells q.cells 32)) W1.heap.size q ∧ PartOwn (W1.alloc (.cells q.cells 32)) W.heap.size q ∧ q.pure = p.pure ∧ (∀ g ∈ q.blocks, g < W1.heap.size) ∧ W.heap.size ≤ W1.heap.size ∧ w.heap.size + 1 + 1 < W.heap.size ∧ W1.heap.size < (W1.alloc (.cells q.cells 32)).heap.size) := ⟨heap_alloc_new _ _, hown.below hb2, hpu, hq1, hb1.size, hlt, by simp⟩
 replace HB : Hid (PartBox (W1.alloc (.cells q.cells 32)) w.heap.size p ∧ PartOwn (W1.alloc (.cells q.cells 32)) b0 p ∧ Below w.heap.size w (W1.alloc (.cells q.cells 32)) ∧ (W1.alloc (.cells q.cells 32)).heap[w.heap.size + 1 + 1]? = some (.cells zero8 32 (0, 0))) := ⟨HB.out.1.below hb3, HB.out.2.1.below hb3, HB.out.2.2.1.trans (hb3.mono HB.out.2.2.1.size), (hb3.block _ hlt).trans HB.out.2.2.2⟩
 replace HX0 : Hid ((W1.alloc (.cells q.cells 32)).heap[w.heap.size + 1]? = some (.cells #[.int .i64 z.id, .int .i64 z.n, .int .i64 z.max] 49 (0, 0))) := (hb3.block _ (by omega)).trans HX0.out
 have HPB : Hid (∀ g ∈ p.blocks, g < w.heap.size) := fun g hg => hpb0 g hg
 clear hown hpu hb1 hb2 hb3 hq1 hlt hpb0
 obtain ⟨m0, m1, m2, m3, m4, m5, m6, m7⟩ := HB.out.1.cells
 unfold PartD.cells at *
 go_wp2_with fail
 generalize W1.alloc (.cells #[.int .i64 q.id, .int .i64 q.next, .slice q.procA q.procs.length q.procC, .slice q.semA q.sems.length q.semC, .slice q.eventA q.events.length q.eventC, .slice q.boardA q.boards.length q.boardC, .slice q.bufferA q.buffers.length q.bufferC, .slice q.portA q.ports.length q.portC] 32) = W2 at *
 clear m0 m1 m2 m4 m5 m6 m7
 generalize W1.heap.size = o at *
 clear m3
 go_loopw [7] (fun i wr => ∃ k : Nat, k ≤ p.sems.length ∧ i = .int .i64 k ∧ Hid (∀ y ∈ p.sems.take k, y.id < z.id) ∧ Hid (Below W2.heap.size W2 wr)) (fun i _ => p.sems.length - (intOf i).toNat)
 case atStart => exact ⟨0, Nat.zero_le _, rfl, fun y hy => by simp at hy, Below.refl _ _⟩
 case round =>
  obtain ⟨k, hk, rfl, HA, HBR⟩ := hrel
  have hbr : Below W2.heap.size W2 wr.drew.drew := HBR.out.drew.drew
  have hsz := hbr.size
  replace HBR : Hid (Below W2.heap.size W2 wr.drew) := HBR.out.drew
  have hq := HQ.out
  have hzl : w.heap.size + 1 < W2.heap.size := by omega
  replace HB : Hid (PartBox wr.drew.drew w.heap.size p ∧ PartOwn wr.drew.drew b0 p ∧ Below w.heap.size w wr.drew.drew ∧ wr.drew.drew.heap[w.heap.size + 1 + 1]? = some (.cells zero8 32 (0, 0))) := ⟨HB.out.1.below hbr, HB.out.2.1.below hbr, HB.out.2.2.1.trans (hbr.mono HB.out.2.2.1.size), (hbr.block _ (by omega)).trans HB.out.2.2.2⟩
  replace HQ : Hid (PartBox wr.drew.drew o q ∧ PartOwn wr.drew.drew W.heap.size q ∧ q.pure = p.pure ∧ (∀ g ∈ q.blocks, g < o) ∧ W.heap.size ≤ o ∧ w.heap.size + 1 + 1 < W.heap.size ∧ o < wr.drew.drew.heap.size) := ⟨hq.1.below hbr, hq.2.1.below hbr, hq.2.2.1, hq.2.2.2.1, hq.2.2.2.2.1, hq.2.2.2.2.2.1, by omega⟩
  replace HX0 : Hid (wr.drew.drew.heap[w.heap.size + 1]? = some (.cells #[.int .i64 z.id, .int .i64 z.n, .int .i64 z.max] 49 (0, 0))) := (hbr.block _ hzl).trans HX0.out
  clear hbr hsz hq hzl
  have m : wr.drew.cell? ⟨w.heap.size, 3, none⟩ = some (.slice p.semA p.sems.length p.semC) := HB.out.1.cells.2.2.2.1
  have z0 : wr.drew.cell? ⟨w.heap.size + 1, 0, none⟩ = some (.int .i64 z.id) := (sem_cells (x := z) HX0.out).1
  have i0 : (0 : Int) ≤ (k : Int) := by omega
  have icap : (k : Int) ≤ (p.semC : Int) := by omega
  have i2 : (k : Int) ≤ (p.sems.length : Int) := by omega
  rcases at_ways (fun y : SemD => y.id) z.id p.sems k with ⟨x, hx, hc, hlt⟩ | ⟨x, hx, hc, hlt⟩ | hlt
  ·have HT : Hid (∀ y ∈ p.sems.take (k + 1), y.id < z.id) := all_up hx HA.out hc
   have i1 : (k : Int) < (p.sems.length : Int) := by omega
   have d1 : decide ((k : Int) < (p.sems.length : Int)) = true := decide_eq_true i1
   have d2 : decide (x.id < z.id) = true := decide_eq_true hc
   obtain ⟨g, ha, hat⟩ := sem_at HB.out.2.1.at.2.1 hx
   have c0 : wr.drew.cell? ⟨g, k * 3, none⟩ = some (.int .i64 x.id) := hat.1
   have m2 := m
   rw [ha] at m2
   clear hat hx ha hc
   clear m
   go_wp2_with fail
   refine tame_region (fun w' => w' = wr.drew) (by kernel_rfl) rfl ?_
   iterate 16 (refine yl (v := ?_) ?_ ?_; rotate_left; (intro w0 hS0; subst hS0; go_simp; try with_reducible rfl); simp only [pt, sb, s0, s1])
   refine tame_done (by kernel_rfl) ?_ _
   intro w1 hS1
   subst hS1
   go_wp2
   go_roundw
   case rel => exact ⟨k + 1, by omega, by go_num, HT.out, HBR.out⟩
   case measure => simp [intOf]; omega
  focus
   have HX : Hid (∀ y, p.sems[k]? = some y → ¬ y.id < z.id) := fun y hy e => by rw [hx] at hy; cases hy; exact hc e
   have i1 : (k : Int) < (p.sems.length : Int) := by omega
   have d1 : decide ((k : Int) < (p.sems.length : Int)) = true := decide_eq_true i1
   have d2 : decide (x.id < z.id) = false := decide_eq_false hc
   obtain ⟨g, ha, hat⟩ := sem_at HB.out.2.1.at.2.1 hx
   have c0 : wr.drew.cell? ⟨g, k * 3, none⟩ = some (.int .i64 x.id) := hat.1
   have m2 := m
   rw [ha] at m2
   clear hat hx ha hc
   clear m
   go_wp2_with fail
   refine tame_region (fun w' => w' = wr.drew) (by kernel_rfl) rfl ?_
   iterate 16 (refine yl (v := ?_) ?_ ?_; rotate_left; (intro w0 hS0; subst hS0; go_simp; try with_reducible rfl); simp only [pt, sb, s0, s1])
   refine tame_done (by kernel_rfl) ?_ _
   intro w1 hS1
   subst hS1
   clear i1 d1 d2 c0 m2
  rotate_left
  focus
   have HX : Hid (∀ y, p.sems[k]? = some y → ¬ y.id < z.id) := fun y hy => absurd (List.getElem?_eq_some_iff.1 hy).1 hlt
   have d1 : decide ((k : Int) < (p.sems.length : Int)) = false := decide_eq_false (by omega)
   go_wp2_with fail
   refine tame_region (fun w' => w' = wr.drew) (by kernel_rfl) rfl ?_
   iterate 6 (refine yl (v := ?_) ?_ ?_; rotate_left; (intro w0 hS0; subst hS0; go_simp; try with_reducible rfl); simp only [pt, sb, s0, s1])
   iterate 9 (refine nl ?_; simp only [pt, sb, s0, s1])
   (refine yl (v := ?_) ?_ ?_; rotate_left; (intro w0 hS0; subst hS0; go_simp; try with_reducible rfl); simp only [pt, sb, s0, s1])
   refine tame_done (by kernel_rfl) ?_ _
   intro w1 hS1
   subst hS1
   clear d1 m
  all_goals
   clear hlt z0 HBR
   go_wp2_with fail
   refine wp_region_held_drew (S := fun w' => PartBox w' w.heap.size p ∧ w'.heap[w.heap.size + 1]? = some (.cells #[.int .i64 z.id, .int .i64 z.n, .int .i64 z.max] 49 (0, 0))) (by kernel_rfl) ⟨HB.out.1, HX0.out⟩ (fun hHeld => ?_)
   generalize wr.drew.drew = V2 at *
   refine tk 1 (v := ?_) ?_ hHeld ?_; rotate_left; (intro w0 hS0; have q0 : w0.cell? ⟨w.heap.size, 3, none⟩ = some (.slice p.semA p.sems.length p.semC) := hS0.1.cells.2.2.2.1; obtain ⟨q1, q2, q3⟩ := sem_cells (x := z) hS0.2; go_simp; try with_reducible rfl); simp only [pt, sb, s0, s1]
   refine tk 2 (v := ?_) ?_ hHeld ?_; rotate_left; (intro w0 hS0; have q0 : w0.cell? ⟨w.heap.size, 3, none⟩ = some (.slice p.semA p.sems.length p.semC) := hS0.1.cells.2.2.2.1; obtain ⟨q1, q2, q3⟩ := sem_cells (x := z) hS0.2; go_simp; try with_reducible rfl); simp only [pt, sb, s0, s1]
   refine tk 3 (v := ?_) ?_ hHeld ?_; rotate_left; (intro w0 hS0; have q0 : w0.cell? ⟨w.heap.size, 3, none⟩ = some (.slice p.semA p.sems.length p.semC) := hS0.1.cells.2.2.2.1; obtain ⟨q1, q2, q3⟩ := sem_cells (x := z) hS0.2; go_simp; try with_reducible rfl); simp only [pt, sb, s0, s1]
   refine tk 4 (v := ?_) ?_ hHeld ?_; rotate_left; (intro w0 hS0; have q0 : w0.cell? ⟨w.heap.size, 3, none⟩ = some (.slice p.semA p.sems.length p.semC) := hS0.1.cells.2.2.2.1; obtain ⟨q1, q2, q3⟩ := sem_cells (x := z) hS0.2; go_simp; try with_reducible rfl); simp only [pt, sb, s0, s1]
   refine tk 6 (v := ?_) ?_ hHeld ?_; rotate_left; (intro w0 hS0; have q0 : w0.cell? ⟨w.heap.size, 3, none⟩ = some (.slice p.semA p.sems.length p.semC) := hS0.1.cells.2.2.2.1; obtain ⟨q1, q2, q3⟩ := sem_cells (x := z) hS0.2; go_simp; try with_reducible rfl); simp only [pt, sb, s0, s1]
   clear hHeld
   have hkl : (p.sems.take k).length = k := by rw [List.length_take]; omega
   have hq := HQ.out
   have hS : ∀ W, Below V2.heap.size V2 W → PartBox W w.heap.size p ∧ W.heap[w.heap.size + 1]? = some (.cells #[.int .i64 z.id, .int .i64 z.n, .int .i64 z.max] 49 (0, 0)) := fun W hb => ⟨(hb.block _ (by omega)).trans HB.out.1, (hb.block _ (by omega)).trans HX0.out⟩
   have HAP : Hid (∀ (W : World) (g : Nat), Below V2.heap.size V2 W → W.heap[g]? = some (.cells #[] 49 (0, 0)) → V2.heap.size ≤ g → ∃ a5 c5 w5, (Builtin.append_ #[26, 26] 26 #[.slice (some ⟨g, 0, none⟩) 0 0, .slice p.semA k p.semC]).run Tryz.prog W = .ok (.slice a5 k c5) w5 ∧ w5.ownsRow V2.heap.size 49 3 (.slice a5 k c5) k (semK.flat (p.sems.take k)) ∧ Below V2.heap.size V2 w5 ∧ Below V2.heap.size V2 w5 ∧ ∀ h, V2.heap.size ≤ h → h ≠ g → h < W.heap.size → w5.heap[h]? = W.heap[h]?) := fun W g hb hg hge => by
    obtain ⟨a5, c5, w5, hap, ho5, hg5, -⟩ := more_sem W V2.heap.size (some ⟨g, 0, none⟩) 0 [] (own_empty hg hge) p.semA (p.sems.take k) p.semC (take_src k (HB.out.2.1.below hb).at.2.1.1) (by rw [hkl]; show 0 + k ≤ _; omega) hb.size
    rw [hkl] at hap ho5
    simp only [List.length_nil, Nat.zero_add, List.nil_append] at hap ho5
    have hb5 : Below V2.heap.size V2 w5 := hb.grown hg5 hb.size fun c e => by cases e; exact hge
    exact ⟨a5, c5, w5, hap, ho5, hb5, hb5, fun h _ hn hl => hg5.block h hl (fun e => hn (by cases e; rfl))⟩
   have bA : ∀ (W : World) (c : Obj), Below V2.heap.size V2 W → Below V2.heap.size V2 (W.alloc c) := fun W c hb => hb.alloc hb.size _
   refine wpAnyH_ready (rs := [0, 7]) (by kernel_rfl) (by simp) ?_
   refine AllReadyH.cons rfl (fun K hK => ?_) (AllReadyH.cons rfl (fun K hK => ?_) AllReadyH.nil)
   focus
    have b1 : Below V2.heap.size V2 (V2.alloc (.cells #[] 49)) := bA _ _ (Below.refl _ _)
    simp only [List.getElem_toArray, List.getElem_cons_zero]
    rw [if_pos (by rfl)]
    go_wp2_with fail
    refine hK.out _ _ (hS _ b1) (fun hHeld => ?_)
    clear hK K hHeld
    try simp only [pt, sb, s0, s1]
    have b7 : Below V2.heap.size V2 ((V2.alloc (.cells #[] 49)).alloc (.cells #[.int .i64 z.id, .int .i64 z.n, .int .i64 z.max] 49)) := bA _ _ b1
    refine wpAnyH_ready (rs := [5, 7]) (by kernel_rfl) (by simp) ?_
    refine AllReadyH.cons rfl (fun K hK => ?_) (AllReadyH.cons rfl (fun K hK => ?_) AllReadyH.nil)
    focus
     clear b7
     obtain ⟨a5, c5, w5, hap, ho5, hb5, -, -⟩ := HAP.out _ _ b1 (heap_alloc_new _ _) (Nat.le_refl _)
     simp only [List.getElem_toArray, List.getElem_cons_zero, List.getElem_cons_succ]
     rw [if_pos (by rfl)]
     refine oper_append _ _ _ rfl _ _ _ w5 rfl rfl hap ?_
     refine hK.out _ _ (hS _ hb5) (fun hHeld => ?_)
     clear hK K hHeld
     try simp only [pt, sb, s0, s1]
     refine wpAnyH_ready (rs := [7]) (by kernel_rfl) (by simp) ?_
     refine AllReadyH.cons rfl (fun K hK => ?_) AllReadyH.nil
     simp only [List.getElem_toArray, List.getElem_cons_zero, List.getElem_cons_succ]
     rw [if_pos (by rfl)]
     go_wp2_with fail
     refine hK.out _ _ (hS _ (bA _ _ hb5)) (fun hHeld => ?_)
     clear hK K hHeld
     try simp only [pt, sb, s0, s1]
     have HO6 : Hid ((w5.alloc (.cells #[.int .i64 z.id, .int .i64 z.n, .int .i64 z.max] 49)).ownsRow V2.heap.size 49 3 (.slice a5 k c5) k (semK.flat (p.sems.take k)) ∧ (w5.alloc (.cells #[.int .i64 z.id, .int .i64 z.n, .int .i64 z.max] 49)).heap[w5.heap.size]? = some (.cells #[.int .i64 z.id, .int .i64 z.n, .int .i64 z.max] 49 (0, 0)) ∧ Below V2.heap.size V2 (w5.alloc (.cells #[.int .i64 z.id, .int .i64 z.n, .int .i64 z.max] 49))) := ⟨own_below ho5 ((Below.refl _ _).alloc (Nat.le_refl _) _), heap_alloc_new _ _, bA _ _ hb5⟩
     clear hap ho5 hb5 b1 bA hS
     generalize w5.alloc (.cells #[.int .i64 z.id, .int .i64 z.n, .int .i64 z.max] 49) = w6 at *
     generalize w5.heap.size = gx at *
    rotate_left
    focus
     obtain ⟨a5, c5, w6, hap6, ho6, hb6, -, hk6⟩ := HAP.out _ _ b7 ((heap_alloc_old _ _ (by simp)).trans (heap_alloc_new _ _)) (Nat.le_refl _)
     simp only [List.getElem_toArray, List.getElem_cons_zero, List.getElem_cons_succ]
     rw [if_pos (by rfl)]
     go_wp2_with fail
     refine hK.out _ _ (hS _ b7) (fun hHeld => ?_)
     clear hK K hHeld
     try simp only [pt, sb, s0, s1]
     refine wpAnyH_ready (rs := [5]) (by kernel_rfl) (by simp) ?_
     refine AllReadyH.cons rfl (fun K hK => ?_) AllReadyH.nil
     simp only [List.getElem_toArray, List.getElem_cons_zero, List.getElem_cons_succ]
     rw [if_pos (by rfl)]
     refine oper_append _ _ _ rfl _ _ _ w6 rfl rfl hap6 ?_
     refine hK.out _ _ (hS _ hb6) (fun hHeld => ?_)
     clear hK K hHeld
     try simp only [pt, sb, s0, s1]
     have HO6 : Hid (w6.ownsRow V2.heap.size 49 3 (.slice a5 k c5) k (semK.flat (p.sems.take k)) ∧ w6.heap[(V2.heap.size + 1)]? = some (.cells #[.int .i64 z.id, .int .i64 z.n, .int .i64 z.max] 49 (0, 0)) ∧ Below V2.heap.size V2 w6) := ⟨ho6, (hk6 _ (by omega) (by omega) (by simp <;> omega)).trans (by have h5 := heap_alloc_new (V2.alloc (.cells #[] 49)) (.cells #[.int .i64 z.id, .int .i64 z.n, .int .i64 z.max] 49); simpa using h5), hb6⟩
     clear hap6 ho6 hb6 hk6 b1 b7 bA hS
   rotate_left 2
   focus
    have b7 : Below V2.heap.size V2 (V2.alloc (.cells #[.int .i64 z.id, .int .i64 z.n, .int .i64 z.max] 49)) := bA _ _ (Below.refl _ _)
    simp only [List.getElem_toArray, List.getElem_cons_zero, List.getElem_cons_succ]
    rw [if_pos (by rfl)]
    go_wp2_with fail
    refine hK.out _ _ (hS _ b7) (fun hHeld => ?_)
    clear hK K hHeld
    try simp only [pt, sb, s0, s1]
    have b1 : Below V2.heap.size V2 ((V2.alloc (.cells #[.int .i64 z.id, .int .i64 z.n, .int .i64 z.max] 49)).alloc (.cells #[] 49)) := bA _ _ b7
    refine wpAnyH_ready (rs := [0]) (by kernel_rfl) (by simp) ?_
    refine AllReadyH.cons rfl (fun K hK => ?_) AllReadyH.nil
    simp only [List.getElem_toArray, List.getElem_cons_zero]
    rw [if_pos (by rfl)]
    go_wp2_with fail
    refine hK.out _ _ (hS _ b1) (fun hHeld => ?_)
    clear hK K hHeld
    try simp only [pt, sb, s0, s1]
    obtain ⟨a5, c5, w6, hap6, ho6, hb6, -, hk6⟩ := HAP.out ((V2.alloc (.cells #[.int .i64 z.id, .int .i64 z.n, .int .i64 z.max] 49)).alloc (.cells #[] 49)) (V2.heap.size + 1) b1 (heap_alloc2_new _ _ _) (by omega)
    refine wpAnyH_ready (rs := [5]) (by kernel_rfl) (by simp) ?_
    refine AllReadyH.cons rfl (fun K hK => ?_) AllReadyH.nil
    simp only [List.getElem_toArray, List.getElem_cons_zero, List.getElem_cons_succ]
    rw [if_pos (by rfl)]
    refine oper_append _ _ _ rfl _ _ _ w6 rfl rfl hap6 ?_
    refine hK.out _ _ (hS _ hb6) (fun hHeld => ?_)
    clear hK K hHeld
    try simp only [pt, sb, s0, s1]
    have HO6 : Hid (w6.ownsRow V2.heap.size 49 3 (.slice a5 k c5) k (semK.flat (p.sems.take k)) ∧ w6.heap[V2.heap.size]? = some (.cells #[.int .i64 z.id, .int .i64 z.n, .int .i64 z.max] 49 (0, 0)) ∧ Below V2.heap.size V2 w6) := ⟨ho6, (hk6 _ (by omega) (by omega) (by simp <;> omega)).trans ((heap_alloc_old _ _ (by simp)).trans (heap_alloc_new _ _)), hb6⟩
    clear hap6 ho6 hb6 hk6 b1 b7 bA hS
   all_goals
    have ho6 : w6.ownsRow V2.heap.size 49 3 (.slice a5 (p.sems.take k).length c5) (p.sems.take k).length (semK.flat (p.sems.take k)) := by rw [hkl]; exact HO6.out.1
    obtain ⟨a7, c7, w7, hap2, ho7, hg7, -⟩ := more_sem w6 V2.heap.size a5 c5 (p.sems.take k) ho6 _ [z] 1 (src_block HO6.out.2.1) (by rw [hkl]; show k + 1 ≤ _; omega) HO6.out.2.2.size
    have hl7 : (p.sems.take k ++ [z]).length = k + 1 := by rw [List.length_append, hkl]; rfl
    rw [hkl] at hap2 ho7
    simp only [List.length_cons, List.length_nil, Nat.zero_add] at hap2 ho7
    have hb7 : Below V2.heap.size V2 w7 := HO6.out.2.2.grown hg7 HO6.out.2.2.size fun c e => (own_lt HO6.out.1 (own_block e)).1
    have HO7 : Hid (w7.ownsRow V2.heap.size 49 3 (.slice a7 (k + 1) c7) (k + 1) (semK.flat (p.sems.take k ++ [z])) ∧ Below V2.heap.size V2 w7 ∧ (p.sems.take k ++ [z]).length = k + 1) := ⟨ho7, hb7, hl7⟩
    refine wpAnyH_ready (rs := [8]) (by kernel_rfl) (by simp) ?_
    refine AllReadyH.cons rfl (fun K hK => ?_) AllReadyH.nil
    simp only [List.getElem_toArray, List.getElem_cons_zero, List.getElem_cons_succ]
    rw [if_pos (by rfl)]
    refine oper_append _ _ _ rfl _ _ _ w7 rfl rfl hap2 ?_
    refine hK.out _ _ ⟨(hb7.block _ (by omega)).trans HB.out.1, (hb7.block _ (by omega)).trans HX0.out⟩ (fun hHeld => ?_)
    clear hK K hHeld
    try simp only [pt, sb, s0, s1]
    have H8 : Hid (((PartBox (w7.setCell ⟨o, 3, none⟩ (.slice a7 (k + 1) c7)) w.heap.size p ∧ PartOwn (w7.setCell ⟨o, 3, none⟩ (.slice a7 (k + 1) c7)) b0 p ∧ Below w.heap.size w (w7.setCell ⟨o, 3, none⟩ (.slice a7 (k + 1) c7)) ∧ (w7.setCell ⟨o, 3, none⟩ (.slice a7 (k + 1) c7)).heap[w.heap.size + 1 + 1]? = some (.cells zero8 32 (0, 0))) ∧ (w7.setCell ⟨o, 3, none⟩ (.slice a7 (k + 1) c7)).heap[o]? = some (.cells #[.int .i64 q.id, .int .i64 q.next, .slice q.procA q.procs.length q.procC, .slice a7 (k + 1) c7, .slice q.eventA q.events.length q.eventC, .slice q.boardA q.boards.length q.boardC, .slice q.bufferA q.buffers.length q.bufferC, .slice q.portA q.ports.length q.portC] 32 (0, 0)) ∧ PartOwn (w7.setCell ⟨o, 3, none⟩ (.slice a7 (k + 1) c7)) W.heap.size q) ∧ (w7.setCell ⟨o, 3, none⟩ (.slice a7 (k + 1) c7)).ownsRow V2.heap.size 49 3 (.slice a7 (k + 1) c7) (k + 1) (semK.flat (p.sems.take k ++ [z])) ∧ V2.heap.size ≤ (w7.setCell ⟨o, 3, none⟩ (.slice a7 (k + 1) c7)).heap.size) := by
     have hbw : Below w.heap.size w w7 := HB.out.2.2.1.trans (hb7.mono (by have := HB.out.2.2.1.size; omega))
     refine ⟨⟨⟨(setCell_other (by omega)).trans (HB.out.1.below hb7), (HB.out.2.1.below hb7).same fun g hg => setCell_other (fun e => ?_), below_setCell hbw (by omega), (setCell_other (by omega)).trans ((hb7.block _ (by omega)).trans HB.out.2.2.2)⟩, setCell_block (HQ.out.1.below hb7), (HQ.out.2.1.below hb7).same fun g hg => setCell_other (by have := HQ.out.2.2.2.1 g hg; omega)⟩, own_same HO7.out.1 fun g hg => setCell_other (by have := (own_lt HO7.out.1 hg).1; omega), ?_⟩
     ·have := HPB.out g hg; omega
     ·rw [setCell_size]; exact hb7.size
    have HX8 : Hid ((w7.setCell ⟨o, 3, none⟩ (.slice a7 (k + 1) c7)).heap[w.heap.size + 1]? = some (.cells #[.int .i64 z.id, .int .i64 z.n, .int .i64 z.max] 49 (0, 0))) := (setCell_other (by omega)).trans ((hb7.block _ (by omega)).trans HX0.out)
    obtain ⟨⟨u, co⟩, fo⟩ : (∃ u, w7.cell? ⟨o, 3, none⟩ = some u) ∧ w7.frozen? ⟨o, 3, none⟩ = false := ⟨⟨_, (HQ.out.1.below hb7).cells.2.2.2.1⟩, frozen_of_row _ _ _ _ _ (HQ.out.1.below hb7)⟩
    have hS7 : PartBox w7 w.heap.size p ∧ w7.heap[w.heap.size + 1]? = some (.cells #[.int .i64 z.id, .int .i64 z.n, .int .i64 z.max] 49 (0, 0)) := ⟨(hb7.block _ (by omega)).trans HB.out.1, (hb7.block _ (by omega)).trans HX0.out⟩
    clear ho6 hap2 ho7 hg7 hb7 hl7 HO6 HAP
    refine tk 9 (v := ?_) ?_ hS7 ?_; rotate_left; (intro w0 hS0; go_simp; try with_reducible rfl); simp only [pt, sb, s0, s1]
    refine wpAnyH_ready (rs := [10]) (by kernel_rfl) (by simp) ?_
    refine AllReadyH.cons rfl (fun K hK => ?_) AllReadyH.nil
    simp only [List.getElem_toArray, List.getElem_cons_zero, List.getElem_cons_succ]
    rw [if_pos (by rfl)]
    go_wp2_with fail
    refine hK.out _ _ ⟨H8.out.1.1.1, HX8.out⟩ (fun hHeld => ?_)
    clear hK K hHeld
    try simp only [pt, sb, s0, s1]
    refine wpAnyH_done (by kernel_rfl) ?_ _
    clear co fo hS7 hq HX8 HX0
    go_wp2_with fail
    generalize w7.setCell ⟨o, 3, none⟩ (.slice a7 (k + 1) c7) = W8 at *
    have HS : Hid (W8.cell? ⟨w.heap.size, 3, none⟩ = some (.slice p.semA p.sems.length p.semC)) := H8.out.1.1.1.cells.2.2.2.1
    have co8 : W8.drew.cell? ⟨o, 3, none⟩ = some (.slice a7 (k + 1) c7) := by rw [cell_of_row _ _ _ _ _ _ (show W8.drew.heap[o]? = _ from H8.out.1.2.1)]; rfl
    obtain ⟨aS, haS⟩ : ∃ aS, (if p.semC = k then p.semA else Option.map (fun x => x.add (k * 3)) p.semA) = aS := ⟨_, rfl⟩
    refine wp_region_held_drew (S := fun w' => w'.cell? ⟨w.heap.size, 3, none⟩ = some (.slice p.semA p.sems.length p.semC)) (by kernel_rfl) HS.out (fun hHeld => ?_)
    refine tk 0 (v := ?_) ?_ hHeld ?_; rotate_left; (intro w0 hS0; have hS1 := hS0; go_simp; try with_reducible rfl); simp only [pt, sb, s0, s1]
    refine tk 2 (v := ?_) ?_ hHeld ?_; rotate_left; (intro w0 hS0; have hS1 := hS0; go_simp; try with_reducible rfl); simp only [pt, sb, s0, s1]
    refine tk 3 (v := ?_) ?_ hHeld ?_; rotate_left; (intro w0 hS0; have hS1 := hS0; go_simp; try with_reducible rfl); simp only [pt, sb, s0, s1]
    refine tk 4 (v := ?_) ?_ hHeld ?_; rotate_left; (intro w0 hS0; have hS1 := hS0; go_simp; try with_reducible rfl); simp only [pt, sb, s0, s1]
    refine tk 5 (v := ?_) ?_ hHeld ?_; rotate_left; (intro w0 hS0; have hS1 := hS0; go_simp; try with_reducible rfl); simp only [pt, sb, s0, s1]
    refine wpAnyH_ready (rs := [1]) (by kernel_rfl) (by simp) ?_
    refine AllReadyH.cons rfl (fun K hK => ?_) AllReadyH.nil
    simp only [List.getElem_toArray, List.getElem_cons_zero, List.getElem_cons_succ]
    rw [if_pos (by rfl)]
    go_wp2_with fail
    refine hK.out _ _ HS.out (fun hHeld => ?_)
    clear hK K
    try simp only [pt, sb, s0, s1]
    have hbd : Below W8.heap.size W8 W8.drew := (Below.refl _ _).drew
    have hl7 := HO7.out.2.2
    have hkd : (p.sems.drop k).length = p.sems.length - k := List.length_drop
    obtain ⟨a9, c9, w9, hr, ho9, hg9, -⟩ := more_sem W8.drew V2.heap.size a7 c7 (p.sems.take k ++ [z]) (by rw [hl7]; exact own_below H8.out.2.1 hbd) aS (p.sems.drop k) (p.semC - k) (by rw [← haS]; exact tail_src hcap (H8.out.1.1.2.1.below hbd).at.2.1.1) (by rw [hl7, hkd]; omega) H8.out.2.2
    rw [hl7, hkd] at hr ho9
    have hb9 : Below V2.heap.size W8.drew w9 := (Below.refl _ _).grown (a := W8.drew) hg9 H8.out.2.2 fun c e => (own_lt H8.out.2.1 (own_block e)).1
    have hq := HQ.out
    have h8 := H8.out
    have hol : o < V2.heap.size := hq.2.2.2.2.2.2
    have hwl : w.heap.size + 1 < o := by omega
    have ho10 : w9.heap[o]? = some (.cells #[.int .i64 q.id, .int .i64 q.next, .slice q.procA q.procs.length q.procC, .slice a7 (k + 1) c7, .slice q.eventA q.events.length q.eventC, .slice q.boardA q.boards.length q.boardC, .slice q.bufferA q.buffers.length q.bufferC, .slice q.portA q.ports.length q.portC] 32 (0, 0)) := (hb9.block _ hol).trans h8.1.2.1
    have H9 : Hid (w9.cell? ⟨w.heap.size, 3, none⟩ = some (.slice p.semA p.sems.length p.semC) ∧ (w9.setCell ⟨o, 3, none⟩ (.slice a9 (k + 1 + (p.sems.length - k)) c9)).cell? ⟨w.heap.size, 3, none⟩ = some (.slice p.semA p.sems.length p.semC)) := by
     have e1 : w9.cell? ⟨w.heap.size, 3, none⟩ = some (.slice p.semA p.sems.length p.semC) := (World.cell?_of_block (hb9.block _ (by show w.heap.size < _; omega))).trans HS.out
     exact ⟨e1, (World.cell?_of_block (setCell_other (by show w.heap.size ≠ o; omega))).trans e1⟩
    have hln : ((p.sems.take k ++ [z]) ++ p.sems.drop k).length = k + 1 + (p.sems.length - k) := by rw [List.length_append, hl7, hkd]
    have hpu : ({ q with sems := (p.sems.take k ++ [z]) ++ p.sems.drop k, semA := a9, semC := c9 } : PartD).pure = { p.pure with sems := insF (·.id) z p.pure.sems } := by
     have e1 : (p.sems.take k ++ [z]) ++ p.sems.drop k = insF (·.id) z p.pure.sems := by
      rw [List.append_assoc]
      exact insF_at HA.out (fun y hy => by have h5 := HX.out y hy; show ¬ y.id < z.id; omega)
     have e2 := HQ.out.2.2.1
     show ({ q.pure with sems := (p.sems.take k ++ [z]) ++ p.sems.drop k } : PartP) = _
     rw [e1, e2]
    have H10 : Hid (PartBox (w9.setCell ⟨o, 3, none⟩ (.slice a9 (k + 1 + (p.sems.length - k)) c9)) w.heap.size p ∧ PartOwn (w9.setCell ⟨o, 3, none⟩ (.slice a9 (k + 1 + (p.sems.length - k)) c9)) b0 p ∧ Below w.heap.size w (w9.setCell ⟨o, 3, none⟩ (.slice a9 (k + 1 + (p.sems.length - k)) c9)) ∧ (w9.setCell ⟨o, 3, none⟩ (.slice a9 (k + 1 + (p.sems.length - k)) c9)).heap[w.heap.size + 1 + 1]? = some (.cells zero8 32 (0, 0)) ∧ PartBox (w9.setCell ⟨o, 3, none⟩ (.slice a9 (k + 1 + (p.sems.length - k)) c9)) o ({ q with sems := (p.sems.take k ++ [z]) ++ p.sems.drop k, semA := a9, semC := c9 } : PartD) ∧ PartOwn (w9.setCell ⟨o, 3, none⟩ (.slice a9 (k + 1 + (p.sems.length - k)) c9)) W.heap.size ({ q with sems := (p.sems.take k ++ [z]) ++ p.sems.drop k, semA := a9, semC := c9 } : PartD) ∧ ({ q with sems := (p.sems.take k ++ [z]) ++ p.sems.drop k, semA := a9, semC := c9 } : PartD).pure = { p.pure with sems := insF (·.id) z p.pure.sems }) := by
     have hpb : ∀ g ∈ p.blocks, g < w.heap.size := HPB.out
     have hqb : ∀ g ∈ q.blocks, g < o := hq.2.2.2.1
     have sm : ∀ g, g < V2.heap.size → g ≠ o → (w9.setCell ⟨o, 3, none⟩ (.slice a9 (k + 1 + (p.sems.length - k)) c9)).heap[g]? = W8.heap[g]? := fun g hg hne => (setCell_other hne).trans (hb9.block _ hg)
     have hbw : Below w.heap.size w (w9.setCell ⟨o, 3, none⟩ (.slice a9 (k + 1 + (p.sems.length - k)) c9)) := below_setCell (h8.1.1.2.2.1.drew.trans (hb9.mono (by omega))) (by omega)
     refine ⟨(sm _ (by omega) (by omega)).trans h8.1.1.1, h8.1.1.2.1.same fun g hg => sm g (by have := hpb g hg; omega) (by have := hpb g hg; omega), hbw, (sm _ (by omega) (by omega)).trans h8.1.1.2.2.2, ?_, ?_, hpu⟩
     ·have h5 := setCell_block (i := 3) (v := .slice a9 (k + 1 + (p.sems.length - k)) c9) ho10
      unfold PartBox
      simp only [hln]
      exact h5
     ·refine h8.1.2.2.newSem (B := V2.heap.size) (by omega) (fun g hg => by have := hqb g hg; omega) (fun g hg => sm g (by have := hqb g hg; omega) (by have := hqb g hg; omega)) ?_
      rw [hln]
      exact own_same ho9 fun g hg => setCell_other (by have := (own_lt ho9 hg).1; omega)
    refine wpAnyH_ready (rs := [6]) (by kernel_rfl) (by simp) ?_
    refine AllReadyH.cons rfl (fun K hK => ?_) AllReadyH.nil
    simp only [List.getElem_toArray, List.getElem_cons_zero, List.getElem_cons_succ]
    rw [if_pos (by rfl)]
    refine oper_append _ _ _ rfl _ _ _ w9 rfl rfl hr ?_
    refine hK.out _ _ H9.out.1 (fun hHeld => ?_)
    clear hK K
    try simp only [pt, sb, s0, s1]
    obtain ⟨⟨u, co⟩, fo⟩ : (∃ u, w9.cell? ⟨o, 3, none⟩ = some u) ∧ w9.frozen? ⟨o, 3, none⟩ = false := ⟨⟨_, by rw [cell_of_row _ _ _ _ _ _ ho10]; rfl⟩, frozen_of_row _ _ _ _ _ ho10⟩
    clear hr ho9 hg9 hb9 hq h8 hol hwl ho10 hbd
    refine tk 7 (v := ?_) ?_ hHeld ?_; rotate_left; (intro w0 hS0; have hS1 := hS0; go_simp; try with_reducible rfl); simp only [pt, sb, s0, s1]
    refine wpAnyH_ready (rs := [8]) (by kernel_rfl) (by simp) ?_
    refine AllReadyH.cons rfl (fun K hK => ?_) AllReadyH.nil
    simp only [List.getElem_toArray, List.getElem_cons_zero, List.getElem_cons_succ]
    rw [if_pos (by rfl)]
    go_wp2_with fail
    refine hK.out _ _ H9.out.2 (fun hHeld => ?_)
    clear hK K
    try simp only [pt, sb, s0, s1]
    refine wpAnyH_done (by kernel_rfl) ?_ _
    clear hHeld co fo H9 HS co8
    generalize w9.setCell ⟨o, 3, none⟩ (.slice a9 (k + 1 + (p.sems.length - k)) c9) = W10 at *
    have hcall := l3Checked_any p ({ q with sems := (p.sems.take k ++ [z]) ++ p.sems.drop k, semA := a9, semC := c9 } : PartD) W10 ⟨HFT.out.1, HFT.out.2.1, H10.out.2.1.at⟩ (fun hr => by
     have h5 : PartP.Small ({ q with sems := (p.sems.take k ++ [z]) ++ p.sems.drop k, semA := a9, semC := c9 } : PartD).pure := by rw [H10.out.2.2.2.2.2.2]; exact insSem_small HFT.out.2.2.1 hr HFT.out.2.2.2
     exact ⟨small_fit h5, fun x hx => (small_proc h5 hx).1, H10.out.2.2.2.2.2.1.at⟩)
    obtain ⟨m0, m1, m2, m3, m4, m5, m6, m7⟩ := H10.out.1.cells
    obtain ⟨k0, k1, k2, k3, k4, k5, k6, k7⟩ := H10.out.2.2.2.2.1.cells
    unfold PartD.cells at hcall
    simp only [hln] at hcall k0 k1 k2 k3 k4 k5 k6 k7
    have HLN : Hid (((p.sems.take k ++ [z]) ++ p.sems.drop k).length = k + 1 + (p.sems.length - k)) := hln
    clear hln hl7 hkd haS hpu
    go_wp2_with fail
    refine hcall.mono ?_
    clear hcall m0 m1 m2 m3 m4 m5 m6 m7 k0 k1 k2 k3 k4 k5 k6 k7
    rintro e w11 ⟨hb11, hok⟩
    have hq := HQ.out.2.2.2.2
    have HZ : Hid (Below w.heap.size w w11 ∧ w11.heap[w.heap.size + 1 + 1]? = some (.cells zero8 32 (0, 0)) ∧ PartOwn w11 W.heap.size ({ q with sems := (p.sems.take k ++ [z]) ++ p.sems.drop k, semA := a9, semC := c9 } : PartD) ∧ w.heap.size + 1 + 1 < W.heap.size) := ⟨H10.out.2.2.1.trans (hb11.mono H10.out.2.2.1.size), (hb11.block _ (Array.getElem?_eq_some_iff.1 H10.out.2.2.2.1).1).trans H10.out.2.2.2.1, H10.out.2.2.2.2.2.1.below hb11, hq.2.1⟩
    clear hb11 hq
    rw [H10.out.2.2.2.2.2.2] at hok
    rcases hok with ⟨hok, rfl⟩ | ⟨hok, rfl⟩
    ·have HN : Hid (withR p.pure { p.pure with sems := insF (·.id) z p.pure.sems } = some { p.pure with sems := insF (·.id) z p.pure.sems }) := withR_ok hok
     clear hok
     go_wp2_with (refine wpList_store_row rfl 32 (Operand.tmp 4) (Operand.tmp 49) rfl (w.heap.size + 1 + 1) _ _ #[.int .i64 q.id, .int .i64 q.next, .slice q.procA q.procs.length q.procC, .slice a9 (k + 1 + (p.sems.length - k)) c9, .slice q.eventA q.events.length q.eventC, .slice q.boardA q.boards.length q.boardC, .slice q.bufferA q.buffers.length q.bufferC, .slice q.portA q.ports.length q.portC] rfl rfl HZ.out.2.1 (by kernel_rfl) rfl (by kernel_rfl) ?_)
     refine bodyPost_ret (v := .tuple #[.agg #[.int .i64 q.id, .int .i64 q.next, .slice q.procA q.procs.length q.procC, .slice a9 (k + 1 + (p.sems.length - k)) c9, .slice q.eventA q.events.length q.eventC, .slice q.boardA q.boards.length q.boardC, .slice q.bufferA q.buffers.length q.bufferC, .slice q.portA q.ports.length q.portC], .bool true]) (results_row_tmp Tryz.results35 _ _ (w.heap.size + 1 + 1) _ _ _ _ (by rfl) (setRow_heap _ _ _ _ _ _ HZ.out.2.1) Tryz.underlying32 rfl (by kernel_rfl)) rfl ?_
     have hl := HZ.out.2.2.2
     rw [HN.out]
     refine ⟨({ q with sems := (p.sems.take k ++ [z]) ++ p.sems.drop k, semA := a9, semC := c9 } : PartD), by unfold PartD.cells; simp only [HLN.out]; rfl, (HZ.out.2.2.1.lower (by omega)).same fun g hg => setRow_other _ _ _ _ (by have := (HZ.out.2.2.1.lt g hg).1; omega), H10.out.2.2.2.2.2.2, below_setRow HZ.out.1 (by omega) _⟩
    ·have HN : Hid (withR p.pure { p.pure with sems := insF (·.id) z p.pure.sems } = none) := withR_bad hok
     clear hok
     go_wp2_with (refine wpList_store_row rfl 32 (Operand.tmp 4) (Operand.tmp 49) rfl (w.heap.size + 1 + 1) _ _ zero8 rfl rfl HZ.out.2.1 (by kernel_rfl) rfl (by kernel_rfl) ?_)
     refine bodyPost_ret (v := .tuple #[.agg zero8, .bool false]) (results_row_tmp Tryz.results35 _ _ (w.heap.size + 1 + 1) _ _ _ _ (by rfl) (setRow_heap _ _ _ _ _ _ HZ.out.2.1) Tryz.underlying32 rfl (by kernel_rfl)) rfl ?_
     exact turnRes_no HN.out (below_setRow HZ.out.1 (by omega) _)
end Go.Proofs.YtkbcplnlehdjfaaGreat

/- A tick leaves a right partition: op by op. -/
namespace Go.Proofs.YtkbcplnlehdjfaaGreat
theorem empty_eq {s : ByteArray} (h : emptyB s = true) : s = noT := by
 have h1 : s.data.toList = [] := by simpa [emptyB, ByteArray.toList_eq] using h
 cases s with
 | mk d =>
  have : d = #[] := Array.toList_eq_nil_iff.1 h1
  rw [this]; rfl
def Up (id : Int) (p : PartP) : Prop := ∀ y ∈ p.procs, y.id = id → y.state = 1
def UpL (id : Int) (p : PartP) : Prop := ∀ y ∈ p.procs, y.id = id → y.state = 1 ∧ y.left = 0
section
variable {p : PartP} {id : Int}
theorem UpL.up (h : UpL id p) : Up id p := fun y hy hi => (h y hy hi).1
theorem Up.not (h : Up id p) : ∀ y ∈ p.procs, y.id = id → ¬ y.state = 0 := fun y hy hi => by rw [h y hy hi]; decide
theorem Up.other {k nx : Int} {f : ProcP → ProcP} (h : Up id p) (hk : ¬ k = id) (hf : ∀ x, (f x).id = x.id) : Up id { p with next := nx, procs := turnP k f p.procs } := fun y hy hi => by
 obtain ⟨z, hz, rfl⟩ := List.mem_map.1 (show y ∈ turnP k f p.procs from hy)
 split at hi
 ·rw [hf] at hi; omega
 ·rw [if_neg ‹_›]; exact h z hz hi
theorem UpL.got {t : ByteArray} {k : Int} (h : UpL id p) : UpL id (gotAt t k p) := fun y hy hi => by
 obtain ⟨z, hz, rfl⟩ := List.mem_map.1 (show y ∈ turnP k (gotP t) p.procs from hy)
 split at hi
 ·rw [if_pos ‹_›]; exact h z hz hi
 ·rw [if_neg ‹_›]; exact h z hz hi
theorem Up.wake {f : ProcP → ProcP} {x : ProcP} (h : Up id p) (hx : x ∈ p.procs) (hs : ¬ x.state = 1) (hf : ∀ y, (f y).id = y.id) : Up id (wakeAt f p x) :=
 Up.other h (fun e => hs (h x hx e)) fun y => by rw [(wakeF_id _ _ _).1, hf]
theorem Up.wakeAllN {f : ProcP → ProcP} {st on : Int} (hst : ¬ st = 1) (hf : ∀ y, (f y).id = y.id) : ∀ (n : Nat) (p : PartP), Up id p → Up id (wakeAllN f st on n p)
 | 0, _, h => h
 | n + 1, p, h => by
  unfold Go.Proofs.YtkbcplnlehdjfaaGreat.wakeAllN
  split
  ·exact h
  ·rename_i x hx
   obtain ⟨m1, m2, -⟩ := bestW_mem hx
   exact Up.wakeAllN hst hf n _ (h.wake m1 (by omega) hf)
theorem Up.wakeAll {f : ProcP → ProcP} {st on : Int} (h : Up id p) (hst : ¬ st = 1) (hf : ∀ y, (f y).id = y.id) : Up id (wakeAll f st on p) := Up.wakeAllN hst hf _ _ h
theorem past_up {code : Int} (h : PartR p) (hu : Up id p) (hc : inB code 0 3 = true) : PartR (pastAt code id p) := pastAt_right h hu.not hc
theorem block_right {st on wake : Int} {held : ByteArray} (h : PartR p) (hu : UpL id p) (hn : p.next + 1 ≤ 1000000000)
  (hs : st = 2 ∧ on = 0 ∧ emptyB held = true ∧ inB wake 1 2000000000 = true ∨ (st = 5 ∧ plainB held = true ∨ (st = 3 ∨ st = 4 ∨ st = 6 ∨ st = 7) ∧ emptyB held = true) ∧ wakeB wake = true ∧ hasB p st on = true) : PartR (blockAt st on held wake id p) := by
 have hnx := inB_iff.1 h.next
 refine h.turn (f := blockF p.next st on held wake) (fun _ => rfl) ⟨by omega, hn⟩ fun x hx hi => ?_
 obtain ⟨hx1, hx2⟩ := hu x hx hi
 obtain ⟨-, k1, k2, k3⟩ := h.proc hx
 have hop := op_of_state k1 (by rw [hx1]; decide)
 have hb := body_of k1
 have hh : plainB held = true := by
  rcases hs with hs | ⟨hs | hs, -⟩
  ·rw [empty_eq hs.2.2.1]; rfl
  ·exact hs.2
  ·rw [empty_eq hs.2]; rfl
 have ho : hasOpB (blockF p.next st on held wake x) = true := inB_true hop.1 (by show x.pc ≤ (x.prog.length : Int) - 1; omega)
 have hst : stateB (blockF p.next st on held wake x) = true := by
  unfold stateB
  rw [ho]
  show (if st = 0 then _ else if st = 1 then _ else if st = 2 then true && decide (x.left = 0) && inB wake 1 2000000000 && decide (on = 0) && emptyB held else if st = 5 then true && decide (x.left = 0) && wakeB wake else if st = 3 ∨ st = 4 ∨ st = 6 ∨ st = 7 then true && decide (x.left = 0) && wakeB wake && emptyB held else false) = true
  rw [hx2]
  rcases hs with ⟨rfl, rfl, h3, h4⟩ | ⟨⟨rfl, h3⟩ | ⟨h3, h4⟩, h5, -⟩
  ·simp [h3, h4]
  ·simp [h5]
  ·rcases h3 with rfl | rfl | rfl | rfl <;> simp [h4, h5]
 refine ⟨?_, ?_, ?_, .inr (.inr rfl)⟩
 ·rw [procB_is, Bool.and_eq_true]
  refine ⟨?_, hst⟩
  unfold bodyB at hb ⊢
  simp only [Bool.and_eq_true] at hb ⊢
  exact ⟨⟨⟨hb.1.1.1, hh⟩, hb.1.2⟩, hb.2⟩
 ·unfold turnB
  rw [Bool.or_eq_true]
  exact .inr (inB_true (by show 1 ≤ p.next; omega) (by show p.next ≤ p.next + 1 - 1; omega))
 ·unfold waitB
  show (if 3 ≤ st then hasB p st on else true) = true
  rcases hs with ⟨rfl, -⟩ | ⟨-, -, h5⟩
  ·rfl
  ·split
   ·exact h5
   ·rfl
theorem or_right {st now : Int} {o : OpD} (h : PartR p) (hu : UpL id p) (hn : p.next + 1 ≤ 1000000000) (hnow : 0 ≤ now ∧ now ≤ 1000000000) (hm : inB o.2.2.1 (-1) 1000 = true)
  (hs : st = 5 ∧ plainB o.2.2.2 = true ∨ (st = 3 ∨ st = 4 ∨ st = 6 ∨ st = 7) ∧ emptyB o.2.2.2 = true) (hh : hasB p st o.2.1 = true) : PartR (orAt st o now id p) := by
 have hm' := inB_iff.1 hm
 unfold orAt
 split
 ·exact past_up h hu.up rfl
 ·refine block_right h hu hn (.inr ⟨hs, ?_, hh⟩)
  unfold wakeB wakeOf
  rw [Bool.or_eq_true]
  split
  ·exact .inl (inB_true (by omega) (by omega))
  ·exact .inr (by simp)
theorem or_next {st now : Int} {o : OpD} : p.next ≤ (orAt st o now id p).next ∧ (orAt st o now id p).next ≤ p.next + 1 := by
 unfold orAt
 split
 ·exact ⟨Int.le_refl _, by show p.next ≤ _; omega⟩
 ·exact ⟨by show p.next ≤ p.next + 1; omega, Int.le_refl _⟩
theorem semUp_right {k d : Int} (h : PartR p) (hd : ∀ s ∈ p.sems, s.id = k → 0 ≤ s.n + d ∧ s.n + d ≤ s.max) : PartR (semUp k d p) :=
 h.withSems (by apply up_ids; intro _; rfl) (things_up h.sems (fun _ => rfl) fun s hs hk => by
  have h1 := (things_all h.sems s hs).2
  unfold semB at h1 ⊢
  simp only [Bool.and_eq_true] at h1 ⊢
  exact ⟨h1.1, inB_true (hd s hs hk).1 (hd s hs hk).2⟩)
theorem eventUp_right {k : Int} {b : Bool} (h : PartR p) : PartR (eventUp k b p) := h.withEvents (by apply up_ids; intro _; rfl) (things_up h.events (fun _ => rfl) fun _ _ _ => rfl)
theorem boardUp_right {k : Int} {b : Bool} {t : ByteArray} (h : PartR p) (ht : plainB t = true) (hb : b = true ∨ emptyB t = true) : PartR (boardUp k b t p) :=
 h.withBoards (by apply up_ids; intro _; rfl) (things_up h.boards (fun _ => rfl) fun s hs hk => by
  unfold boardB
  simp only [Bool.and_eq_true, Bool.or_eq_true]
  exact ⟨ht, hb⟩)
theorem texts_iff {l : List ByteArray} {m : Int} : textsB l m = true ↔ (l.length : Int) ≤ m ∧ ∀ t ∈ l, plainB t = true := by
 unfold textsB
 simp [and_comm]
theorem bufferUp_right {k : Int} {l : List ByteArray} (h : PartR p) (hl : ∀ b ∈ p.buffers, b.id = k → (l.length : Int) ≤ b.max) (ht : ∀ t ∈ l, plainB t = true) : PartR (bufferUp k l p) :=
 h.withBuffers (by apply up_ids; intro _; rfl) (things_up h.buffers (fun _ => rfl) fun s hs hk => by
  have h1 := (things_all h.buffers s hs).2
  unfold bufferB at h1 ⊢
  simp only [Bool.and_eq_true] at h1 ⊢
  exact ⟨h1.1, texts_iff.2 ⟨hl s hs hk, ht⟩⟩)
theorem portUp_right {k : Int} {l : List ByteArray} (h : PartR p) (hl : ∀ b ∈ p.ports, b.id = k → (l.length : Int) ≤ b.max) (ht : ∀ t ∈ l, plainB t = true) : PartR (portUp k l p) :=
 h.withPorts (by apply up_ids; intro _; rfl) (things_up h.ports (fun _ => rfl) fun s hs hk => by
  have h1 := (things_all h.ports s hs).2
  unfold portB at h1 ⊢
  simp only [Bool.and_eq_true] at h1 ⊢
  exact ⟨h1.1, texts_iff.2 ⟨hl s hs hk, ht⟩⟩)
theorem only {α : Type} {num : α → Int} {ok : α → Bool} {last k : Int} {l : List α} {x y : α} (h : thingsB num ok last l = true) (hx : findA num k l = some x) (hy : y ∈ l) (hk : num y = k) : y = x := by
 obtain ⟨h1, h2⟩ := findA_mem hx
 have h5 := (things_rise h).2
 rw [List.pairwise_iff_getElem] at h5
 obtain ⟨i, hi1, rfl⟩ := List.mem_iff_getElem.1 hy
 obtain ⟨j, hj1, rfl⟩ := List.mem_iff_getElem.1 h1
 rcases Nat.lt_trichotomy i j with hlt | heq | hgt
 ·have := h5 i j hi1 hj1 hlt; omega
 ·subst heq; rfl
 ·have := h5 j i hj1 hi1 hgt; omega
theorem has_of {α : Type} {num : α → Int} {k : Int} {l : List α} {x : α} (h : findA num k l = some x) : decide (k ∈ l.map num) = true := by
 obtain ⟨h1, h2⟩ := findA_mem h
 exact decide_eq_true (List.mem_map.2 ⟨x, h1, h2⟩)
end
end Go.Proofs.YtkbcplnlehdjfaaGreat

/- A region cut off from what comes behind it; a block that stays as it is. -/
namespace Go.Proofs.YtkbcplnlehdjfaaGreat
open Go Go.RowKit
theorem pn (a : Act) (v : Value) : a.put none v = a := rfl
def BoxAt (cs : Array Value) (T : TypeId) (X : Nat) (W : World) : Prop := W.heap[X]? = some (.cells cs T (0, 0))
section
variable {cs : Array Value} {T : TypeId} {X : Nat} {W W' : World} {bs : List Nat}
theorem BoxAt.lt (h : BoxAt cs T X W) : X < W.heap.size := (Array.getElem?_eq_some_iff.1 h).1
theorem BoxAt.below (h : BoxAt cs T X W) (hb : Below W.heap.size W W') : BoxAt cs T X W' := (hb.block _ h.lt).trans h
theorem BoxAt.kept (h : BoxAt cs T X W) (hk : KeptBut W W' bs) (hs : X ∉ bs) : BoxAt cs T X W' := (hk.same _ h.lt hs).trans h
end
theorem ga {α : Type} {l : List α} {i : Nat} (h : i < l.toArray.size) : l.toArray[i]'h = l[i]'(by simpa using h) := by simp
theorem gs {α : Type} {a : α} {l : List α} {i : Nat} (h : i + 1 < (a :: l).length) : (a :: l)[i + 1]'h = l[i]'(Nat.lt_of_succ_lt_succ h) := rfl
section
variable {p q : PartD} {w W U V : World} {B X b : Nat} {cs : Array Value} {T : TypeId} {Y : Prop}
end
end Go.Proofs.YtkbcplnlehdjfaaGreat
