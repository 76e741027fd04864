/- What the proof leans on, part 2: WithSemI. -/
import Derived.Test.YtkbcplnlehdjfaaGreatOwnR1
import Derived.Test.YtkbcplnlehdjfaaGreatOwnWSem0

namespace Go.Proofs.YtkbcplnlehdjfaaGreat
open Go.RowKit Go.Maps
attribute [local go_sem ↓] Go.wp_at_zero Go.wp_at_succ
set_option maxRecDepth 100000 in
set_option maxHeartbeats 8000000 in
theorem implWithSem_any (p : PartD) (z : SemD) (w : World) (hid : (Lit.int .i64 z.id).wf = true) (hg : p.Good w) :
  Calls Tryz.prog 34 #[.agg p.cells, .agg #[.int .i64 z.id, .int .i64 z.n, .int .i64 z.max]] w fun e w' => TurnRes w (withR p.pure { p.pure with sems := insF (·.id) z p.pure.sems }) e w' := by
 have HB : Hid (p.Good (((w.alloc (.cells p.cells 32)).alloc (.cells #[.int .i64 z.id, .int .i64 z.n, .int .i64 z.max] 49)).alloc (.cells zero8 32)) ∧ Below w.heap.size w (((w.alloc (.cells p.cells 32)).alloc (.cells #[.int .i64 z.id, .int .i64 z.n, .int .i64 z.max] 49)).alloc (.cells zero8 32)) ∧ (((w.alloc (.cells p.cells 32)).alloc (.cells #[.int .i64 z.id, .int .i64 z.n, .int .i64 z.max] 49)).alloc (.cells zero8 32)).heap[w.heap.size + 1 + 1]? = some (.cells zero8 32 (0, 0)) ∧ PartBox (((w.alloc (.cells p.cells 32)).alloc (.cells #[.int .i64 z.id, .int .i64 z.n, .int .i64 z.max] 49)).alloc (.cells zero8 32)) w.heap.size p ∧ (Lit.int .i64 z.id).wf = true ∧ (((w.alloc (.cells p.cells 32)).alloc (.cells #[.int .i64 z.id, .int .i64 z.n, .int .i64 z.max] 49)).alloc (.cells zero8 32)).heap[w.heap.size + 1]? = some (.cells #[.int .i64 z.id, .int .i64 z.n, .int .i64 z.max] 49 (0, 0))) := by
  have b1 : Below w.heap.size w (((w.alloc (.cells p.cells 32)).alloc (.cells #[.int .i64 z.id, .int .i64 z.n, .int .i64 z.max] 49)).alloc (.cells zero8 32)) := alloc3_below _ _ _ _
  have h3 := alloc3_facts w (.cells p.cells 32) (.cells #[.int .i64 z.id, .int .i64 z.n, .int .i64 z.max] 49) (.cells zero8 32)
  exact ⟨hg.below b1, b1, h3.2.2.1, h3.1, hid, h3.2.1⟩
 clear hg hid
 obtain ⟨m0, m1, m2, m3, m4, m5, m6, m7⟩ := HB.out.2.2.2.1.cells
 unfold PartD.cells at *
 go_enter Tryz.func34, Tryz.ntmps34
 go_wp2_with fail
 generalize ((w.alloc (.cells #[.int .i64 p.id, .int .i64 p.next, .slice p.procA p.procs.length p.procC, .slice p.semA p.sems.length p.semC, .slice p.eventA p.events.length p.eventC, .slice p.boardA p.boards.length p.boardC, .slice p.bufferA p.buffers.length p.bufferC, .slice p.portA p.ports.length p.portC] 32)).alloc (.cells #[.int .i64 z.id, .int .i64 z.n, .int .i64 z.max] 49)).alloc (.cells #[.int .i64 0, .int .i64 0, .slice none 0 0, .slice none 0 0, .slice none 0 0, .slice none 0 0, .slice none 0 0, .slice none 0 0] 32) = W at *
 clear m0 m1 m2 m3 m4 m5 m6 m7
 refine (opened_any p W HB.out.1).mono ?_
 rintro e w1 ⟨hb1, ⟨hno, rfl⟩ | ⟨hyes, o, S, rfl, hat, hpu⟩⟩
 all_goals replace hb1 := hb1.drew
 ·have HZ : Hid (Below w.heap.size w w1.drew ∧ w1.drew.heap[w.heap.size + 1 + 1]? = some (.cells zero8 32 (0, 0)) ∧ True) := ⟨HB.out.2.1.trans (hb1.mono HB.out.2.1.size), (hb1.block _ (Array.getElem?_eq_some_iff.1 HB.out.2.2.1).1).trans HB.out.2.2.1, trivial⟩
  have HN : Hid (withR p.pure { p.pure with sems := insF (·.id) z p.pure.sems } = none) := withR_not (partB_false hno)
  clear hb1 hno
  go_wp2_with fail
  refine tame_region (fun w' => w' = w1.drew) (by kernel_rfl) rfl ?_
  iterate 3 (refine yl (v := ?_) ?_ ?_; rotate_left; (intro w0 hS0; subst hS0; go_simp; try with_reducible rfl); simp only [pt, sb, s0, s1])
  iterate 7 (refine nl ?_; simp only [pt, sb, s0, s1])
  (refine yl (v := ?_) ?_ ?_; rotate_left; (intro w0 hS0; subst hS0; go_simp; try with_reducible rfl); simp only [pt, sb, s0, s1])
  refine tame_done (by kernel_rfl) ?_ _
  intro w1 hS1
  subst hS1
  go_wp2_with (refine wpList_store_row rfl 32 (Operand.tmp 4) (Operand.tmp 24) rfl (w.heap.size + 1 + 1) _ _ zero8 rfl rfl HZ.out.2.1 (by kernel_rfl) rfl (by kernel_rfl) ?_)
  refine bodyPost_ret (v := .tuple #[.agg zero8, .bool false]) (results_row_tmp Tryz.results34 _ _ (w.heap.size + 1 + 1) _ _ _ _ (by rfl) (setRow_heap _ _ _ _ _ _ HZ.out.2.1) Tryz.underlying32 rfl (by kernel_rfl)) rfl ?_
  exact turnRes_no HN.out (below_setRow HZ.out.1 (by omega) _)
 replace hat := hat.drew
 have HZ : Hid (Below w.heap.size w w1.drew ∧ w1.drew.heap[w.heap.size + 1 + 1]? = some (.cells zero8 32 (0, 0)) ∧ PartR S.pure ∧ OpenAt w1.drew W.heap.size o S ∧ S.pure = p.pure ∧ w.heap.size + 1 + 1 < W.heap.size ∧ W.heap.size ≤ w1.drew.heap.size) := ⟨HB.out.2.1.trans (hb1.mono HB.out.2.1.size), (hb1.block _ (Array.getElem?_eq_some_iff.1 HB.out.2.2.1).1).trans HB.out.2.2.1, by rw [hpu]; exact hyes, hat, hpu, (Array.getElem?_eq_some_iff.1 HB.out.2.2.1).1, hb1.size⟩
 obtain ⟨z0, z1, z2⟩ := sem_cells (x := z) ((hb1.block _ (by have := (Array.getElem?_eq_some_iff.1 HB.out.2.2.1).1; omega)).trans HB.out.2.2.2.2.2)
 have c0 : w1.drew.cell? ⟨o, 4, none⟩ = some (.int .i64 5) := hat.opn.cell 4
 have c1 : w1.drew.cell? ⟨o, 5, none⟩ = some (.map (some S.q.bs)) := hat.opn.cell 5
 have HM : Hid (partB { p.pure with sems := insF (·.id) z p.pure.sems } = layB 5 (keysOf (fun x : SemD => x.id) S.ls) z.id (semB z)) := by
  have h5 := moreSem (x := z) HZ.out.2.2.1
  rw [hpu] at h5
  refine h5.trans ?_
  have h6 : p.pure.sems = S.ls.map (fun p => (fun y : SemD => y) p.1) := by rw [← hpu]; rfl
  rw [h6]
  exact (lay_more (num := (fun x : SemD => x.id)) (num' := (·.id)) (fun y : SemD => y) (fun _ => rfl) semB z 5 S.ls).symm
 have hcall := laySem_any 5 S.q.bs (keysOf (fun x : SemD => x.id) S.ls) z w1.drew hat.sems.map HB.out.2.2.2.2.1 (by have h5 := (open_fits HZ.out.2.2.1).nSem; rw [keysOf_length]; omega) trivial
 have HLY : Hid (∀ e w', LayEnds w1.drew S.q.bs (keysOf (fun x : SemD => x.id) S.ls) (layB 5 (keysOf (fun x : SemD => x.id) S.ls) z.id (semB z)) z.id (semVs z) 49 e w' → LayEnds w1.drew S.q.bs (keysOf (fun x : SemD => x.id) S.ls) (partB { p.pure with sems := insF (·.id) z p.pure.sems }) z.id (semVs z) 49 e w') := fun e w' h5 => by rw [HM.out]; exact h5
 simp only [semVs] at hcall
 have HC : Hid (∀ w' : World, w'.heap[o]? = w1.drew.heap[o]? → w'.heap[w.heap.size + 1]? = w1.drew.heap[w.heap.size + 1]? → w'.cell? ⟨o, 4, none⟩ = some (.int .i64 5) ∧ w'.cell? ⟨o, 5, none⟩ = some (.map (some S.q.bs)) ∧ w'.cell? ⟨w.heap.size + 1, 0, none⟩ = some (.int .i64 z.id) ∧ w'.cell? ⟨w.heap.size + 1, 1, none⟩ = some (.int .i64 z.n) ∧ w'.cell? ⟨w.heap.size + 1, 2, none⟩ = some (.int .i64 z.max)) := fun w' e1 e2 => ⟨(World.cell?_of_block e1).trans c0, (World.cell?_of_block e1).trans c1, (World.cell?_of_block e2).trans z0, (World.cell?_of_block e2).trans z1, (World.cell?_of_block e2).trans z2⟩
 clear hb1 hyes hat hpu HM
 go_wp2_with fail
 refine wp_region_held_drew (S := fun w' => w'.cell? ⟨o, 4, none⟩ = some (.int .i64 5) ∧ w'.cell? ⟨o, 5, none⟩ = some (.map (some S.q.bs)) ∧ w'.cell? ⟨w.heap.size + 1, 0, none⟩ = some (.int .i64 z.id) ∧ w'.cell? ⟨w.heap.size + 1, 1, none⟩ = some (.int .i64 z.n) ∧ w'.cell? ⟨w.heap.size + 1, 2, none⟩ = some (.int .i64 z.max)) (by kernel_rfl) (HC.out _ rfl rfl) (fun hHeld => ?_)
 refine tk 0 (v := ?_) ?_ hHeld ?_; rotate_left; (intro w0 hS0; obtain ⟨q0, q1, q2, q3, q4⟩ := hS0; go_simp; try with_reducible rfl); simp only [pt, sb, s0, s1]
 refine tk 1 (v := ?_) ?_ hHeld ?_; rotate_left; (intro w0 hS0; obtain ⟨q0, q1, q2, q3, q4⟩ := hS0; go_simp; try with_reducible rfl); simp only [pt, sb, s0, s1]
 refine tk 2 (v := ?_) ?_ hHeld ?_; rotate_left; (intro w0 hS0; obtain ⟨q0, q1, q2, q3, q4⟩ := hS0; go_simp; try with_reducible rfl); simp only [pt, sb, s0, s1]
 refine tk 3 (v := ?_) ?_ hHeld ?_; rotate_left; (intro w0 hS0; obtain ⟨q0, q1, q2, q3, q4⟩ := hS0; go_simp; try with_reducible rfl); simp only [pt, sb, s0, s1]
 refine tk 4 (v := ?_) ?_ hHeld ?_; rotate_left; (intro w0 hS0; obtain ⟨q0, q1, q2, q3, q4⟩ := hS0; go_simp; try with_reducible rfl); simp only [pt, sb, s0, s1]
 refine tk 5 (v := ?_) ?_ hHeld ?_; rotate_left; (intro w0 hS0; obtain ⟨q0, q1, q2, q3, q4⟩ := hS0; go_simp; try with_reducible rfl); simp only [pt, sb, s0, s1]
 refine tk 6 (v := ?_) ?_ hHeld ?_; rotate_left; (intro w0 hS0; obtain ⟨q0, q1, q2, q3, q4⟩ := hS0; go_simp; try with_reducible rfl); simp only [pt, sb, s0, s1]
 refine tk 7 (v := ?_) ?_ hHeld ?_; rotate_left; (intro w0 hS0; obtain ⟨q0, q1, q2, q3, q4⟩ := hS0; go_simp; try with_reducible rfl); simp only [pt, sb, s0, s1]
 refine wpAnyH_ready (rs := [8]) (by kernel_rfl) (by simp) ?_
 refine AllReadyH.cons rfl (fun K hK => ?_) AllReadyH.nil
 simp only [List.getElem_toArray, List.getElem_cons_zero, List.getElem_cons_succ]
 rw [if_pos (by rfl)]
 go_wp2_with fail
 refine hcall.mono ?_
 clear hcall c0 c1 hHeld z0 z1 z2
 intro e w2 hE
 replace hE := HLY.out e w2 hE
 clear HLY
 cases hok : partB { p.pure with sems := insF (·.id) z p.pure.sems }
 ·rw [hok] at hE
  obtain ⟨rfl, hb2, -⟩ := hE
  have HZ2 : Hid (Below w.heap.size w w2 ∧ w2.heap[w.heap.size + 1 + 1]? = some (.cells zero8 32 (0, 0)) ∧ True) := ⟨HZ.out.1.trans ((hb2 rfl).mono HZ.out.1.size), ((hb2 rfl).block _ (Array.getElem?_eq_some_iff.1 HZ.out.2.1).1).trans HZ.out.2.1, trivial⟩
  have HN : Hid (withR p.pure { p.pure with sems := insF (·.id) z p.pure.sems } = none) := withR_no hok
  refine hK.out _ _ (HC.out w2 ((hb2 rfl).block _ (Array.getElem?_eq_some_iff.1 HZ.out.2.2.2.1.opn).1) ((hb2 rfl).block _ (by have := HZ.out.2.2.2.2.2; omega))) (fun hHeld => ?_)
  clear hK K
  try simp only [pt, sb, s0, s1]
  refine tk 9 (v := ?_) ?_ hHeld ?_; rotate_left; (intro w0 hS0; obtain ⟨q0, q1, q2, q3, q4⟩ := hS0; go_simp; try with_reducible rfl); simp only [pt, sb, s0, s1]
  refine tk 10 (v := ?_) ?_ hHeld ?_; rotate_left; (intro w0 hS0; obtain ⟨q0, q1, q2, q3, q4⟩ := hS0; go_simp; try with_reducible rfl); simp only [pt, sb, s0, s1]
  refine wpAnyH_done (by kernel_rfl) ?_ _
  clear hHeld HC
  clear hok hb2
  go_wp2_with (refine wpList_store_row rfl 32 (Operand.tmp 4) (Operand.tmp 24) rfl (w.heap.size + 1 + 1) _ _ zero8 rfl rfl HZ2.out.2.1 (by kernel_rfl) rfl (by kernel_rfl) ?_)
  refine bodyPost_ret (v := .tuple #[.agg zero8, .bool false]) (results_row_tmp Tryz.results34 _ _ (w.heap.size + 1 + 1) _ _ _ _ (by rfl) (setRow_heap _ _ _ _ _ _ HZ2.out.2.1) Tryz.underlying32 rfl (by kernel_rfl)) rfl ?_
  exact turnRes_no HN.out (below_setRow HZ2.out.1 (by omega) _)
 rw [hok] at hE
 obtain ⟨g, hat2, hb2⟩ := HZ.out.2.2.2.1.laySem (x := z) HZ.out.2.2.2.2.2.2 hE
 obtain ⟨rfl, -, -⟩ := hE
 have hlt := HZ.out.2.2.2.2.2.1
 have HN : Hid (withR p.pure { p.pure with sems := insF (·.id) z p.pure.sems } = some { p.pure with sems := insF (·.id) z p.pure.sems }) := withR_yes (by rw [← HZ.out.2.2.2.2.1]; exact partB_true HZ.out.2.2.1) hok
 have H2 : Hid (OpenAt w2 W.heap.size o ({ S with ls := insT (fun x : SemD => x.id) (z, g) S.ls } : OpenD) ∧ Below w.heap.size w w2 ∧ w2.heap[w.heap.size + 1 + 1]? = some (.cells zero8 32 (0, 0)) ∧ W.heap.size ≤ w2.heap.size) := ⟨hat2, HZ.out.1.trans (hb2.mono (by omega)), (hb2.block _ hlt).trans HZ.out.2.1, by have := hb2.size; have := HZ.out.2.2.2.2.2.2; omega⟩
 have HF : Hid (({ S with ls := insT (fun x : SemD => x.id) (z, g) S.ls } : OpenD).pure = { p.pure with sems := insF (·.id) z p.pure.sems } ∧ ({ S with ls := insT (fun x : SemD => x.id) (z, g) S.ls } : OpenD).Fits) := by
  have h5 := moreSem (x := z) HZ.out.2.2.1
  rw [HZ.out.2.2.2.2.1, hok] at h5
  have e1 : ({ S with ls := insT (fun x : SemD => x.id) (z, g) S.ls } : OpenD).pure = { p.pure with sems := insF (·.id) z p.pure.sems } := by
   have h6 : p.pure.sems = S.ls.map (fun p => (fun y : SemD => y) p.1) := by rw [← HZ.out.2.2.2.2.1]; rfl
   have h7 : (insT (fun x : SemD => x.id) (z, g) S.ls).map (fun p => (fun y : SemD => y) p.1) = insF (·.id) z p.pure.sems := by
    rw [insT_fst (num := (fun x : SemD => x.id)) (num' := (·.id)) (fun y : SemD => y) (fun _ => rfl), ← h6]
    exact (insF_is _ _ (more_not h5.symm)).symm
   rw [← HZ.out.2.2.2.2.1] at h7 ⊢
   unfold OpenD.pure at h7 ⊢
   simp only at h7 ⊢
   rw [← h7]
  exact ⟨e1, open_fits (by rw [e1]; exact (partB_iff _).1 hok)⟩
 refine hK.out _ _ (HC.out w2 (H2.out.1.opn.trans HZ.out.2.2.2.1.opn.symm) (hb2.block _ (by omega))) (fun hHeld => ?_)
 clear hK K
 try simp only [pt, sb, s0, s1]
 refine tk 9 (v := ?_) ?_ hHeld ?_; rotate_left; (intro w0 hS0; obtain ⟨q0, q1, q2, q3, q4⟩ := hS0; go_simp; try with_reducible rfl); simp only [pt, sb, s0, s1]
 refine tk 10 (v := ?_) ?_ hHeld ?_; rotate_left; (intro w0 hS0; obtain ⟨q0, q1, q2, q3, q4⟩ := hS0; go_simp; try with_reducible rfl); simp only [pt, sb, s0, s1]
 refine wpAnyH_done (by kernel_rfl) ?_ _
 clear hHeld HC
 clear hat2 hb2 hok
 go_wp2_with fail
 refine (toldPart_any o W.heap.size _ w2 H2.out.1 HF.out.2).mono ?_
 rintro e w3 ⟨r, rfl, ho3, hp3, hb3⟩
 have H3 : Hid (PartOwn w3 W.heap.size r ∧ Below w.heap.size w w3 ∧ w3.heap[w.heap.size + 1 + 1]? = some (.cells zero8 32 (0, 0)) ∧ r.pure = { p.pure with sems := insF (·.id) z p.pure.sems }) := ⟨ho3, H2.out.2.1.trans (hb3.mono H2.out.2.1.size), (hb3.block _ (Array.getElem?_eq_some_iff.1 H2.out.2.2.1).1).trans H2.out.2.2.1, hp3.trans HF.out.1⟩
 clear ho3 hp3 hb3
 go_wp2_with (refine wpList_store_row rfl 32 (Operand.tmp 4) (Operand.tmp 26) rfl (w.heap.size + 1 + 1) _ _ (PartD.cells r) rfl rfl H3.out.2.2.1 (by kernel_rfl) rfl (by kernel_rfl) ?_)
 refine bodyPost_ret (v := .tuple #[.agg (PartD.cells r), .bool true]) (results_row_tmp Tryz.results34 _ _ (w.heap.size + 1 + 1) _ _ _ _ (by rfl) (setRow_heap _ _ _ _ _ _ H3.out.2.2.1) Tryz.underlying32 rfl (by kernel_rfl)) rfl ?_
 rw [HN.out]
 exact ⟨r, rfl, (H3.out.1.lower (by omega)).same fun b hb => setRow_other _ _ _ _ (by have := (H3.out.1.lt b hb).1; omega), H3.out.2.2.2, below_setRow H3.out.2.1 (by omega) _⟩
end Go.Proofs.YtkbcplnlehdjfaaGreat
