/- What the proof leans on, part 42: TkBoard. -/
import Derived.Test.YtkbcplnlehdjfaaGreatOwnCh40
import Derived.Deep.LoopGhost
import Derived.Laws.Rows
import Derived.Deep.Cut

namespace Go.Proofs.YtkbcplnlehdjfaaGreat
open Go.RowKit Go.Maps
attribute [local go_sem ↓] Go.wp_at_zero Go.wp_at_succ
set_option maxRecDepth 100000 in
set_option maxHeartbeats 4000000 in
theorem l5Read_any (q : PartD) (n base : Nat) (x : ProcD) (now : Int) (o : OpD) (w : World) (h : PartOwn w base q) (hb : base ≤ w.heap.size) (hr : PartR q.pure) (hx : q.procs[n]? = some x) (hs : x.state = 1) (hn : q.next ≤ 999999990) (hnow : 0 ≤ now ∧ now ≤ 1000000000) (ho : opOk o = true) (hk : o.1 = 12) :
  Calls Tryz.prog 236 #[.agg q.cells, .int .i64 n, .agg (opC o), .int .i64 now] w (Gives w base q (boardsP o now x.id q.pure)) := by
 obtain ⟨-, f1, f2, f3, f4⟩ := op_fields ho
 have hM := inB_iff.1 f2
 obtain ⟨k, N, M, s⟩ := o
 simp only at hk hM f1 f3 f4
 subst hk
 have HR : Hid (PartR q.pure ∧ q.procs[n]? = some x ∧ x.state = 1 ∧ q.next ≤ 999999990 ∧ (0 ≤ now ∧ now ≤ 1000000000) ∧ (-1 ≤ M ∧ M ≤ 1000)) := ⟨hr, hx, hs, hn, hnow, hM⟩
 have HF : Hid (q.procs.length ≤ 6 ∧ q.sems.length ≤ 5 ∧ q.events.length ≤ 5 ∧ q.boards.length ≤ 5 ∧ q.buffers.length ≤ 5 ∧ q.ports.length ≤ 5) := part_lens hr
 clear f2 hr hx hs hn hnow hM ho
 have S := hided (FO.start (o := (12, N, M, s)) h hb)
 clear h hb
 go_enter Tryz.func236, Tryz.ntmps236
 go_upto_region 1 with fail
 generalize ((w.alloc (.cells q.cells 32)).alloc (.cells (opC (12, N, M, s)) 134)).alloc (.cells zero8 32) = A at *
 obtain ⟨-, o1, -, -⟩ := S.out.op.cells
 simp only at o1
 have hpf := place_findA (num := fun x : BoardD => x.id) N q.boards 0
 have hcall := l3Board_any q N A (by have := HF.out; omega) S.out.fr.own.at
 generalize place (q.boards.map (fun x => x.id)) N 0 = z at *
 go_wp2_with (refine wpList_load_row rfl 32 (.tmp 4) rfl w.heap.size (by rfl) 32 q.cells (0, 0) _ S.out.fr.box Tryz.underlying32 rfl (by kernel_rfl) ?_)
 refine hcall.mono ?_
 clear hcall
 rintro e A2 ⟨rfl, hb2⟩
 replace S := hided (S.out.reads hb2)
 clear hb2 o1
 rcases hpf with ⟨hz, hf⟩ | ⟨m, y, hz, hm, hid, hf⟩
 ·subst hz
  have HE : Hid (boardsP (12, N, M, s) now x.id q.pure = pastAt 3 x.id q.pure) := by show boardsP (12, N, M, s) now x.id q.pure = _; unfold boardsP; rw [show findA (fun x : BoardD => x.id) N q.pure.boards = none from hf]
  clear hf
  have hcall := past_gives (n := n) 3 S.out.fr.own S.out.low HR.out.1 HR.out.2.1 (by rw [HR.out.2.2.1]; decide)
  go_wp2_with (refine wpList_load_row rfl 32 (.tmp 4) rfl w.heap.size (by rfl) 32 q.cells (0, 0) _ S.out.fr.box Tryz.underlying32 rfl (by kernel_rfl) ?_)
  refine hcall.mono ?_
  clear hcall
  rintro e A2 ⟨q2, rfl, hp, ht⟩
  replace S := hided (S.out.call ht)
  have HP : Hid (q2.pure = _) := hp
  clear hp ht
  go_wp2_with (refine wpList_store_row rfl 32 (.tmp 8) (.tmp 19) rfl (w.heap.size + 2) _ _ q2.cells rfl rfl S.out.an (by kernel_rfl) rfl (by kernel_rfl) ?_)
  refine bodyPost_ret (v := .agg q2.cells) (results_cell_row Tryz.results236 _ _ (w.heap.size + 2) _ _ (0, 0) _ rfl (setRow_heap _ _ _ _ _ _ S.out.an) Tryz.underlying32 rfl (by kernel_rfl)) rfl ?_
  exact ⟨q2, rfl, HP.out.trans HE.out.symm, S.out.done _⟩
 rw [Nat.zero_add] at hz
 subst hz
 have dz : decide ((m : Int) < 0) = false := decide_eq_false (by omega)
 have HM : Hid (q.boards[m]? = some y ∧ y.id = N ∧ findA (fun x : BoardD => x.id) N q.pure.boards = some y) := ⟨hm, hid, hf⟩
 have hml := (List.getElem?_eq_some_iff.1 hm).1
 have j0 : (0 : Int) ≤ (m : Int) := by omega
 have j1 : (m : Int) < (q.boards.length : Int) := by omega
 clear hm hid hf hml
 obtain ⟨o0, -, -, -⟩ := S.out.op.cells
 simp only at o0
 have ht := (found_board (o := (12, N, M, s)) HR.out.1 HM.out.2.2).2
 have HG1 := hided (got_facts HR.out.1 HR.out.2.1 ht)
 clear ht
 go_upto_region 17 with fail
 clear dz o0
 replace S := hided (S.out.reads (Below.refl _ _).drew)
 refine last_region (fun w1 => w1 = A2.drew) 11 (by kernel_rfl) rfl ?_
 generalize A2.drew = B at *
 obtain ⟨ga, hga, hat⟩ := board_at S.out.fr.own.at.2.2.2.1 HM.out.1
 have m5 := S.out.fr.box.cells.2.2.2.2.2.1
 rw [hga] at m5
 have d1 := hat.2.1
 have d2 := hat.2.2
 have HG : Hid (q.boardA = some ⟨ga, 0, none⟩) := hga
 clear hat hga
 obtain ⟨gp, hgp, -⟩ := proc_at S.out.fr.own.at.1 HR.out.2.1
 have m2 := S.out.fr.box.cells.2.2.1
 have k1 : (n : Int) < (q.procs.length : Int) := by have := (List.getElem?_eq_some_iff.1 HR.out.2.1).1; omega
 have k0 : (0 : Int) ≤ (n : Int) := by omega
 rw [hgp] at m2
 obtain ⟨s1, ⟨u, c⟩, f⟩ := own_setProc (n := n) (j := 9) (v := .string y.text) (y := { x with got := y.text }) S.out.fr.own HR.out.2.1 hgp ⟨rfl, rfl, rfl⟩ (by decide) rfl
 replace S := hided (S.out.call s1)
 clear s1 hgp
 iterate 11 (refine ly 12 (v := ?_) (some _) rfl rfl (by kernel_rfl) (fun _ _ _ h => h) (does_yield (by kernel_rfl) ?_) ?_; rotate_left; (intro w0 hS0; subst hS0; go_simp; try with_reducible rfl); simp only [pt, sb, s0, s1])
 refine last_done rfl (by kernel_rfl) (by kernel_rfl) (by kernel_rfl) ?_
 intro w1 hS1
 rw [hS1]
 clear hS1 w1
 go_simp
 generalize B.setCell ⟨gp, n * 12 + 9, none⟩ (.string y.text) = C at *
 clear m2 m5 d1 d2 c f u k0 k1
 obtain ⟨q1, hq1, hq⟩ := HG1.out
 have HB : Hid (q1.boards[m]? = some y ∧ q1.next = q.next ∧ q1.boardA = q.boardA) := by rw [hq1]; exact ⟨HM.out.1, rfl, rfl⟩
 rw [← hq1] at S
 have HQ := hided hq
 clear hq1 hq HG1
 obtain ⟨ga2, hga, hat⟩ := board_at S.out.fr.own.at.2.2.2.1 HB.out.1
 rw [HB.out.2.2, HG.out] at hga
 cases hga
 have d1 := hat.2.1
 clear hat
 have m5 := S.out.fr.box.cells.2.2.2.2.2.1
 rw [HG.out] at m5
 cases hu : y.shown
 ·rw [hu] at d1
  have HE : Hid (boardsP (12, N, M, s) now x.id q.pure = orAt 7 (12, N, M, s) now x.id (gotAt y.text x.id q.pure)) := by show boardsP (12, N, M, s) now x.id q.pure = _; unfold boardsP; rw [show findA (fun x : BoardD => x.id) N q.pure.boards = some y from HM.out.2.2]; simp [hu]
  clear hu
  have hcall := l5Or_any q1 n base { x with got := y.text } 7 now (12, N, M, s) C S.out.fr.own S.out.low HQ.out.2.2.1 HQ.out.2.2.2 (by show ¬ x.state = 0; rw [HR.out.2.2.1]; decide) (by have := HR.out.2.2.2.1; rw [HB.out.2.1]; omega) HR.out.2.2.2.2.1 HR.out.2.2.2.2.2
  rw [HQ.out.1, HQ.out.2.1] at hcall
  go_wp2_with (first | (refine wpList_load_row rfl 32 (.tmp 4) rfl w.heap.size (by rfl) 32 q.cells (0, 0) _ S.out.fr.box Tryz.underlying32 rfl (by kernel_rfl) ?_) | (refine wpList_load_row rfl 134 (.tmp 6) rfl (w.heap.size + 1) (by rfl) 134 (opC (12, N, M, s)) (0, 0) _ S.out.op Tryz.underlying134 rfl (by kernel_rfl) ?_))
  refine hcall.mono ?_
  clear hcall
  rintro e A2 ⟨q2, rfl, hp, ht⟩
  replace S := hided (S.out.call ht)
  have HP : Hid (q2.pure = _) := hp
  clear hp ht
  go_wp2_with (refine wpList_store_row rfl 32 (.tmp 8) (.tmp 92) rfl (w.heap.size + 2) _ _ q2.cells rfl rfl S.out.an (by kernel_rfl) rfl (by kernel_rfl) ?_)
  refine bodyPost_ret (v := .agg q2.cells) (results_cell_row Tryz.results236 _ _ (w.heap.size + 2) _ _ (0, 0) _ rfl (setRow_heap _ _ _ _ _ _ S.out.an) Tryz.underlying32 rfl (by kernel_rfl)) rfl ?_
  exact ⟨q2, rfl, HP.out.trans HE.out.symm, S.out.done _⟩
 ·rw [hu] at d1
  have HE : Hid (boardsP (12, N, M, s) now x.id q.pure = pastAt 0 x.id (gotAt y.text x.id q.pure)) := by show boardsP (12, N, M, s) now x.id q.pure = _; unfold boardsP; rw [show findA (fun x : BoardD => x.id) N q.pure.boards = some y from HM.out.2.2]; simp [hu]
  clear hu
  have hcall := past_gives (n := n) 0 S.out.fr.own S.out.low HQ.out.2.2.1 HQ.out.2.2.2 (by show ¬ x.state = 0; rw [HR.out.2.2.1]; decide)
  rw [HQ.out.1, HQ.out.2.1] at hcall
  go_wp2_with (refine wpList_load_row rfl 32 (.tmp 4) rfl w.heap.size (by rfl) 32 q.cells (0, 0) _ S.out.fr.box Tryz.underlying32 rfl (by kernel_rfl) ?_)
  refine hcall.mono ?_
  clear hcall
  rintro e A2 ⟨q2, rfl, hp, ht⟩
  replace S := hided (S.out.call ht)
  have HP : Hid (q2.pure = _) := hp
  clear hp ht
  go_wp2_with (refine wpList_store_row rfl 32 (.tmp 8) (.tmp 95) rfl (w.heap.size + 2) _ _ q2.cells rfl rfl S.out.an (by kernel_rfl) rfl (by kernel_rfl) ?_)
  refine bodyPost_ret (v := .agg q2.cells) (results_cell_row Tryz.results236 _ _ (w.heap.size + 2) _ _ (0, 0) _ rfl (setRow_heap _ _ _ _ _ _ S.out.an) Tryz.underlying32 rfl (by kernel_rfl)) rfl ?_
  exact ⟨q2, rfl, HP.out.trans HE.out.symm, S.out.done _⟩
set_option maxRecDepth 100000 in
set_option maxHeartbeats 4000000 in
theorem l5Clear_any (q : PartD) (n base : Nat) (x : ProcD) (now : Int) (o : OpD) (w : World) (h : PartOwn w base q) (hb : base ≤ w.heap.size) (hr : PartR q.pure) (hx : q.procs[n]? = some x) (hs : x.state = 1) (hn : q.next ≤ 999999990) (hnow : 0 ≤ now ∧ now ≤ 1000000000) (ho : opOk o = true) (hk : o.1 = 11) :
  Calls Tryz.prog 236 #[.agg q.cells, .int .i64 n, .agg (opC o), .int .i64 now] w (Gives w base q (boardsP o now x.id q.pure)) := by
 obtain ⟨-, f1, f2, f3, f4⟩ := op_fields ho
 have hM := inB_iff.1 f2
 obtain ⟨k, N, M, s⟩ := o
 simp only at hk hM f1 f3 f4
 subst hk
 have HR : Hid (PartR q.pure ∧ q.procs[n]? = some x ∧ x.state = 1 ∧ q.next ≤ 999999990 ∧ (0 ≤ now ∧ now ≤ 1000000000) ∧ (-1 ≤ M ∧ M ≤ 1000)) := ⟨hr, hx, hs, hn, hnow, hM⟩
 have HF : Hid (q.procs.length ≤ 6 ∧ q.sems.length ≤ 5 ∧ q.events.length ≤ 5 ∧ q.boards.length ≤ 5 ∧ q.buffers.length ≤ 5 ∧ q.ports.length ≤ 5) := part_lens hr
 clear f2 hr hx hs hn hnow hM ho
 have S := hided (FO.start (o := (11, N, M, s)) h hb)
 clear h hb
 go_enter Tryz.func236, Tryz.ntmps236
 go_upto_region 1 with fail
 generalize ((w.alloc (.cells q.cells 32)).alloc (.cells (opC (11, N, M, s)) 134)).alloc (.cells zero8 32) = A at *
 obtain ⟨-, o1, -, -⟩ := S.out.op.cells
 simp only at o1
 have hpf := place_findA (num := fun x : BoardD => x.id) N q.boards 0
 have hcall := l3Board_any q N A (by have := HF.out; omega) S.out.fr.own.at
 generalize place (q.boards.map (fun x => x.id)) N 0 = z at *
 go_wp2_with (refine wpList_load_row rfl 32 (.tmp 4) rfl w.heap.size (by rfl) 32 q.cells (0, 0) _ S.out.fr.box Tryz.underlying32 rfl (by kernel_rfl) ?_)
 refine hcall.mono ?_
 clear hcall
 rintro e A2 ⟨rfl, hb2⟩
 replace S := hided (S.out.reads hb2)
 clear hb2 o1
 rcases hpf with ⟨hz, hf⟩ | ⟨m, y, hz, hm, hid, hf⟩
 ·subst hz
  have HE : Hid (boardsP (11, N, M, s) now x.id q.pure = pastAt 3 x.id q.pure) := by show boardsP (11, N, M, s) now x.id q.pure = _; unfold boardsP; rw [show findA (fun x : BoardD => x.id) N q.pure.boards = none from hf]
  clear hf
  have hcall := past_gives (n := n) 3 S.out.fr.own S.out.low HR.out.1 HR.out.2.1 (by rw [HR.out.2.2.1]; decide)
  go_wp2_with (refine wpList_load_row rfl 32 (.tmp 4) rfl w.heap.size (by rfl) 32 q.cells (0, 0) _ S.out.fr.box Tryz.underlying32 rfl (by kernel_rfl) ?_)
  refine hcall.mono ?_
  clear hcall
  rintro e A2 ⟨q2, rfl, hp, ht⟩
  replace S := hided (S.out.call ht)
  have HP : Hid (q2.pure = _) := hp
  clear hp ht
  go_wp2_with (refine wpList_store_row rfl 32 (.tmp 8) (.tmp 19) rfl (w.heap.size + 2) _ _ q2.cells rfl rfl S.out.an (by kernel_rfl) rfl (by kernel_rfl) ?_)
  refine bodyPost_ret (v := .agg q2.cells) (results_cell_row Tryz.results236 _ _ (w.heap.size + 2) _ _ (0, 0) _ rfl (setRow_heap _ _ _ _ _ _ S.out.an) Tryz.underlying32 rfl (by kernel_rfl)) rfl ?_
  exact ⟨q2, rfl, HP.out.trans HE.out.symm, S.out.done _⟩
 rw [Nat.zero_add] at hz
 subst hz
 have dz : decide ((m : Int) < 0) = false := decide_eq_false (by omega)
 have HM : Hid (q.boards[m]? = some y ∧ y.id = N ∧ findA (fun x : BoardD => x.id) N q.pure.boards = some y) := ⟨hm, hid, hf⟩
 have hml := (List.getElem?_eq_some_iff.1 hm).1
 have j0 : (0 : Int) ≤ (m : Int) := by omega
 have j1 : (m : Int) < (q.boards.length : Int) := by omega
 clear hm hid hf hml
 obtain ⟨o0, -, -, -⟩ := S.out.op.cells
 simp only at o0
 have HE : Hid (boardsP (11, N, M, s) now x.id q.pure = pastAt 0 x.id (boardUp N false noT q.pure)) := by show boardsP (11, N, M, s) now x.id q.pure = _; unfold boardsP; rw [show findA (fun x : BoardD => x.id) N q.pure.boards = some y from HM.out.2.2]; rfl
 obtain ⟨ga, hga, hat⟩ := board_at S.out.fr.own.at.2.2.2.1 HM.out.1
 have m5 := S.out.fr.box.cells.2.2.2.2.2.1
 rw [hga] at m5
 have HG : Hid (q.boardA = some ⟨ga, 0, none⟩) := hga
 clear hat hga
 obtain ⟨s1, ⟨u, c⟩, f⟩ := own_setBoard (n := m) (j := 1) (v := .bool false) (y := { y with shown := false }) S.out.fr.own HM.out.1 HG.out (by decide) rfl
 replace S := hided (S.out.call s1)
 clear s1
 go_upto_region 15 with fail
 generalize A2.setCell ⟨ga, m * 3 + 1, none⟩ (.bool false) = C at *
 clear m5 c f u
 have m5 := S.out.fr.box.cells.2.2.2.2.2.1
 rw [HG.out] at m5
 obtain ⟨s1, ⟨u, c⟩, f⟩ := own_setBoard (n := m) (j := 2) (v := .string ⟨#[]⟩) (x := { y with shown := false }) (y := { y with shown := false, text := noT }) S.out.fr.own (by show (q.boards.set m _)[m]? = _; rw [List.getElem?_set_self (List.getElem?_eq_some_iff.1 HM.out.1).1]) HG.out (by decide) rfl
 replace S := hided (S.out.call s1)
 clear s1
 simp only [List.set_set] at S
 go_upto_region 20 with fail
 generalize C.setCell ⟨ga, m * 3 + 2, none⟩ (.string ⟨#[]⟩) = D at *
 clear m5 c f u dz j0 j1
 have HQ0 : Hid (∃ q1 : PartD, q1 = { q with boards := q.boards.set m { y with shown := false, text := noT } } ∧ q1.pure = boardUp N false noT q.pure ∧ q1.cells = q.cells ∧ PartR q1.pure ∧ q1.procs[n]? = some x ∧ q1.next = q.next) := by
  have hq : ({ q with boards := q.boards.set m { y with shown := false, text := noT } } : PartD).pure = boardUp N false noT q.pure := by show ({ q.pure with boards := q.boards.set m { y with shown := false, text := noT } } : PartP) = _; unfold boardUp; rw [turnA_set (num := fun x : BoardD => x.id) (things_rise HR.out.1.boards).2 HM.out.1 HM.out.2.1]; rfl
  exact ⟨_, rfl, hq, by unfold PartD.cells; simp, by rw [hq]; exact boardUp_right HR.out.1 plain_no (.inr empty_no), HR.out.2.1, rfl⟩
 obtain ⟨q1, hq1, hq⟩ := HQ0.out
 rw [← hq1] at S
 have HQ := hided hq
 clear hq1 hq HQ0
 have hcall := past_gives (n := n) 0 S.out.fr.own S.out.low HQ.out.2.2.1 HQ.out.2.2.2.1 (by rw [HR.out.2.2.1]; decide)
 rw [HQ.out.1, HQ.out.2.1] at hcall
 go_wp2_with (refine wpList_load_row rfl 32 (.tmp 4) rfl w.heap.size (by rfl) 32 q.cells (0, 0) _ S.out.fr.box Tryz.underlying32 rfl (by kernel_rfl) ?_)
 refine hcall.mono ?_
 clear hcall
 rintro e A2 ⟨q2, rfl, hp, ht⟩
 replace S := hided (S.out.call ht)
 have HP : Hid (q2.pure = _) := hp
 clear hp ht
 go_wp2_with (refine wpList_store_row rfl 32 (.tmp 8) (.tmp 95) rfl (w.heap.size + 2) _ _ q2.cells rfl rfl S.out.an (by kernel_rfl) rfl (by kernel_rfl) ?_)
 refine bodyPost_ret (v := .agg q2.cells) (results_cell_row Tryz.results236 _ _ (w.heap.size + 2) _ _ (0, 0) _ rfl (setRow_heap _ _ _ _ _ _ S.out.an) Tryz.underlying32 rfl (by kernel_rfl)) rfl ?_
 exact ⟨q2, rfl, HP.out.trans HE.out.symm, S.out.done _⟩
set_option maxRecDepth 100000 in
set_option maxHeartbeats 4000000 in
theorem l5Show_any (q : PartD) (n base : Nat) (x : ProcD) (now : Int) (o : OpD) (w : World) (h : PartOwn w base q) (hb : base ≤ w.heap.size) (hr : PartR q.pure) (hx : q.procs[n]? = some x) (hs : x.state = 1) (hn : q.next ≤ 999999990) (hnow : 0 ≤ now ∧ now ≤ 1000000000) (ho : opOk o = true) (hk : o.1 = 10) :
  Calls Tryz.prog 236 #[.agg q.cells, .int .i64 n, .agg (opC o), .int .i64 now] w (Gives w base q (boardsP o now x.id q.pure)) := by
 obtain ⟨-, f1, f2, f3, f4⟩ := op_fields ho
 have hM := inB_iff.1 f2
 obtain ⟨k, N, M, s⟩ := o
 simp only at hk hM f1 f3 f4
 subst hk
 have HR : Hid (PartR q.pure ∧ q.procs[n]? = some x ∧ x.state = 1 ∧ q.next ≤ 999999990 ∧ (0 ≤ now ∧ now ≤ 1000000000) ∧ (-1 ≤ M ∧ M ≤ 1000)) := ⟨hr, hx, hs, hn, hnow, hM⟩
 have HF : Hid (q.procs.length ≤ 6 ∧ q.sems.length ≤ 5 ∧ q.events.length ≤ 5 ∧ q.boards.length ≤ 5 ∧ q.buffers.length ≤ 5 ∧ q.ports.length ≤ 5) := part_lens hr
 clear f2 hr hx hs hn hnow hM ho
 have S := hided (FO.start (o := (10, N, M, s)) h hb)
 clear h hb
 go_enter Tryz.func236, Tryz.ntmps236
 go_upto_region 1 with fail
 generalize ((w.alloc (.cells q.cells 32)).alloc (.cells (opC (10, N, M, s)) 134)).alloc (.cells zero8 32) = A at *
 obtain ⟨-, o1, -, -⟩ := S.out.op.cells
 simp only at o1
 have hpf := place_findA (num := fun x : BoardD => x.id) N q.boards 0
 have hcall := l3Board_any q N A (by have := HF.out; omega) S.out.fr.own.at
 generalize place (q.boards.map (fun x => x.id)) N 0 = z at *
 go_wp2_with (refine wpList_load_row rfl 32 (.tmp 4) rfl w.heap.size (by rfl) 32 q.cells (0, 0) _ S.out.fr.box Tryz.underlying32 rfl (by kernel_rfl) ?_)
 refine hcall.mono ?_
 clear hcall
 rintro e A2 ⟨rfl, hb2⟩
 replace S := hided (S.out.reads hb2)
 clear hb2 o1
 rcases hpf with ⟨hz, hf⟩ | ⟨m, y, hz, hm, hid, hf⟩
 ·subst hz
  have HE : Hid (boardsP (10, N, M, s) now x.id q.pure = pastAt 3 x.id q.pure) := by show boardsP (10, N, M, s) now x.id q.pure = _; unfold boardsP; rw [show findA (fun x : BoardD => x.id) N q.pure.boards = none from hf]
  clear hf
  have hcall := past_gives (n := n) 3 S.out.fr.own S.out.low HR.out.1 HR.out.2.1 (by rw [HR.out.2.2.1]; decide)
  go_wp2_with (refine wpList_load_row rfl 32 (.tmp 4) rfl w.heap.size (by rfl) 32 q.cells (0, 0) _ S.out.fr.box Tryz.underlying32 rfl (by kernel_rfl) ?_)
  refine hcall.mono ?_
  clear hcall
  rintro e A2 ⟨q2, rfl, hp, ht⟩
  replace S := hided (S.out.call ht)
  have HP : Hid (q2.pure = _) := hp
  clear hp ht
  go_wp2_with (refine wpList_store_row rfl 32 (.tmp 8) (.tmp 19) rfl (w.heap.size + 2) _ _ q2.cells rfl rfl S.out.an (by kernel_rfl) rfl (by kernel_rfl) ?_)
  refine bodyPost_ret (v := .agg q2.cells) (results_cell_row Tryz.results236 _ _ (w.heap.size + 2) _ _ (0, 0) _ rfl (setRow_heap _ _ _ _ _ _ S.out.an) Tryz.underlying32 rfl (by kernel_rfl)) rfl ?_
  exact ⟨q2, rfl, HP.out.trans HE.out.symm, S.out.done _⟩
 rw [Nat.zero_add] at hz
 subst hz
 have dz : decide ((m : Int) < 0) = false := decide_eq_false (by omega)
 have HM : Hid (q.boards[m]? = some y ∧ y.id = N ∧ findA (fun x : BoardD => x.id) N q.pure.boards = some y) := ⟨hm, hid, hf⟩
 have hml := (List.getElem?_eq_some_iff.1 hm).1
 have j0 : (0 : Int) ≤ (m : Int) := by omega
 have j1 : (m : Int) < (q.boards.length : Int) := by omega
 clear hm hid hf hml
 obtain ⟨o0, -, -, -⟩ := S.out.op.cells
 simp only at o0
 have HE : Hid (boardsP (10, N, M, s) now x.id q.pure = pastAt 0 x.id (wakeAll (gotP s) 7 N (boardUp N true s q.pure))) := by show boardsP (10, N, M, s) now x.id q.pure = _; unfold boardsP; rw [show findA (fun x : BoardD => x.id) N q.pure.boards = some y from HM.out.2.2]; rfl
 obtain ⟨ga, hga, hat⟩ := board_at S.out.fr.own.at.2.2.2.1 HM.out.1
 have m5 := S.out.fr.box.cells.2.2.2.2.2.1
 rw [hga] at m5
 have HG : Hid (q.boardA = some ⟨ga, 0, none⟩) := hga
 clear hat hga
 obtain ⟨s1, ⟨u, c⟩, f⟩ := own_setBoard (n := m) (j := 1) (v := .bool true) (y := { y with shown := true }) S.out.fr.own HM.out.1 HG.out (by decide) rfl
 replace S := hided (S.out.call s1)
 clear s1
 go_upto_region 7 with fail
 generalize A2.setCell ⟨ga, m * 3 + 1, none⟩ (.bool true) = C at *
 clear m5 c f u
 obtain ⟨-, -, -, o3⟩ := S.out.op.cells
 simp only at o3
 have m5 := S.out.fr.box.cells.2.2.2.2.2.1
 rw [HG.out] at m5
 obtain ⟨s1, ⟨u, c⟩, f⟩ := own_setBoard (n := m) (j := 2) (v := .string s) (x := { y with shown := true }) (y := { y with shown := true, text := s }) S.out.fr.own (by show (q.boards.set m _)[m]? = _; rw [List.getElem?_set_self (List.getElem?_eq_some_iff.1 HM.out.1).1]) HG.out (by decide) rfl
 replace S := hided (S.out.call s1)
 clear s1
 simp only [List.set_set] at S
 go_upto_region 8 with fail
 generalize C.setCell ⟨ga, m * 3 + 2, none⟩ (.string s) = D at *
 clear m5 c f u dz j0 j1 o3
 have HQ0 : Hid (∃ q1 : PartD, q1 = { q with boards := q.boards.set m { y with shown := true, text := s } } ∧ q1.pure = boardUp N true s q.pure ∧ q1.cells = q.cells ∧ PartR q1.pure ∧ q1.procs[n]? = some x ∧ q1.next = q.next) := by
  have hq : ({ q with boards := q.boards.set m { y with shown := true, text := s } } : PartD).pure = boardUp N true s q.pure := by show ({ q.pure with boards := q.boards.set m { y with shown := true, text := s } } : PartP) = _; unfold boardUp; rw [turnA_set (num := fun x : BoardD => x.id) (things_rise HR.out.1.boards).2 HM.out.1 HM.out.2.1]; rfl
  exact ⟨_, rfl, hq, by unfold PartD.cells; simp, by rw [hq]; exact boardUp_right HR.out.1 f3 (.inl rfl), HR.out.2.1, rfl⟩
 obtain ⟨q1, hq1, hq⟩ := HQ0.out
 rw [← hq1] at S
 have HQ := hided hq
 clear hq1 hq HQ0
 have hcall := l4Best_any q1 7 N D (by have := (part_lens HQ.out.2.2.1).1; omega) S.out.fr.own.at
 rw [HQ.out.2.1] at hcall
 obtain ⟨-, o1, -, -⟩ := S.out.op.cells
 simp only at o1
 go_wp2_with (refine wpList_load_row rfl 32 (.tmp 4) rfl w.heap.size (by rfl) 32 q.cells (0, 0) _ S.out.fr.box Tryz.underlying32 rfl (by kernel_rfl) ?_)
 refine hcall.mono ?_
 clear hcall o1
 rintro e D2 ⟨⟨z, rfl, hbest⟩, hb2⟩
 replace S := hided (S.out.reads hb2)
 clear hb2
 have SB := hided (S.out.sync HQ.out.2.1)
 have HF3 : Hid (plainB s = true) := f3
 have HI := hided (EvI.start (f := gotP s) (n := n) (x := x.toProcP) HQ.out.2.2.1 (pure_at HQ.out.2.2.2.1) (by have := HR.out.2.2.2.1; rw [HQ.out.2.2.2.2]; exact this) hbest)
 rw [HQ.out.1] at HI
 clear hbest S f1 f3 f4
 go_wp2_with fail
 go_loopg [10] ((boardUp N true s q.pure).procs.filter (waitsB 7 N)).length (fun k b wr => ∃ (qk : PartD) (z : Int), b = .int .i64 z ∧ Hid (EvI (gotP s) 7 N (wakeAll (gotP s) 7 N (boardUp N true s q.pure)) n x.toProcP k qk z ∧ FO w base q qk qk (10, N, M, s) wr))
 case atStart => exact ⟨q1, z, rfl, HI.out, SB.out⟩
 case round =>
  obtain ⟨qk, z, rfl, HK⟩ := hrel
  have S := hided HK.out.2
  rcases best_is HK.out.1.best with ⟨hz, hw⟩ | ⟨i, v, hz, hi, hw⟩
  ·have dz : decide (z ≥ 0) = false := decide_eq_false (by omega)
   obtain ⟨x2, hx2, hxe⟩ := proc_of HK.out.1.pos
   have HT : Hid (pastAt 0 x2.id qk.pure = boardsP (10, N, M, s) now x.id q.pure) := by show pastAt 0 x2.id qk.pure = _; rw [HE.out, ← HK.out.1.same, wakeAll_none hw, show x2.id = x.id from congrArg ProcP.id hxe]
   have hcall := past_gives (n := n) 0 S.out.fr.own S.out.low HK.out.1.r hx2 (by rw [show x2.state = x.state from congrArg ProcP.state hxe, HR.out.2.2.1]; decide)
   clear hz hw hx2 hxe
   go_wp2_with (refine wpList_load_row rfl 32 (.tmp 4) rfl w.heap.size (by rfl) 32 qk.cells (0, 0) _ S.out.fr.box Tryz.underlying32 rfl (by kernel_rfl) ?_)
   refine hcall.mono ?_
   clear hcall
   rintro e A2 ⟨q2, rfl, hp, ht⟩
   replace S := hided (S.out.call ht)
   have HP : Hid (q2.pure = _) := hp
   clear hp ht
   go_wp2_with (refine wpList_store_row rfl 32 (.tmp 8) (.tmp 95) rfl (w.heap.size + 2) _ _ q2.cells rfl rfl S.out.an (by kernel_rfl) rfl (by kernel_rfl) ?_)
   refine bodyPost_ret (v := .agg q2.cells) (results_cell_row Tryz.results236 _ _ (w.heap.size + 2) _ _ (0, 0) _ rfl (setRow_heap _ _ _ _ _ _ S.out.an) Tryz.underlying32 rfl (by kernel_rfl)) rfl ?_
   exact ⟨q2, rfl, HP.out.trans HT.out, S.out.done _⟩
  subst hz
  have dz : decide ((i : Int) ≥ 0) = true := decide_eq_true (by omega)
  have HW : Hid (bestW 7 N qk.pure.procs = some v.toProcP ∧ qk.procs[i]? = some v ∧ v.state = 7) := ⟨hw, hi, (bestW_mem hw).2.1⟩
  clear hw hi
  obtain ⟨-, -, -, o3⟩ := S.out.op.cells
  simp only at o3
  obtain ⟨gp, hgp, -⟩ := proc_at S.out.fr.own.at.1 HW.out.2.1
  have m2 := S.out.fr.box.cells.2.2.1
  have k1 : (i : Int) < (qk.procs.length : Int) := by have := (List.getElem?_eq_some_iff.1 HW.out.2.1).1; omega
  have k0 : (0 : Int) ≤ (i : Int) := by omega
  rw [hgp] at m2
  obtain ⟨s1, ⟨u, c⟩, f⟩ := own_setProc (n := i) (j := 9) (v := .string s) (y := { v with got := s }) S.out.fr.own HW.out.2.1 hgp ⟨rfl, rfl, rfl⟩ (by decide) rfl
  replace S := hided (S.out.call s1)
  clear s1 hgp
  go_upto_region 12 with fail
  generalize wr.setCell ⟨gp, i * 12 + 9, none⟩ (.string s) = E at *
  clear m2 c f u k0 k1 dz o3
  obtain ⟨qg, hqg, g1, g2, g3, g4⟩ := got_facts HK.out.1.r HW.out.2.1 HF3.out
  rw [← hqg] at S
  have hcall := wake_gives (n := i) S.out.fr.own S.out.low g3 g4 (by show ¬ v.state = 0; rw [HW.out.2.2]; decide) (by rw [hqg]; have := HK.out.1.nx; show qk.next ≤ _; omega)
  rw [g1, g2, show ({ v with got := s } : ProcD).toProcP = gotP s v.toProcP from rfl, wake_got] at hcall
  clear hqg g1 g2 g3 g4
  go_wp2_with (refine wpList_load_row rfl 32 (.tmp 4) rfl w.heap.size (by rfl) 32 qk.cells (0, 0) _ S.out.fr.box Tryz.underlying32 rfl (by kernel_rfl) ?_)
  refine hcall.mono ?_
  clear hcall
  rintro e E2 ⟨q2, rfl, hp, ht⟩
  replace S := hided (S.out.call ht)
  have HJ := hided (HK.out.1.step (q2 := q2) HR.out.2.2.1 ⟨by decide, by decide⟩ (.inr ⟨_, HF3.out, rfl⟩) HW.out.1 hp)
  clear hp ht
  have S2 := hided S.out.put
  go_upto_region 10 with (refine wpList_store_row rfl 32 (.tmp 4) (.tmp 55) rfl (w.heap.size) _ _ q2.cells rfl rfl S.out.fr.box (by kernel_rfl) rfl (by kernel_rfl) ?_)
  generalize E2.setRow w.heap.size q2.cells = E3 at *
  clear S
  have S := S2
  clear S2
  obtain ⟨-, o1, -, -⟩ := S.out.op.cells
  simp only at o1
  have hcall := l4Best_any q2 7 N E3 (by have := (part_lens HJ.out.2.2.1).1; omega) S.out.fr.own.at
  go_wp2_with (refine wpList_load_row rfl 32 (.tmp 4) rfl w.heap.size (by rfl) 32 q2.cells (0, 0) _ S.out.fr.box Tryz.underlying32 rfl (by kernel_rfl) ?_)
  refine hcall.mono ?_
  clear hcall o1
  rintro e E4 ⟨⟨z2, rfl, hbest⟩, hb2⟩
  replace S := hided (S.out.reads hb2)
  clear hb2
  have HB := hided (HJ.out.2.2.2 z2 hbest)
  clear hbest
  go_wp2_with fail
  go_roundg (gk - 1)
  case rel => exact ⟨q2, z2, rfl, HB.out, S.out⟩
  case measure => have := HJ.out.1; omega
end Go.Proofs.YtkbcplnlehdjfaaGreat
