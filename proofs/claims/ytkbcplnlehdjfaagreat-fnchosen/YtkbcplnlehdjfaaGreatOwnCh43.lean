/- What the proof leans on, part 43: TkEvent. -/
import Derived.Test.YtkbcplnlehdjfaaGreatOwnCh40
import Derived.Deep.LoopGhost
import Derived.Laws.Rows
import Derived.Deep.Cut

namespace Go.Proofs.YtkbcplnlehdjfaaGreat
open Go.RowKit Go.Maps
attribute [local go_sem ↓] Go.wp_at_zero Go.wp_at_succ
set_option maxRecDepth 100000 in
set_option maxHeartbeats 4000000 in
theorem l5Await_any (q : PartD) (n base : Nat) (x : ProcD) (now : Int) (o : OpD) (w : World) (h : PartOwn w base q) (hb : base ≤ w.heap.size) (hr : PartR q.pure) (hx : q.procs[n]? = some x) (hs : x.state = 1) (hn : q.next ≤ 999999990) (hnow : 0 ≤ now ∧ now ≤ 1000000000) (ho : opOk o = true) (hk : o.1 = 7) :
  Calls Tryz.prog 234 #[.agg q.cells, .int .i64 n, .agg (opC o), .int .i64 now] w (Gives w base q (eventsP o now x.id q.pure)) := by
 obtain ⟨-, f1, f2, f3, f4⟩ := op_fields ho
 have hM := inB_iff.1 f2
 obtain ⟨k, N, M, s⟩ := o
 simp only at hk hM f1 f3 f4
 subst hk
 have HR : Hid (PartR q.pure ∧ q.procs[n]? = some x ∧ x.state = 1 ∧ q.next ≤ 999999990 ∧ (0 ≤ now ∧ now ≤ 1000000000) ∧ (-1 ≤ M ∧ M ≤ 1000)) := ⟨hr, hx, hs, hn, hnow, hM⟩
 have HF : Hid (q.procs.length ≤ 6 ∧ q.sems.length ≤ 5 ∧ q.events.length ≤ 5 ∧ q.boards.length ≤ 5 ∧ q.buffers.length ≤ 5 ∧ q.ports.length ≤ 5) := part_lens hr
 clear f2 hr hx hs hn hnow hM ho
 have S := hided (FO.start (o := (7, N, M, s)) h hb)
 clear h hb
 go_enter Tryz.func234, Tryz.ntmps234
 go_upto_region 1 with fail
 generalize ((w.alloc (.cells q.cells 32)).alloc (.cells (opC (7, N, M, s)) 134)).alloc (.cells zero8 32) = A at *
 obtain ⟨-, o1, -, -⟩ := S.out.op.cells
 simp only at o1
 have hcall := l3Sem_any q N A (by have := HF.out; omega) S.out.fr.own.at
 go_wp2_with (refine wpList_load_row rfl 32 (.tmp 4) rfl w.heap.size (by rfl) 32 q.cells (0, 0) _ S.out.fr.box Tryz.underlying32 rfl (by kernel_rfl) ?_)
 refine hcall.mono ?_
 clear hcall
 rintro e A2 ⟨rfl, hb2⟩
 replace S := hided (S.out.reads hb2)
 clear hb2 o1
 generalize place (q.sems.map (fun x => x.id)) N 0 = z0 at *
 obtain ⟨o0, o1, -, -⟩ := S.out.op.cells
 simp only at o0 o1
 have hpf := place_findA (num := fun x : EventD => x.id) N q.events 0
 have hcall := l3Event_any q N A2 (by have := HF.out; omega) S.out.fr.own.at
 generalize place (q.events.map (fun x => x.id)) N 0 = z at *
 go_wp2_with (refine wpList_load_row rfl 32 (.tmp 4) rfl w.heap.size (by rfl) 32 q.cells (0, 0) _ S.out.fr.box Tryz.underlying32 rfl (by kernel_rfl) ?_)
 refine hcall.mono ?_
 clear hcall
 rintro e A3 ⟨rfl, hb2⟩
 replace S := hided (S.out.reads hb2)
 clear hb2 o0 o1
 obtain ⟨o0, -, -, -⟩ := S.out.op.cells
 simp only at o0
 rcases hpf with ⟨hz, hf⟩ | ⟨m, y, hz, hm, hid, hf⟩
 ·subst hz
  have HE : Hid (eventsP (7, N, M, s) now x.id q.pure = pastAt 3 x.id q.pure) := by show eventsP (7, N, M, s) now x.id q.pure = _; unfold eventsP; rw [show findA (fun x : EventD => x.id) N q.pure.events = none from hf]
  clear hf
  have hcall := past_gives (n := n) 3 S.out.fr.own S.out.low HR.out.1 HR.out.2.1 (by rw [HR.out.2.2.1]; decide)
  go_wp2_with (refine wpList_load_row rfl 32 (.tmp 4) rfl w.heap.size (by rfl) 32 q.cells (0, 0) _ S.out.fr.box Tryz.underlying32 rfl (by kernel_rfl) ?_)
  refine hcall.mono ?_
  clear hcall
  rintro e A2 ⟨q2, rfl, hp, ht⟩
  replace S := hided (S.out.call ht)
  have HP : Hid (q2.pure = _) := hp
  clear hp ht
  go_wp2_with (refine wpList_store_row rfl 32 (.tmp 8) (.tmp 32) rfl (w.heap.size + 2) _ _ q2.cells rfl rfl S.out.an (by kernel_rfl) rfl (by kernel_rfl) ?_)
  refine bodyPost_ret (v := .agg q2.cells) (results_cell_row Tryz.results234 _ _ (w.heap.size + 2) _ _ (0, 0) _ rfl (setRow_heap _ _ _ _ _ _ S.out.an) Tryz.underlying32 rfl (by kernel_rfl)) rfl ?_
  exact ⟨q2, rfl, HP.out.trans HE.out.symm, S.out.done _⟩
 rw [Nat.zero_add] at hz
 subst hz
 have dz : decide ((m : Int) < 0) = false := decide_eq_false (by omega)
 have HM : Hid (q.events[m]? = some y ∧ y.id = N ∧ findA (fun x : EventD => x.id) N q.events = some y) := ⟨hm, hid, hf⟩
 have hml := (List.getElem?_eq_some_iff.1 hm).1
 have j0 : (0 : Int) ≤ (m : Int) := by omega
 have j1 : (m : Int) < (q.events.length : Int) := by omega
 obtain ⟨ga, hga, hat⟩ := event_at S.out.fr.own.at.2.2.1 hm
 have m4 := S.out.fr.box.cells.2.2.2.2.1
 rw [hga] at m4
 have HG : Hid (q.eventA = some ⟨ga, 0, none⟩) := hga
 have d1 := hat.2
 clear hm hid hf hml hat hga
 cases hu : y.up
 ·rw [hu] at d1
  have HE : Hid (eventsP (7, N, M, s) now x.id q.pure = orAt 4 (7, N, M, s) now x.id q.pure) := by show eventsP (7, N, M, s) now x.id q.pure = _; unfold eventsP; rw [show findA (fun x : EventD => x.id) N q.pure.events = some y from HM.out.2.2]; simp [hu]
  clear hu
  have hcall := l5Or_any q n base x 4 now (7, N, M, s) A3 S.out.fr.own S.out.low HR.out.1 HR.out.2.1 (by rw [HR.out.2.2.1]; decide) (by have := HR.out.2.2.2.1; omega) HR.out.2.2.2.2.1 HR.out.2.2.2.2.2
  go_wp2_with (first | (refine wpList_load_row rfl 32 (.tmp 4) rfl w.heap.size (by rfl) 32 q.cells (0, 0) _ S.out.fr.box Tryz.underlying32 rfl (by kernel_rfl) ?_) | (refine wpList_load_row rfl 134 (.tmp 6) rfl (w.heap.size + 1) (by rfl) 134 (opC (7, N, M, s)) (0, 0) _ S.out.op Tryz.underlying134 rfl (by kernel_rfl) ?_))
  refine hcall.mono ?_
  clear hcall
  rintro e A2 ⟨q2, rfl, hp, ht⟩
  replace S := hided (S.out.call ht)
  have HP : Hid (q2.pure = _) := hp
  clear hp ht
  go_wp2_with (refine wpList_store_row rfl 32 (.tmp 8) (.tmp 142) rfl (w.heap.size + 2) _ _ q2.cells rfl rfl S.out.an (by kernel_rfl) rfl (by kernel_rfl) ?_)
  refine bodyPost_ret (v := .agg q2.cells) (results_cell_row Tryz.results234 _ _ (w.heap.size + 2) _ _ (0, 0) _ rfl (setRow_heap _ _ _ _ _ _ S.out.an) Tryz.underlying32 rfl (by kernel_rfl)) rfl ?_
  exact ⟨q2, rfl, HP.out.trans HE.out.symm, S.out.done _⟩
 ·rw [hu] at d1
  have HE : Hid (eventsP (7, N, M, s) now x.id q.pure = pastAt 0 x.id q.pure) := by show eventsP (7, N, M, s) now x.id q.pure = _; unfold eventsP; rw [show findA (fun x : EventD => x.id) N q.pure.events = some y from HM.out.2.2]; simp [hu]
  clear hu
  have hcall := past_gives (n := n) 0 S.out.fr.own S.out.low HR.out.1 HR.out.2.1 (by rw [HR.out.2.2.1]; decide)
  go_wp2_with (refine wpList_load_row rfl 32 (.tmp 4) rfl w.heap.size (by rfl) 32 q.cells (0, 0) _ S.out.fr.box Tryz.underlying32 rfl (by kernel_rfl) ?_)
  refine hcall.mono ?_
  clear hcall
  rintro e A2 ⟨q2, rfl, hp, ht⟩
  replace S := hided (S.out.call ht)
  have HP : Hid (q2.pure = _) := hp
  clear hp ht
  go_wp2_with (refine wpList_store_row rfl 32 (.tmp 8) (.tmp 145) rfl (w.heap.size + 2) _ _ q2.cells rfl rfl S.out.an (by kernel_rfl) rfl (by kernel_rfl) ?_)
  refine bodyPost_ret (v := .agg q2.cells) (results_cell_row Tryz.results234 _ _ (w.heap.size + 2) _ _ (0, 0) _ rfl (setRow_heap _ _ _ _ _ _ S.out.an) Tryz.underlying32 rfl (by kernel_rfl)) rfl ?_
  exact ⟨q2, rfl, HP.out.trans HE.out.symm, S.out.done _⟩
set_option maxRecDepth 100000 in
set_option maxHeartbeats 4000000 in
theorem l5Reset_any (q : PartD) (n base : Nat) (x : ProcD) (now : Int) (o : OpD) (w : World) (h : PartOwn w base q) (hb : base ≤ w.heap.size) (hr : PartR q.pure) (hx : q.procs[n]? = some x) (hs : x.state = 1) (hn : q.next ≤ 999999990) (hnow : 0 ≤ now ∧ now ≤ 1000000000) (ho : opOk o = true) (hk : o.1 = 6) :
  Calls Tryz.prog 234 #[.agg q.cells, .int .i64 n, .agg (opC o), .int .i64 now] w (Gives w base q (eventsP o now x.id q.pure)) := by
 obtain ⟨-, f1, f2, f3, f4⟩ := op_fields ho
 have hM := inB_iff.1 f2
 obtain ⟨k, N, M, s⟩ := o
 simp only at hk hM f1 f3 f4
 subst hk
 have HR : Hid (PartR q.pure ∧ q.procs[n]? = some x ∧ x.state = 1 ∧ q.next ≤ 999999990 ∧ (0 ≤ now ∧ now ≤ 1000000000) ∧ (-1 ≤ M ∧ M ≤ 1000)) := ⟨hr, hx, hs, hn, hnow, hM⟩
 have HF : Hid (q.procs.length ≤ 6 ∧ q.sems.length ≤ 5 ∧ q.events.length ≤ 5 ∧ q.boards.length ≤ 5 ∧ q.buffers.length ≤ 5 ∧ q.ports.length ≤ 5) := part_lens hr
 clear f2 hr hx hs hn hnow hM ho
 have S := hided (FO.start (o := (6, N, M, s)) h hb)
 clear h hb
 go_enter Tryz.func234, Tryz.ntmps234
 go_upto_region 1 with fail
 generalize ((w.alloc (.cells q.cells 32)).alloc (.cells (opC (6, N, M, s)) 134)).alloc (.cells zero8 32) = A at *
 obtain ⟨-, o1, -, -⟩ := S.out.op.cells
 simp only at o1
 have hcall := l3Sem_any q N A (by have := HF.out; omega) S.out.fr.own.at
 go_wp2_with (refine wpList_load_row rfl 32 (.tmp 4) rfl w.heap.size (by rfl) 32 q.cells (0, 0) _ S.out.fr.box Tryz.underlying32 rfl (by kernel_rfl) ?_)
 refine hcall.mono ?_
 clear hcall
 rintro e A2 ⟨rfl, hb2⟩
 replace S := hided (S.out.reads hb2)
 clear hb2 o1
 generalize place (q.sems.map (fun x => x.id)) N 0 = z0 at *
 obtain ⟨o0, o1, -, -⟩ := S.out.op.cells
 simp only at o0 o1
 have hpf := place_findA (num := fun x : EventD => x.id) N q.events 0
 have hcall := l3Event_any q N A2 (by have := HF.out; omega) S.out.fr.own.at
 generalize place (q.events.map (fun x => x.id)) N 0 = z at *
 go_wp2_with (refine wpList_load_row rfl 32 (.tmp 4) rfl w.heap.size (by rfl) 32 q.cells (0, 0) _ S.out.fr.box Tryz.underlying32 rfl (by kernel_rfl) ?_)
 refine hcall.mono ?_
 clear hcall
 rintro e A3 ⟨rfl, hb2⟩
 replace S := hided (S.out.reads hb2)
 clear hb2 o0 o1
 obtain ⟨o0, -, -, -⟩ := S.out.op.cells
 simp only at o0
 rcases hpf with ⟨hz, hf⟩ | ⟨m, y, hz, hm, hid, hf⟩
 ·subst hz
  have HE : Hid (eventsP (6, N, M, s) now x.id q.pure = pastAt 3 x.id q.pure) := by show eventsP (6, N, M, s) now x.id q.pure = _; unfold eventsP; rw [show findA (fun x : EventD => x.id) N q.pure.events = none from hf]
  clear hf
  have hcall := past_gives (n := n) 3 S.out.fr.own S.out.low HR.out.1 HR.out.2.1 (by rw [HR.out.2.2.1]; decide)
  go_wp2_with (refine wpList_load_row rfl 32 (.tmp 4) rfl w.heap.size (by rfl) 32 q.cells (0, 0) _ S.out.fr.box Tryz.underlying32 rfl (by kernel_rfl) ?_)
  refine hcall.mono ?_
  clear hcall
  rintro e A2 ⟨q2, rfl, hp, ht⟩
  replace S := hided (S.out.call ht)
  have HP : Hid (q2.pure = _) := hp
  clear hp ht
  go_wp2_with (refine wpList_store_row rfl 32 (.tmp 8) (.tmp 32) rfl (w.heap.size + 2) _ _ q2.cells rfl rfl S.out.an (by kernel_rfl) rfl (by kernel_rfl) ?_)
  refine bodyPost_ret (v := .agg q2.cells) (results_cell_row Tryz.results234 _ _ (w.heap.size + 2) _ _ (0, 0) _ rfl (setRow_heap _ _ _ _ _ _ S.out.an) Tryz.underlying32 rfl (by kernel_rfl)) rfl ?_
  exact ⟨q2, rfl, HP.out.trans HE.out.symm, S.out.done _⟩
 rw [Nat.zero_add] at hz
 subst hz
 have dz : decide ((m : Int) < 0) = false := decide_eq_false (by omega)
 have HM : Hid (q.events[m]? = some y ∧ y.id = N ∧ findA (fun x : EventD => x.id) N q.events = some y) := ⟨hm, hid, hf⟩
 have hml := (List.getElem?_eq_some_iff.1 hm).1
 have j0 : (0 : Int) ≤ (m : Int) := by omega
 have j1 : (m : Int) < (q.events.length : Int) := by omega
 obtain ⟨ga, hga, hat⟩ := event_at S.out.fr.own.at.2.2.1 hm
 have m4 := S.out.fr.box.cells.2.2.2.2.1
 rw [hga] at m4
 have HG : Hid (q.eventA = some ⟨ga, 0, none⟩) := hga
 have HE : Hid (eventsP (6, N, M, s) now x.id q.pure = pastAt 0 x.id (eventUp N false q.pure)) := by show eventsP (6, N, M, s) now x.id q.pure = _; unfold eventsP; rw [show findA (fun x : EventD => x.id) N q.pure.events = some y from HM.out.2.2]; rfl
 clear hm hid hf hml hat hga
 obtain ⟨s1, ⟨u, c⟩, f⟩ := own_setEvent (n := m) (j := 1) (v := .bool false) (y := { y with up := false }) S.out.fr.own HM.out.1 HG.out (by decide) rfl
 replace S := hided (S.out.call s1)
 clear s1
 go_upto_region 29 with fail
 generalize A3.setCell ⟨ga, m * 2 + 1, none⟩ (.bool false) = C at *
 clear m4 c f u dz j0 j1 o0
 have hq : ({ q with events := q.events.set m { y with up := false } } : PartD).pure = eventUp N false q.pure := by show ({ q.pure with events := q.events.set m { y with up := false } } : PartP) = _; unfold eventUp; rw [turnA_set (num := fun x : EventD => x.id) (things_rise HR.out.1.events).2 HM.out.1 HM.out.2.1]; rfl
 have hqc : PartD.cells ({ q with events := q.events.set m { y with up := false } } : PartD) = q.cells := by unfold PartD.cells; simp
 have hr2 : PartR (eventUp N false q.pure) := eventUp_right HR.out.1
 rw [← hq] at hr2
 have hcall := past_gives (n := n) 0 S.out.fr.own S.out.low hr2 HR.out.2.1 (by rw [HR.out.2.2.1]; decide)
 rw [hq, hqc] at hcall
 clear hq hqc hr2
 go_wp2_with (refine wpList_load_row rfl 32 (.tmp 4) rfl w.heap.size (by rfl) 32 q.cells (0, 0) _ S.out.fr.box Tryz.underlying32 rfl (by kernel_rfl) ?_)
 refine hcall.mono ?_
 clear hcall
 rintro e A2 ⟨q2, rfl, hp, ht⟩
 replace S := hided (S.out.call ht)
 have HP : Hid (q2.pure = _) := hp
 clear hp ht
 go_wp2_with (refine wpList_store_row rfl 32 (.tmp 8) (.tmp 145) rfl (w.heap.size + 2) _ _ q2.cells rfl rfl S.out.an (by kernel_rfl) rfl (by kernel_rfl) ?_)
 refine bodyPost_ret (v := .agg q2.cells) (results_cell_row Tryz.results234 _ _ (w.heap.size + 2) _ _ (0, 0) _ rfl (setRow_heap _ _ _ _ _ _ S.out.an) Tryz.underlying32 rfl (by kernel_rfl)) rfl ?_
 exact ⟨q2, rfl, HP.out.trans HE.out.symm, S.out.done _⟩
set_option maxRecDepth 100000 in
set_option maxHeartbeats 4000000 in
theorem l5Set_any (q : PartD) (n base : Nat) (x : ProcD) (now : Int) (o : OpD) (w : World) (h : PartOwn w base q) (hb : base ≤ w.heap.size) (hr : PartR q.pure) (hx : q.procs[n]? = some x) (hs : x.state = 1) (hn : q.next ≤ 999999990) (hnow : 0 ≤ now ∧ now ≤ 1000000000) (ho : opOk o = true) (hk : o.1 = 5) :
  Calls Tryz.prog 234 #[.agg q.cells, .int .i64 n, .agg (opC o), .int .i64 now] w (Gives w base q (eventsP o now x.id q.pure)) := by
 obtain ⟨-, f1, f2, f3, f4⟩ := op_fields ho
 have hM := inB_iff.1 f2
 obtain ⟨k, N, M, s⟩ := o
 simp only at hk hM f1 f3 f4
 subst hk
 have HR : Hid (PartR q.pure ∧ q.procs[n]? = some x ∧ x.state = 1 ∧ q.next ≤ 999999990 ∧ (0 ≤ now ∧ now ≤ 1000000000) ∧ (-1 ≤ M ∧ M ≤ 1000)) := ⟨hr, hx, hs, hn, hnow, hM⟩
 have HF : Hid (q.procs.length ≤ 6 ∧ q.sems.length ≤ 5 ∧ q.events.length ≤ 5 ∧ q.boards.length ≤ 5 ∧ q.buffers.length ≤ 5 ∧ q.ports.length ≤ 5) := part_lens hr
 clear f2 hr hx hs hn hnow hM ho
 have S := hided (FO.start (o := (5, N, M, s)) h hb)
 clear h hb
 go_enter Tryz.func234, Tryz.ntmps234
 go_upto_region 1 with fail
 generalize ((w.alloc (.cells q.cells 32)).alloc (.cells (opC (5, N, M, s)) 134)).alloc (.cells zero8 32) = A at *
 obtain ⟨-, o1, -, -⟩ := S.out.op.cells
 simp only at o1
 have hcall := l3Sem_any q N A (by have := HF.out; omega) S.out.fr.own.at
 go_wp2_with (refine wpList_load_row rfl 32 (.tmp 4) rfl w.heap.size (by rfl) 32 q.cells (0, 0) _ S.out.fr.box Tryz.underlying32 rfl (by kernel_rfl) ?_)
 refine hcall.mono ?_
 clear hcall
 rintro e A2 ⟨rfl, hb2⟩
 replace S := hided (S.out.reads hb2)
 clear hb2 o1
 generalize place (q.sems.map (fun x => x.id)) N 0 = z0 at *
 obtain ⟨o0, o1, -, -⟩ := S.out.op.cells
 simp only at o0 o1
 have hpf := place_findA (num := fun x : EventD => x.id) N q.events 0
 have hcall := l3Event_any q N A2 (by have := HF.out; omega) S.out.fr.own.at
 generalize place (q.events.map (fun x => x.id)) N 0 = z at *
 go_wp2_with (refine wpList_load_row rfl 32 (.tmp 4) rfl w.heap.size (by rfl) 32 q.cells (0, 0) _ S.out.fr.box Tryz.underlying32 rfl (by kernel_rfl) ?_)
 refine hcall.mono ?_
 clear hcall
 rintro e A3 ⟨rfl, hb2⟩
 replace S := hided (S.out.reads hb2)
 clear hb2 o0 o1
 obtain ⟨o0, o1, -, -⟩ := S.out.op.cells
 simp only at o0 o1
 rcases hpf with ⟨hz, hf⟩ | ⟨m, y, hz, hm, hid, hf⟩
 ·subst hz
  have HE : Hid (eventsP (5, N, M, s) now x.id q.pure = pastAt 3 x.id q.pure) := by show eventsP (5, N, M, s) now x.id q.pure = _; unfold eventsP; rw [show findA (fun x : EventD => x.id) N q.pure.events = none from hf]
  clear hf
  have hcall := past_gives (n := n) 3 S.out.fr.own S.out.low HR.out.1 HR.out.2.1 (by rw [HR.out.2.2.1]; decide)
  go_wp2_with (refine wpList_load_row rfl 32 (.tmp 4) rfl w.heap.size (by rfl) 32 q.cells (0, 0) _ S.out.fr.box Tryz.underlying32 rfl (by kernel_rfl) ?_)
  refine hcall.mono ?_
  clear hcall
  rintro e A2 ⟨q2, rfl, hp, ht⟩
  replace S := hided (S.out.call ht)
  have HP : Hid (q2.pure = _) := hp
  clear hp ht
  go_wp2_with (refine wpList_store_row rfl 32 (.tmp 8) (.tmp 32) rfl (w.heap.size + 2) _ _ q2.cells rfl rfl S.out.an (by kernel_rfl) rfl (by kernel_rfl) ?_)
  refine bodyPost_ret (v := .agg q2.cells) (results_cell_row Tryz.results234 _ _ (w.heap.size + 2) _ _ (0, 0) _ rfl (setRow_heap _ _ _ _ _ _ S.out.an) Tryz.underlying32 rfl (by kernel_rfl)) rfl ?_
  exact ⟨q2, rfl, HP.out.trans HE.out.symm, S.out.done _⟩
 rw [Nat.zero_add] at hz
 subst hz
 have dz : decide ((m : Int) < 0) = false := decide_eq_false (by omega)
 have HM : Hid (q.events[m]? = some y ∧ y.id = N ∧ findA (fun x : EventD => x.id) N q.events = some y) := ⟨hm, hid, hf⟩
 have hml := (List.getElem?_eq_some_iff.1 hm).1
 have j0 : (0 : Int) ≤ (m : Int) := by omega
 have j1 : (m : Int) < (q.events.length : Int) := by omega
 obtain ⟨ga, hga, hat⟩ := event_at S.out.fr.own.at.2.2.1 hm
 have m4 := S.out.fr.box.cells.2.2.2.2.1
 rw [hga] at m4
 have HG : Hid (q.eventA = some ⟨ga, 0, none⟩) := hga
 have HE : Hid (eventsP (5, N, M, s) now x.id q.pure = pastAt 0 x.id (wakeAll (fun y => y) 4 N (eventUp N true q.pure))) := by show eventsP (5, N, M, s) now x.id q.pure = _; unfold eventsP; rw [show findA (fun x : EventD => x.id) N q.pure.events = some y from HM.out.2.2]; rfl
 clear o1
 clear hm hid hf hml hat hga
 obtain ⟨s1, ⟨u, c⟩, f⟩ := own_setEvent (n := m) (j := 1) (v := .bool true) (y := { y with up := true }) S.out.fr.own HM.out.1 HG.out (by decide) rfl
 replace S := hided (S.out.call s1)
 clear s1
 go_upto_region 20 with fail
 generalize A3.setCell ⟨ga, m * 2 + 1, none⟩ (.bool true) = C at *
 clear m4 c f u dz j0 j1 o0
 have hq : ({ q with events := q.events.set m { y with up := true } } : PartD).pure = eventUp N true q.pure := by show ({ q.pure with events := q.events.set m { y with up := true } } : PartP) = _; unfold eventUp; rw [turnA_set (num := fun x : EventD => x.id) (things_rise HR.out.1.events).2 HM.out.1 HM.out.2.1]; rfl
 have hqc : PartD.cells ({ q with events := q.events.set m { y with up := true } } : PartD) = q.cells := by unfold PartD.cells; simp
 have hr2 : PartR (eventUp N true q.pure) := eventUp_right HR.out.1
 obtain ⟨q1, hq1⟩ : ∃ q1 : PartD, q1 = { q with events := q.events.set m { y with up := true } } := ⟨_, rfl⟩
 rw [← hq1] at hq hqc S
 rw [← hq] at hr2
 have HQ : Hid (q1.pure = eventUp N true q.pure ∧ q1.cells = q.cells ∧ PartR q1.pure ∧ q1.procs[n]? = some x ∧ q1.next ≤ 999999990) := ⟨hq, hqc, hr2, by rw [hq1]; exact HR.out.2.1, by rw [hq1]; exact HR.out.2.2.2.1⟩
 have hcall := l4Best_any q1 4 N C (by have := (part_lens HQ.out.2.2.1).1; omega) S.out.fr.own.at
 rw [hqc] at hcall
 clear hq hqc hr2 hq1
 obtain ⟨-, o1, -, -⟩ := S.out.op.cells
 simp only at o1
 go_wp2_with (refine wpList_load_row rfl 32 (.tmp 4) rfl w.heap.size (by rfl) 32 q.cells (0, 0) _ S.out.fr.box Tryz.underlying32 rfl (by kernel_rfl) ?_)
 refine hcall.mono ?_
 clear hcall o1
 rintro e C2 ⟨⟨z, rfl, hbest⟩, hb2⟩
 replace S := hided (S.out.reads hb2)
 clear hb2
 have SB : Hid (FO w base q q1 q1 (5, N, M, s) C2) := ⟨⟨by have h5 := S.out.fr.box; unfold PartBox at h5 ⊢; exact h5.trans (congrArg (fun c => some (Obj.cells c 32 (0, 0))) HQ.out.2.1.symm), S.out.fr.own, S.out.fr.kept, S.out.fr.far, S.out.fr.lo, S.out.fr.sz⟩, S.out.op, S.out.an⟩
 have HI := hided (EvI.start (f := fun y => y) (n := n) (x := x.toProcP) HQ.out.2.2.1 (pure_at HQ.out.2.2.2.1) HQ.out.2.2.2.2 hbest)
 rw [HQ.out.1] at HI
 clear hbest S
 go_wp2_with fail
 go_loopg [11] ((eventUp N true q.pure).procs.filter (waitsB 4 N)).length (fun k b wr => ∃ (qk : PartD) (z : Int), b = .int .i64 z ∧ Hid (EvI (fun y => y) 4 N (wakeAll (fun y => y) 4 N (eventUp N true q.pure)) n x.toProcP k qk z ∧ FO w base q qk qk (5, N, M, s) wr))
 case atStart => exact ⟨q1, z, rfl, HI.out, SB.out⟩
 case round =>
  obtain ⟨qk, z, rfl, HK⟩ := hrel
  have S := hided HK.out.2
  rcases best_is HK.out.1.best with ⟨hz, hw⟩ | ⟨i, v, hz, hi, hw⟩
  ·have dz : decide (z ≥ 0) = false := decide_eq_false (by omega)
   obtain ⟨x2, hx2, hxe⟩ := proc_of HK.out.1.pos
   have HT : Hid (pastAt 0 x2.id qk.pure = eventsP (5, N, M, s) now x.id q.pure) := by show pastAt 0 x2.id qk.pure = _; rw [HE.out, ← HK.out.1.same, wakeAll_none hw, show x2.id = x.id from congrArg ProcP.id hxe]
   have hcall := past_gives (n := n) 0 S.out.fr.own S.out.low HK.out.1.r hx2 (by rw [show x2.state = x.state from congrArg ProcP.state hxe, HR.out.2.2.1]; decide)
   clear hz hw hx2 hxe
   go_wp2_with (refine wpList_load_row rfl 32 (.tmp 4) rfl w.heap.size (by rfl) 32 qk.cells (0, 0) _ S.out.fr.box Tryz.underlying32 rfl (by kernel_rfl) ?_)
   refine hcall.mono ?_
   clear hcall
   rintro e A2 ⟨q2, rfl, hp, ht⟩
   replace S := hided (S.out.call ht)
   have HP : Hid (q2.pure = _) := hp
   clear hp ht
   go_wp2_with (refine wpList_store_row rfl 32 (.tmp 8) (.tmp 145) rfl (w.heap.size + 2) _ _ q2.cells rfl rfl S.out.an (by kernel_rfl) rfl (by kernel_rfl) ?_)
   refine bodyPost_ret (v := .agg q2.cells) (results_cell_row Tryz.results234 _ _ (w.heap.size + 2) _ _ (0, 0) _ rfl (setRow_heap _ _ _ _ _ _ S.out.an) Tryz.underlying32 rfl (by kernel_rfl)) rfl ?_
   exact ⟨q2, rfl, HP.out.trans HT.out, S.out.done _⟩
  subst hz
  have dz : decide ((i : Int) ≥ 0) = true := decide_eq_true (by omega)
  have HW : Hid (bestW 4 N qk.pure.procs = some v.toProcP ∧ qk.procs[i]? = some v ∧ v.state = 4) := ⟨hw, hi, (bestW_mem hw).2.1⟩
  clear hw hi
  have hcall := wake_gives (n := i) S.out.fr.own S.out.low HK.out.1.r HW.out.2.1 (by rw [HW.out.2.2]; decide) (by have := HK.out.1.nx; omega)
  go_wp2_with (refine wpList_load_row rfl 32 (.tmp 4) rfl w.heap.size (by rfl) 32 qk.cells (0, 0) _ S.out.fr.box Tryz.underlying32 rfl (by kernel_rfl) ?_)
  refine hcall.mono ?_
  clear hcall dz
  rintro e D ⟨q2, rfl, hp, ht⟩
  replace S := hided (S.out.call ht)
  have HJ := hided (HK.out.1.step (q2 := q2) HR.out.2.2.1 ⟨by decide, by decide⟩ (.inl rfl) HW.out.1 hp)
  clear hp ht
  have S2 := hided S.out.put
  go_upto_region 22 with (refine wpList_store_row rfl 32 (.tmp 4) (.tmp 121) rfl (w.heap.size) _ _ q2.cells rfl rfl S.out.fr.box (by kernel_rfl) rfl (by kernel_rfl) ?_)
  generalize D.setRow w.heap.size q2.cells = D2 at *
  clear S
  have S := S2
  clear S2
  obtain ⟨-, o1, -, -⟩ := S.out.op.cells
  simp only at o1
  have hcall := l4Best_any q2 4 N D2 (by have := (part_lens HJ.out.2.2.1).1; omega) S.out.fr.own.at
  go_wp2_with (refine wpList_load_row rfl 32 (.tmp 4) rfl w.heap.size (by rfl) 32 q2.cells (0, 0) _ S.out.fr.box Tryz.underlying32 rfl (by kernel_rfl) ?_)
  refine hcall.mono ?_
  clear hcall o1
  rintro e D3 ⟨⟨z2, rfl, hbest⟩, hb2⟩
  replace S := hided (S.out.reads hb2)
  clear hb2
  have HB := hided (HJ.out.2.2.2 z2 hbest)
  clear hbest
  go_wp2_with fail
  go_roundg (gk - 1)
  case rel => exact ⟨q2, z2, rfl, HB.out, S.out⟩
  case measure => have := HJ.out.1; omega
end Go.Proofs.YtkbcplnlehdjfaaGreat
