/- What the proof leans on, part 6: StProc, KdProc, AlProc, WaitsI, TurnsI. -/
import Derived.Test.YtkbcplnlehdjfaaGreatOwnR2
import Derived.Test.YtkbcplnlehdjfaaGreatOwnR4
import Derived.Test.YtkbcplnlehdjfaaGreatOwnR5

namespace Go.Proofs.YtkbcplnlehdjfaaGreat
open Go.RowKit
/-- What stateOk walks through: the process in its box. -/
structure StIn (w W : World) (x : ProcD) : Prop where
 box : W.heap[w.heap.size]? = some (.cells (procVs x) 43 (0, 0))
 fit : ProcFit W x
 bel : Below w.heap.size w W
theorem StIn.below {w W W' : World} {x : ProcD} (h : StIn w W x) (hb : Below W.heap.size W W') : StIn w W' x :=
 ⟨(hb.block _ (Array.getElem?_eq_some_iff.1 h.box).1).trans h.box, h.fit.below hb, h.bel.trans (hb.mono h.bel.size)⟩
theorem StIn.start {w : World} {x : ProcD} (h : ProcFit w x) : StIn w (w.alloc (.cells (procVs x) 43)) x := by
 have b1 : Below w.heap.size w (w.alloc (.cells (procVs x) 43)) := (Below.refl _ _).alloc (Nat.le_refl _) _
 exact ⟨heap_alloc_new _ _, h.below b1, b1⟩
theorem emptyB_yes {s : ByteArray} (h : s.toList = []) : emptyB s = true := by simp [emptyB, h]
theorem emptyB_no {s : ByteArray} (h : ¬ s.toList = []) : emptyB s = false := by simp [emptyB, h]
theorem hided {p : Prop} (h : p) : Hid p := h
theorem beq_dec (a b : Int) : (a == b) = decide (a = b) := by rw [Bool.eq_iff_iff]; simp
theorem ways4 (a b c d : Bool) : a = false ∨ (a = true ∧ b = false) ∨ (a = true ∧ b = true ∧ c = false) ∨ (a = true ∧ b = true ∧ c = true ∧ d = false) ∨ (a = true ∧ b = true ∧ c = true ∧ d = true) := by
 revert a b c d
 decide
theorem ways5 (a b c d e : Bool) : a = false ∨ (a = true ∧ b = false) ∨ (a = true ∧ b = true ∧ c = false) ∨ (a = true ∧ b = true ∧ c = true ∧ d = false) ∨ (a = true ∧ b = true ∧ c = true ∧ d = true ∧ e = false) ∨ (a = true ∧ b = true ∧ c = true ∧ d = true ∧ e = true) := by
 revert a b c d e
 decide
theorem ways_or (a b c d : Bool) : a = false ∨ (a = true ∧ b = false) ∨ (a = true ∧ b = true ∧ c = true) ∨ (a = true ∧ b = true ∧ c = false ∧ d = false) ∨ (a = true ∧ b = true ∧ c = false ∧ d = true) := by
 revert a b c d
 decide
theorem state0 {x : ProcP} (h : x.state = 0) : stateB x = ((x.pc == 0) && (x.left == 0) && (x.wake == 0) && (x.on == 0) && (x.since == 0) && emptyB x.held) := by simp [stateB, h, beq_dec]
set_option maxRecDepth 100000 in
set_option maxHeartbeats 8000000 in
theorem stateOk_s0 (x : ProcD) (w : World) (hf : ProcFit w x) (hs : x.state = 0) : Calls Tryz.prog 286 #[.agg (procVs x)] w fun e w' => e = .returned (.bool (stateB x.toProcP)) ∧ Below w.heap.size w w' := by
 have HE := hided (state0 hs)
 have HI := hided (StIn.start hf)
 clear hf
 obtain ⟨⟨id, prio, prog, state, pc, left, wake, on, held, got, code, since⟩, progA, progC⟩ := x
 replace hs : state = 0 := hs
 subst hs
 obtain ⟨v0, h0⟩ : ∃ v, (pc == 0) = v := ⟨_, rfl⟩
 obtain ⟨v1, h1⟩ : ∃ v, (left == 0) = v := ⟨_, rfl⟩
 obtain ⟨v2, h2⟩ : ∃ v, (wake == 0) = v := ⟨_, rfl⟩
 obtain ⟨v3, h3⟩ : ∃ v, (on == 0) = v := ⟨_, rfl⟩
 obtain ⟨v4, h4⟩ : ∃ v, (since == 0) = v := ⟨_, rfl⟩
 have HE := hided (HE.out.trans (show _ = (v0 && v1 && v2 && v3 && v4 && emptyB held) by simp only [h0, h1, h2, h3, h4]))
 obtain ⟨c0, c1, c2, c3, c4, c5, c6, c7, c8, c9, c10, c11⟩ := proc_cells HI.out.box
 unfold procVs at *
 rcases ways5 v0 v1 v2 v3 v4 with rfl | ⟨rfl, rfl⟩ | ⟨rfl, rfl, rfl⟩ | ⟨rfl, rfl, rfl, rfl⟩ | ⟨rfl, rfl, rfl, rfl, rfl⟩ | ⟨rfl, rfl, rfl, rfl, rfl⟩
 all_goals
  go_enter Tryz.func286, Tryz.ntmps286
  go_wp2
  go_ret
  exact ⟨ret_bool (by rw [HE.out]; simp [emptyB]), HI.out.bel⟩
theorem state1 {x : ProcP} (h : x.state = 1) : stateB x = (hasOpB x && leftB x && (x.wake == 0) && (x.on == 0) && emptyB x.held) := by simp [stateB, h, beq_dec]
set_option maxRecDepth 100000 in
set_option maxHeartbeats 8000000 in
theorem stateOk_s1 (x : ProcD) (w : World) (hf : ProcFit w x) (hs : x.state = 1) : Calls Tryz.prog 286 #[.agg (procVs x)] w fun e w' => e = .returned (.bool (stateB x.toProcP)) ∧ Below w.heap.size w w' := by
 have HE := hided (state1 hs)
 have HI := hided (StIn.start hf)
 clear hf
 obtain ⟨⟨id, prio, prog, state, pc, left, wake, on, held, got, code, since⟩, progA, progC⟩ := x
 replace hs : state = 1 := hs
 subst hs
 obtain ⟨v0, h0⟩ : ∃ v, hasOpB ⟨id, prio, prog, 1, pc, left, wake, on, held, got, code, since⟩ = v := ⟨_, rfl⟩
 obtain ⟨v1, h1⟩ : ∃ v, leftB ⟨id, prio, prog, 1, pc, left, wake, on, held, got, code, since⟩ = v := ⟨_, rfl⟩
 obtain ⟨v2, h2⟩ : ∃ v, (wake == 0) = v := ⟨_, rfl⟩
 obtain ⟨v3, h3⟩ : ∃ v, (on == 0) = v := ⟨_, rfl⟩
 have HE := hided (HE.out.trans (show _ = (v0 && v1 && v2 && v3 && emptyB held) by simp only [h0, h1, h2, h3]))
 have HOP := hided h0
 clear h0
 have HLF := hided h1
 clear h1
 obtain ⟨c0, c1, c2, c3, c4, c5, c6, c7, c8, c9, c10, c11⟩ := proc_cells HI.out.box
 unfold procVs at *
 rcases ways4 v0 v1 v2 v3 with rfl | ⟨rfl, rfl⟩ | ⟨rfl, rfl, rfl⟩ | ⟨rfl, rfl, rfl, rfl⟩ | ⟨rfl, rfl, rfl, rfl⟩
 all_goals
  go_enter Tryz.func286, Tryz.ntmps286
  go_wp2_with (first | (go_at_call 229; refine (hasOp_any _ _ HI.out.fit.1.prog).mono ?_; rintro e w1 ⟨rfl, hb1⟩; have HI := hided (HI.out.below hb1); obtain ⟨c0, c1, c2, c3, c4, c5, c6, c7, c8, c9, c10, c11⟩ := proc_cells HI.out.box; clear hb1; rw [HOP.out]) | (go_at_call 288; refine (leftOk_any _ _ HI.out.fit HOP.out).mono ?_; rintro e w1 ⟨rfl, hb1⟩; have HI := hided (HI.out.below hb1); obtain ⟨c0, c1, c2, c3, c4, c5, c6, c7, c8, c9, c10, c11⟩ := proc_cells HI.out.box; clear hb1; rw [HLF.out]))
  go_ret
  exact ⟨ret_bool (by rw [HE.out]; simp [emptyB]), HI.out.bel⟩
theorem state2 {x : ProcP} (h : x.state = 2) : stateB x = (hasOpB x && (x.left == 0) && inB x.wake 1 2000000000 && (x.on == 0) && emptyB x.held) := by simp [stateB, h, beq_dec]
set_option maxRecDepth 100000 in
set_option maxHeartbeats 8000000 in
theorem stateOk_s2 (x : ProcD) (w : World) (hf : ProcFit w x) (hs : x.state = 2) : Calls Tryz.prog 286 #[.agg (procVs x)] w fun e w' => e = .returned (.bool (stateB x.toProcP)) ∧ Below w.heap.size w w' := by
 have HE := hided (state2 hs)
 have HI := hided (StIn.start hf)
 clear hf
 obtain ⟨⟨id, prio, prog, state, pc, left, wake, on, held, got, code, since⟩, progA, progC⟩ := x
 replace hs : state = 2 := hs
 subst hs
 obtain ⟨v0, h0⟩ : ∃ v, hasOpB ⟨id, prio, prog, 2, pc, left, wake, on, held, got, code, since⟩ = v := ⟨_, rfl⟩
 obtain ⟨v1, h1⟩ : ∃ v, (left == 0) = v := ⟨_, rfl⟩
 obtain ⟨v2, h2⟩ : ∃ v, inB wake 1 2000000000 = v := ⟨_, rfl⟩
 obtain ⟨v3, h3⟩ : ∃ v, (on == 0) = v := ⟨_, rfl⟩
 have HE := hided (HE.out.trans (show _ = (v0 && v1 && v2 && v3 && emptyB held) by simp only [h0, h1, h2, h3]))
 have HOP := hided h0
 clear h0
 have HWK := hided h2
 clear h2
 obtain ⟨c0, c1, c2, c3, c4, c5, c6, c7, c8, c9, c10, c11⟩ := proc_cells HI.out.box
 unfold procVs at *
 rcases ways4 v0 v1 v2 v3 with rfl | ⟨rfl, rfl⟩ | ⟨rfl, rfl, rfl⟩ | ⟨rfl, rfl, rfl, rfl⟩ | ⟨rfl, rfl, rfl, rfl⟩
 all_goals
  go_enter Tryz.func286, Tryz.ntmps286
  go_wp2_with (first | (go_at_call 229; refine (hasOp_any _ _ HI.out.fit.1.prog).mono ?_; rintro e w1 ⟨rfl, hb1⟩; have HI := hided (HI.out.below hb1); obtain ⟨c0, c1, c2, c3, c4, c5, c6, c7, c8, c9, c10, c11⟩ := proc_cells HI.out.box; clear hb1; rw [HOP.out]) | (go_at_call 289; refine (isWake_any wake _).mono ?_; rintro e w1 ⟨rfl, hw1⟩; rw [HWK.out, hw1]; clear hw1 w1))
  go_ret
  exact ⟨ret_bool (by rw [HE.out]; simp [emptyB]), HI.out.bel⟩
theorem state3 {x : ProcP} (h : x.state = 3) : stateB x = (hasOpB x && (x.left == 0) && (inB x.wake 1 2000000000 || (x.wake == -1)) && emptyB x.held) := by simp [stateB, h, beq_dec, wakeB]
set_option maxRecDepth 100000 in
set_option maxHeartbeats 8000000 in
theorem stateOk_s3 (x : ProcD) (w : World) (hf : ProcFit w x) (hs : x.state = 3) : Calls Tryz.prog 286 #[.agg (procVs x)] w fun e w' => e = .returned (.bool (stateB x.toProcP)) ∧ Below w.heap.size w w' := by
 have HE := hided (state3 hs)
 have HI := hided (StIn.start hf)
 clear hf
 obtain ⟨⟨id, prio, prog, state, pc, left, wake, on, held, got, code, since⟩, progA, progC⟩ := x
 replace hs : state = 3 := hs
 subst hs
 obtain ⟨v0, h0⟩ : ∃ v, hasOpB ⟨id, prio, prog, 3, pc, left, wake, on, held, got, code, since⟩ = v := ⟨_, rfl⟩
 obtain ⟨v1, h1⟩ : ∃ v, (left == 0) = v := ⟨_, rfl⟩
 obtain ⟨v2, h2⟩ : ∃ v, inB wake 1 2000000000 = v := ⟨_, rfl⟩
 obtain ⟨v3, h3⟩ : ∃ v, (wake == -1) = v := ⟨_, rfl⟩
 have HE := hided (HE.out.trans (show _ = (v0 && v1 && (v2 || v3) && emptyB held) by simp only [h0, h1, h2, h3]))
 have HOP := hided h0
 clear h0
 have HWK := hided h2
 clear h2
 obtain ⟨c0, c1, c2, c3, c4, c5, c6, c7, c8, c9, c10, c11⟩ := proc_cells HI.out.box
 unfold procVs at *
 rcases ways_or v0 v1 v2 v3 with rfl | ⟨rfl, rfl⟩ | ⟨rfl, rfl, rfl⟩ | ⟨rfl, rfl, rfl, rfl⟩ | ⟨rfl, rfl, rfl, rfl⟩
 all_goals
  go_enter Tryz.func286, Tryz.ntmps286
  go_wp2_with (first | (go_at_call 229; refine (hasOp_any _ _ HI.out.fit.1.prog).mono ?_; rintro e w1 ⟨rfl, hb1⟩; have HI := hided (HI.out.below hb1); obtain ⟨c0, c1, c2, c3, c4, c5, c6, c7, c8, c9, c10, c11⟩ := proc_cells HI.out.box; clear hb1; rw [HOP.out]) | (go_at_call 289; refine (isWake_any wake _).mono ?_; rintro e w1 ⟨rfl, hw1⟩; rw [HWK.out, hw1]; clear hw1 w1))
  go_ret
  exact ⟨ret_bool (by rw [HE.out]; simp [emptyB]), HI.out.bel⟩
theorem state4 {x : ProcP} (h : x.state = 4) : stateB x = (hasOpB x && (x.left == 0) && (inB x.wake 1 2000000000 || (x.wake == -1)) && emptyB x.held) := by simp [stateB, h, beq_dec, wakeB]
set_option maxRecDepth 100000 in
set_option maxHeartbeats 8000000 in
theorem stateOk_s4 (x : ProcD) (w : World) (hf : ProcFit w x) (hs : x.state = 4) : Calls Tryz.prog 286 #[.agg (procVs x)] w fun e w' => e = .returned (.bool (stateB x.toProcP)) ∧ Below w.heap.size w w' := by
 have HE := hided (state4 hs)
 have HI := hided (StIn.start hf)
 clear hf
 obtain ⟨⟨id, prio, prog, state, pc, left, wake, on, held, got, code, since⟩, progA, progC⟩ := x
 replace hs : state = 4 := hs
 subst hs
 obtain ⟨v0, h0⟩ : ∃ v, hasOpB ⟨id, prio, prog, 4, pc, left, wake, on, held, got, code, since⟩ = v := ⟨_, rfl⟩
 obtain ⟨v1, h1⟩ : ∃ v, (left == 0) = v := ⟨_, rfl⟩
 obtain ⟨v2, h2⟩ : ∃ v, inB wake 1 2000000000 = v := ⟨_, rfl⟩
 obtain ⟨v3, h3⟩ : ∃ v, (wake == -1) = v := ⟨_, rfl⟩
 have HE := hided (HE.out.trans (show _ = (v0 && v1 && (v2 || v3) && emptyB held) by simp only [h0, h1, h2, h3]))
 have HOP := hided h0
 clear h0
 have HWK := hided h2
 clear h2
 obtain ⟨c0, c1, c2, c3, c4, c5, c6, c7, c8, c9, c10, c11⟩ := proc_cells HI.out.box
 unfold procVs at *
 rcases ways_or v0 v1 v2 v3 with rfl | ⟨rfl, rfl⟩ | ⟨rfl, rfl, rfl⟩ | ⟨rfl, rfl, rfl, rfl⟩ | ⟨rfl, rfl, rfl, rfl⟩
 all_goals
  go_enter Tryz.func286, Tryz.ntmps286
  go_wp2_with (first | (go_at_call 229; refine (hasOp_any _ _ HI.out.fit.1.prog).mono ?_; rintro e w1 ⟨rfl, hb1⟩; have HI := hided (HI.out.below hb1); obtain ⟨c0, c1, c2, c3, c4, c5, c6, c7, c8, c9, c10, c11⟩ := proc_cells HI.out.box; clear hb1; rw [HOP.out]) | (go_at_call 289; refine (isWake_any wake _).mono ?_; rintro e w1 ⟨rfl, hw1⟩; rw [HWK.out, hw1]; clear hw1 w1))
  go_ret
  exact ⟨ret_bool (by rw [HE.out]; simp [emptyB]), HI.out.bel⟩
theorem state5 {x : ProcP} (h : x.state = 5) : stateB x = (hasOpB x && (x.left == 0) && (inB x.wake 1 2000000000 || (x.wake == -1))) := by simp [stateB, h, beq_dec, wakeB]
set_option maxRecDepth 100000 in
set_option maxHeartbeats 8000000 in
theorem stateOk_s5 (x : ProcD) (w : World) (hf : ProcFit w x) (hs : x.state = 5) : Calls Tryz.prog 286 #[.agg (procVs x)] w fun e w' => e = .returned (.bool (stateB x.toProcP)) ∧ Below w.heap.size w w' := by
 have HE := hided (state5 hs)
 have HI := hided (StIn.start hf)
 clear hf
 obtain ⟨⟨id, prio, prog, state, pc, left, wake, on, held, got, code, since⟩, progA, progC⟩ := x
 replace hs : state = 5 := hs
 subst hs
 obtain ⟨v0, h0⟩ : ∃ v, hasOpB ⟨id, prio, prog, 5, pc, left, wake, on, held, got, code, since⟩ = v := ⟨_, rfl⟩
 obtain ⟨v1, h1⟩ : ∃ v, (left == 0) = v := ⟨_, rfl⟩
 obtain ⟨v2, h2⟩ : ∃ v, inB wake 1 2000000000 = v := ⟨_, rfl⟩
 obtain ⟨v3, h3⟩ : ∃ v, (wake == -1) = v := ⟨_, rfl⟩
 have HE := hided (HE.out.trans (show _ = (v0 && v1 && (v2 || v3)) by simp only [h0, h1, h2, h3]))
 have HOP := hided h0
 clear h0
 have HWK := hided h2
 clear h2
 obtain ⟨c0, c1, c2, c3, c4, c5, c6, c7, c8, c9, c10, c11⟩ := proc_cells HI.out.box
 unfold procVs at *
 rcases ways_or v0 v1 v2 v3 with rfl | ⟨rfl, rfl⟩ | ⟨rfl, rfl, rfl⟩ | ⟨rfl, rfl, rfl, rfl⟩ | ⟨rfl, rfl, rfl, rfl⟩
 all_goals
  go_enter Tryz.func286, Tryz.ntmps286
  go_wp2_with (first | (go_at_call 229; refine (hasOp_any _ _ HI.out.fit.1.prog).mono ?_; rintro e w1 ⟨rfl, hb1⟩; have HI := hided (HI.out.below hb1); obtain ⟨c0, c1, c2, c3, c4, c5, c6, c7, c8, c9, c10, c11⟩ := proc_cells HI.out.box; clear hb1; rw [HOP.out]) | (go_at_call 289; refine (isWake_any wake _).mono ?_; rintro e w1 ⟨rfl, hw1⟩; rw [HWK.out, hw1]; clear hw1 w1))
  go_ret
  exact ⟨ret_bool (by rw [HE.out]; simp), HI.out.bel⟩
theorem state6 {x : ProcP} (h : x.state = 6) : stateB x = (hasOpB x && (x.left == 0) && (inB x.wake 1 2000000000 || (x.wake == -1)) && emptyB x.held) := by simp [stateB, h, beq_dec, wakeB]
set_option maxRecDepth 100000 in
set_option maxHeartbeats 8000000 in
theorem stateOk_s6 (x : ProcD) (w : World) (hf : ProcFit w x) (hs : x.state = 6) : Calls Tryz.prog 286 #[.agg (procVs x)] w fun e w' => e = .returned (.bool (stateB x.toProcP)) ∧ Below w.heap.size w w' := by
 have HE := hided (state6 hs)
 have HI := hided (StIn.start hf)
 clear hf
 obtain ⟨⟨id, prio, prog, state, pc, left, wake, on, held, got, code, since⟩, progA, progC⟩ := x
 replace hs : state = 6 := hs
 subst hs
 obtain ⟨v0, h0⟩ : ∃ v, hasOpB ⟨id, prio, prog, 6, pc, left, wake, on, held, got, code, since⟩ = v := ⟨_, rfl⟩
 obtain ⟨v1, h1⟩ : ∃ v, (left == 0) = v := ⟨_, rfl⟩
 obtain ⟨v2, h2⟩ : ∃ v, inB wake 1 2000000000 = v := ⟨_, rfl⟩
 obtain ⟨v3, h3⟩ : ∃ v, (wake == -1) = v := ⟨_, rfl⟩
 have HE := hided (HE.out.trans (show _ = (v0 && v1 && (v2 || v3) && emptyB held) by simp only [h0, h1, h2, h3]))
 have HOP := hided h0
 clear h0
 have HWK := hided h2
 clear h2
 obtain ⟨c0, c1, c2, c3, c4, c5, c6, c7, c8, c9, c10, c11⟩ := proc_cells HI.out.box
 unfold procVs at *
 rcases ways_or v0 v1 v2 v3 with rfl | ⟨rfl, rfl⟩ | ⟨rfl, rfl, rfl⟩ | ⟨rfl, rfl, rfl, rfl⟩ | ⟨rfl, rfl, rfl, rfl⟩
 all_goals
  go_enter Tryz.func286, Tryz.ntmps286
  go_wp2_with (first | (go_at_call 229; refine (hasOp_any _ _ HI.out.fit.1.prog).mono ?_; rintro e w1 ⟨rfl, hb1⟩; have HI := hided (HI.out.below hb1); obtain ⟨c0, c1, c2, c3, c4, c5, c6, c7, c8, c9, c10, c11⟩ := proc_cells HI.out.box; clear hb1; rw [HOP.out]) | (go_at_call 289; refine (isWake_any wake _).mono ?_; rintro e w1 ⟨rfl, hw1⟩; rw [HWK.out, hw1]; clear hw1 w1))
  go_ret
  exact ⟨ret_bool (by rw [HE.out]; simp [emptyB]), HI.out.bel⟩
theorem state7 {x : ProcP} (h : x.state = 7) : stateB x = (hasOpB x && (x.left == 0) && (inB x.wake 1 2000000000 || (x.wake == -1)) && emptyB x.held) := by simp [stateB, h, beq_dec, wakeB]
set_option maxRecDepth 100000 in
set_option maxHeartbeats 8000000 in
theorem stateOk_s7 (x : ProcD) (w : World) (hf : ProcFit w x) (hs : x.state = 7) : Calls Tryz.prog 286 #[.agg (procVs x)] w fun e w' => e = .returned (.bool (stateB x.toProcP)) ∧ Below w.heap.size w w' := by
 have HE := hided (state7 hs)
 have HI := hided (StIn.start hf)
 clear hf
 obtain ⟨⟨id, prio, prog, state, pc, left, wake, on, held, got, code, since⟩, progA, progC⟩ := x
 replace hs : state = 7 := hs
 subst hs
 obtain ⟨v0, h0⟩ : ∃ v, hasOpB ⟨id, prio, prog, 7, pc, left, wake, on, held, got, code, since⟩ = v := ⟨_, rfl⟩
 obtain ⟨v1, h1⟩ : ∃ v, (left == 0) = v := ⟨_, rfl⟩
 obtain ⟨v2, h2⟩ : ∃ v, inB wake 1 2000000000 = v := ⟨_, rfl⟩
 obtain ⟨v3, h3⟩ : ∃ v, (wake == -1) = v := ⟨_, rfl⟩
 have HE := hided (HE.out.trans (show _ = (v0 && v1 && (v2 || v3) && emptyB held) by simp only [h0, h1, h2, h3]))
 have HOP := hided h0
 clear h0
 have HWK := hided h2
 clear h2
 obtain ⟨c0, c1, c2, c3, c4, c5, c6, c7, c8, c9, c10, c11⟩ := proc_cells HI.out.box
 unfold procVs at *
 rcases ways_or v0 v1 v2 v3 with rfl | ⟨rfl, rfl⟩ | ⟨rfl, rfl, rfl⟩ | ⟨rfl, rfl, rfl, rfl⟩ | ⟨rfl, rfl, rfl, rfl⟩
 all_goals
  go_enter Tryz.func286, Tryz.ntmps286
  go_wp2_with (first | (go_at_call 229; refine (hasOp_any _ _ HI.out.fit.1.prog).mono ?_; rintro e w1 ⟨rfl, hb1⟩; have HI := hided (HI.out.below hb1); obtain ⟨c0, c1, c2, c3, c4, c5, c6, c7, c8, c9, c10, c11⟩ := proc_cells HI.out.box; clear hb1; rw [HOP.out]) | (go_at_call 289; refine (isWake_any wake _).mono ?_; rintro e w1 ⟨rfl, hw1⟩; rw [HWK.out, hw1]; clear hw1 w1))
  go_ret
  exact ⟨ret_bool (by rw [HE.out]; simp [emptyB]), HI.out.bel⟩
set_option maxHeartbeats 1000000 in
theorem stateOk_none (x : ProcD) (w : World) (h0 : ¬ x.state = 0) (h1 : ¬ x.state = 1) (h2 : ¬ x.state = 2) (h3 : ¬ x.state = 3) (h4 : ¬ x.state = 4) (h5 : ¬ x.state = 5) (h6 : ¬ x.state = 6) (h7 : ¬ x.state = 7) : Calls Tryz.prog 286 #[.agg (procVs x)] w fun e w' => e = .returned (.bool (stateB x.toProcP)) ∧ Below w.heap.size w w' := by
 have HV : Hid (stateB x.toProcP = false) := by show stateB x.toProcP = false; simp [stateB, h0, h1, h2, h3, h4, h5, h6, h7]
 have s0 : (x.state == 0) = false := by simp [h0]
 have s1 : (x.state == 1) = false := by simp [h1]
 have s2 : (x.state == 2) = false := by simp [h2]
 have s3 : (x.state == 3) = false := by simp [h3]
 have s4 : (x.state == 4) = false := by simp [h4]
 have s5 : (x.state == 5) = false := by simp [h5]
 have s6 : (x.state == 6) = false := by simp [h6]
 have s7 : (x.state == 7) = false := by simp [h7]
 clear h0 h1 h2 h3 h4 h5 h6 h7
 unfold procVs
 go_enter Tryz.func286, Tryz.ntmps286
 go_wp2
 go_ret
 exact ⟨ret_bool HV.out.symm, (Below.refl _ _).alloc (Nat.le_refl _) _⟩
theorem stateOk_any (x : ProcD) (w : World) (hf : ProcFit w x) : Calls Tryz.prog 286 #[.agg (procVs x)] w fun e w' => e = .returned (.bool (stateB x.toProcP)) ∧ Below w.heap.size w w' := by
 by_cases h0 : x.state = 0
 ·exact stateOk_s0 x w hf h0
 by_cases h1 : x.state = 1
 ·exact stateOk_s1 x w hf h1
 by_cases h2 : x.state = 2
 ·exact stateOk_s2 x w hf h2
 by_cases h3 : x.state = 3
 ·exact stateOk_s3 x w hf h3
 by_cases h4 : x.state = 4
 ·exact stateOk_s4 x w hf h4
 by_cases h5 : x.state = 5
 ·exact stateOk_s5 x w hf h5
 by_cases h6 : x.state = 6
 ·exact stateOk_s6 x w hf h6
 by_cases h7 : x.state = 7
 ·exact stateOk_s7 x w hf h7
 exact stateOk_none x w h0 h1 h2 h3 h4 h5 h6 h7
end Go.Proofs.YtkbcplnlehdjfaaGreat

/- A process is right by itself: what right answers. -/
namespace Go.Proofs.YtkbcplnlehdjfaaGreat
open Go.RowKit
set_option maxRecDepth 100000 in
set_option maxHeartbeats 4000000 in
theorem rightProc_any (x : ProcD) (w : World) (hf : ProcFit w x) : Calls Tryz.prog 283 #[.agg (procVs x)] w fun e w' => e = .returned (.bool (procB x.toProcP)) ∧ Below w.heap.size w w' := by
 have HI : Hid (StIn w (w.alloc (.cells (procVs x) 43)) x) := StIn.start hf
 have HE : Hid (procB x.toProcP = (inB x.prio 1 50 && progL x.prog && plainB x.held && plainB x.got && inB x.code 0 3 && stateB x.toProcP)) := rfl
 have HB : Hid (Below w.heap.size w (w.alloc (.cells (procVs x) 43))) := HI.out.bel
 obtain ⟨c0, c1, c2, c3, c4, c5, c6, c7, c8, c9, c10, c11⟩ := proc_cells HI.out.box
 clear hf
 unfold procVs at *
 by_cases h1 : 1 ≤ x.prio
 rotate_left
 ·have HV : Hid (procB x.toProcP = false) := by show procB _ = false; rw [HE.out, inB_low (by omega)]; rfl
  clear HE
  go_enter Tryz.func283, Tryz.ntmps283
  go_wp2
  go_ret
  exact ⟨ret_bool HV.out.symm, HB.out⟩
 by_cases h2 : x.prio ≤ 50
 rotate_left
 ·have HV : Hid (procB x.toProcP = false) := by show procB _ = false; rw [HE.out, inB_high (by omega)]; rfl
  clear HE
  go_enter Tryz.func283, Tryz.ntmps283
  go_wp2
  go_ret
  exact ⟨ret_bool HV.out.symm, HB.out⟩
 have HP : Hid (inB x.prio 1 50 = true) := inB_true h1 h2
 go_enter Tryz.func283, Tryz.ntmps283
 go_wp2_with fail
 refine (implProgL_any x.progA x.prog x.progC _ HI.out.fit.1.prog HI.out.fit.1.ops HI.out.fit.2).mono ?_
 rintro e w1 ⟨rfl, hb1⟩
 have HI1 : Hid (StIn w w1 x) := HI.out.below hb1
 clear hb1 c0 c1 c2 c3 c4 c5 c6 c7 c8 c9 c10 c11 HI HB
 obtain ⟨c0, c1, c2, c3, c4, c5, c6, c7, c8, c9, c10, c11⟩ := proc_cells HI1.out.box
 have hsh := HI1.out.fit.1.held
 have hsg := HI1.out.fit.1.got
 cases hl : progL x.prog with
 | false =>
  have HV : Hid (procB x.toProcP = false) := by show procB _ = false; rw [HE.out, hl]; simp
  clear HE hl
  go_wp2
  go_ret
  exact ⟨ret_bool HV.out.symm, HI1.out.bel⟩
 | true =>
  have HL : Hid (progL x.prog = true) := hl
  clear hl
  go_wp2_with fail
  refine (isPlain_any x.held _ hsh).mono ?_
  rintro e w2 ⟨rfl, hw2⟩
  subst hw2
  cases hh : plainB x.held with
  | false =>
   have HV : Hid (procB x.toProcP = false) := by show procB _ = false; rw [HE.out, hh]; simp
   clear HE hh
   go_wp2
   go_ret
   exact ⟨ret_bool HV.out.symm, HI1.out.bel⟩
  | true =>
   have HH : Hid (plainB x.held = true) := hh
   clear hh
   go_wp2_with fail
   refine (isPlain_any x.got _ hsg).mono ?_
   rintro e w2 ⟨rfl, hw2⟩
   subst hw2
   cases hg : plainB x.got with
   | false =>
    have HV : Hid (procB x.toProcP = false) := by show procB _ = false; rw [HE.out, hg]; simp
    clear HE hg
    go_wp2
    go_ret
    exact ⟨ret_bool HV.out.symm, HI1.out.bel⟩
   | true =>
    have HG : Hid (plainB x.got = true) := hg
    clear hg
    by_cases h3 : 0 ≤ x.code
    rotate_left
    ·have HV : Hid (procB x.toProcP = false) := by show procB _ = false; rw [HE.out, inB_low (n := x.code) (by omega)]; simp
     clear HE
     go_wp2
     go_ret
     exact ⟨ret_bool HV.out.symm, HI1.out.bel⟩
    by_cases h4 : x.code ≤ 3
    rotate_left
    ·have HV : Hid (procB x.toProcP = false) := by show procB _ = false; rw [HE.out, inB_high (n := x.code) (by omega)]; simp
     clear HE
     go_wp2
     go_ret
     exact ⟨ret_bool HV.out.symm, HI1.out.bel⟩
    have HC : Hid (inB x.code 0 3 = true) := inB_true h3 h4
    go_wp2_with fail
    refine (stateOk_any x _ HI1.out.fit).mono ?_
    rintro e w2 ⟨rfl, hb2⟩
    have HI2 : Hid (StIn w w2 x) := HI1.out.below hb2
    clear hb2
    have HV : Hid (procB x.toProcP = stateB x.toProcP) := by show procB _ = _; rw [HE.out, HP.out, HL.out, HH.out, HG.out, HC.out]; simp
    clear HE
    go_wp2
    go_ret
    exact ⟨ret_bool HV.out.symm, HI2.out.bel⟩
end Go.Proofs.YtkbcplnlehdjfaaGreat

/- The things of a shelf of the kind Proc, in order. (Made by mkall.py.) -/
namespace Go.Proofs.YtkbcplnlehdjfaaGreat
open Go.RowKit Go.Maps Go.Sort Go.Shelf
theorem keysProc_call (mb : Option Nat) (W : World) : Calls Tryz.prog 221 #[.map mb] W fun e w' => e = .returned (.func (.func 232) #[] #[.pointer (some ⟨W.heap.size, 0, none⟩)]) ∧ w' = W.alloc (.cells #[.map mb] 108) :=
 (callsIn_wide (n := 5)).1 (AnyZI.keys_in Tryz.keysProc Fence.wide 5 trivial rfl mb W)
theorem sortedKeysProc_any (Bm b : Nat) (m : MapL) (W : World) (hBm : Bm < W.heap.size) (hc : W.cell? ⟨Bm, 0, none⟩ = some (.map (some b))) (h : MapIs W b m) (hm : m.length ≤ 1048576) :
  Calls Tryz.prog 220 #[.func (.func 232) #[] #[.pointer (some ⟨Bm, 0, none⟩)]] W fun e w' => ∃ v : Value, e = .returned v ∧ w'.ownsRow W.heap.size 2 1 v m.length (m.map fun p => .int .i64 p.1) ∧ Below W.heap.size W w' := by
 have hsz : Maps.size (mapD m) = m.length := size_map m
 have hseq : SeqGives Fence.wide 2 Tryz.prog 232 #[.pointer (some ⟨Bm, 0, none⟩)] encZ (fun ss => ss.Perm (intKeys (mapD m))) (Maps.size (mapD m)) W :=
  AnyZI.keys_gives (ρ := Tryz.keysProc_ren) { Tryz.keysProc with } Fence.wide _ trivial rfl (by omega) Bm b m.length (mapD m) W hBm hc h.1
 have cS := AnyZI.sorted_in Tryz.sortedA Fence.wide 5 trivial trivial trivial trivial rfl (by omega) (Tryz.sortsA _) (enters_of Tryz.func231 (by kernel_rfl) rfl) 232 #[.pointer (some ⟨Bm, 0, none⟩)] trivial (enters_of Tryz.func232 (by kernel_rfl) rfl) _ _ (by rw [hsz]; unfold maxLen; omega) (by rw [hsz]; omega) _ hseq
 change CallsIn _ _ Tryz.prog 220 _ _ _ at cS
 refine (callsIn_wide.1 cS).mono ?_
 rintro e w' ⟨v, ss, rfl, hS, hrow, hnil, hbel⟩
 refine ⟨v, rfl, ?_, hbel⟩
 rw [keys_sorted h.2 hS] at hrow
 have hl : ss.length = m.length := by
  rw [hS.length_eq, keys_int, List.length_map]
 rw [hl, List.map_map] at hrow
 exact hrow
theorem ptrInfoProc : (Tryz.prog.info? 102).map (fun i => (i.zero, i.size, i.bytes)) = some (some (.pointer none), 1, 8) := by kernel_rfl
set_option maxRecDepth 100000 in
set_option maxHeartbeats 2000000 in
theorem allProc_any (most : Int) (b : Nat) (m : MapL) (w : World) (h : MapIs w b m) (hm : m.length ≤ 1048576) (hwf : ∀ p ∈ m, (Lit.int .i64 p.1).wf = true) :
  Calls Tryz.prog 202 #[.agg #[.int .i64 most, .map (some b)]] w fun e w' => ∃ a cap, e = .returned (.slice a m.length cap) ∧ w'.ownsRow w.heap.size 102 1 (.slice a m.length cap) m.length (m.map fun p => ptrV p.2) ∧ Below w.heap.size w w' := by
 obtain ⟨i0, hi, e0⟩ := Option.map_eq_some_iff.1 ptrInfoProc
 simp only [Prod.mk.injEq] at e0
 have HI : Hid (Tryz.prog.info? 102 = some i0 ∧ i0.zero = some (.pointer none) ∧ i0.size = 1 ∧ i0.bytes = 8) := ⟨hi, e0⟩
 have HM : Hid (MapIs w b m ∧ ∀ p ∈ m, (Lit.int .i64 p.1).wf = true) := ⟨h, hwf⟩
 have hbl : b < w.heap.size := h.lt
 clear hi e0 h hwf
 go_enter Tryz.func202, Tryz.ntmps202
 go_wp2_with (go_at_call 221; refine (keysProc_call _ _).mono ?_; rintro e w' ⟨rfl, rfl⟩)
 refine (sortedKeysProc_any (w.heap.size + 1) b m _ (by simp) (by simp) (HM.out.1.below (((Below.refl _ w).alloc (Nat.le_refl _) _).alloc (by simp) _)) hm).mono ?_
 rintro e w2 ⟨v, rfl, hown, hb2⟩
 have HB2 : Hid (Below w.heap.size w w2) := (((Below.refl _ w).alloc (Nat.le_refl _) _).alloc (by simp) _).trans (hb2.mono (by simp; omega))
 have HS : Hid (w2.heap[w.heap.size]? = some (.cells #[.int .i64 most, .map (some b)] 110 (0, 0))) := (hb2.block _ (by simp; omega)).trans ((heap_alloc_old _ _ (by simp)).trans (heap_alloc_new _ _))
 obtain ⟨a, cap, hv, hrow⟩ := own_form hown
 have HR : Hid (Row w2 a (m.map fun p => .int .i64 p.1)) := hrow
 rw [hv]
 clear hv hown hrow hb2 v
 go_wp2_with fail
 go_loopw [3, 11] (fun l i wr => ∃ k : Nat, k ≤ m.length ∧ i = .int .i64 k ∧ ∃ a' cap', l = .slice a' k cap' ∧ Hid (wr.ownsRow w2.heap.size 102 1 (.slice a' k cap') k ((m.take k).map fun p => ptrV p.2) ∧ Below w2.heap.size w2 wr)) (fun _ i _ => m.length - (intOf i).toNat)
 case atStart => exact ⟨0, Nat.zero_le _, rfl, none, 0, rfl, ⟨World.ownsRow_nil _ _ _ _, Below.refl _ _⟩⟩
 case round =>
  obtain ⟨k, hk, rfl, a', cap', rfl, HO⟩ := hrel
  by_cases hlt : k < m.length
  ·have i0' : (0 : Int) ≤ (k : Int) := by omega
   have i1 : (k : Int) < (m.length : Int) := by omega
   obtain ⟨p, hp⟩ : ∃ p, m[k]? = some p := ⟨_, List.getElem?_eq_getElem hlt⟩
   have hpm := List.mem_of_getElem? hp
   obtain ⟨g, ha, hc⟩ := (HR.out.below HO.out.2) k (.int .i64 p.1) (by simp [hp])
   subst ha
   have hsz2 := HB2.out.size
   have hsz3 := HO.out.2.size
   have hmw : MapIs wr b m := HM.out.1.below (HB2.out.trans (HO.out.2.mono hsz2))
   have hlk := hmw.look Tryz.underlying108 (zeroPtrProc wr) (HM.out.2 p hpm) false
   rw [lookM_mem hmw.2 hpm] at hlk
   have hsw : wr.heap[w.heap.size]? = some (.cells #[.int .i64 most, .map (some b)] 110 (0, 0)) := (HO.out.2.block _ (Array.getElem?_eq_some_iff.1 HS.out).1).trans HS.out
   have s1 : wr.cell? ⟨w.heap.size, 1, none⟩ = some (.map (some b)) := by simp [World.cell?, hsw]
   have HP : Hid (m[k]? = some p) := hp
   simp only [ptrO, ptrV, Bool.false_eq_true, if_false] at hlk
   clear hp hpm hmw hsw
   go_wp2_with (at_builtin; refine wpList_append_own_at _ rfl _ _ 204 rfl w2.heap.size 102 i0 (.pointer none) 1 8 Tryz.underlying204 HI.out.1 HI.out.2.1 HI.out.2.2.1 HI.out.2.2.2 rfl (by decide) (.slice a' k cap') k ((m.take k).map fun p => ptrV p.2) rfl (HO.out.1.alloc _) ⟨wr.heap.size, 0, none⟩ 1 1 [.pointer (some ⟨p.2, 0, none⟩)] (by rfl) rfl (World.news_of_block (cs := #[.pointer (some ⟨p.2, 0, none⟩)]) (t := 102) (fr := (0, 0)) (heap_alloc_new wr _)) (by simp [Value.oneCell']) (by unfold maxLen; omega) (by omega) (by simp; omega) ?_; intro v' w5 hown' hgrow hnil hloc; obtain ⟨a5, cap5, rfl, -⟩ := own_form hown'; have HN : Hid (w5.ownsRow w2.heap.size 102 1 (.slice a5 (k + 1) cap5) (k + 1) ((m.take (k + 1)).map fun p => ptrV p.2) ∧ Below w2.heap.size w2 w5) := ⟨by rw [take_up HP.out, List.map_append]; exact hown', (HO.out.2.alloc hsz3 _).grown hgrow (by simp; omega) (fun q hq => (HO.out.1.lt q hq).1)⟩; clear hown' hgrow hnil hloc)
   go_roundw
   case rel => exact ⟨k + 1, by omega, by go_num, a5, cap5, rfl, HN⟩
   case measure => simp [intOf]; omega
  ·have i1 : ¬ (k : Int) < (m.length : Int) := by omega
   have e : k = m.length := by omega
   subst e
   go_wp2
   go_ret
   refine ⟨a', cap', rfl, ?_, HB2.out.trans (HO.out.2.mono HB2.out.size)⟩
   have := own_low HO.out.1 HB2.out.size
   rwa [List.take_length] at this
end Go.Proofs.YtkbcplnlehdjfaaGreat

/- Whether each process's want is there: what the programme answers of an open partition. -/
namespace Go.Proofs.YtkbcplnlehdjfaaGreat
open Go.RowKit Go.Maps
/-- An open partition as far as its processes are asked: its block, its processes, the keys of the rest. -/
structure OpenIn (w W : World) (o : Nat) (q : Opn) (lp : List (ProcD × Nat)) (ms me mb mf : MapL) : Prop where
 opn : OpenBox W o q
 shelf : Shelf procVs (fun x : ProcD => x.id) 43 W 0 q.bp lp
 ms : MapIs W q.bs ms
 me : MapIs W q.be me
 mb : MapIs W q.bb mb
 mf : MapIs W q.bf mf
 bel : Below w.heap.size w W
theorem OpenIn.below {w W W' : World} {o : Nat} {q : Opn} {lp : List (ProcD × Nat)} {ms me mb mf : MapL} (h : OpenIn w W o q lp ms me mb mf) (hb : Below W.heap.size W W') : OpenIn w W' o q lp ms me mb mf :=
 ⟨h.opn.below hb, h.shelf.below hb, h.ms.below hb, h.me.below hb, h.mb.below hb, h.mf.below hb, h.bel.trans (hb.mono h.bel.size)⟩
theorem OpenIn.has {w W : World} {o : Nat} {q : Opn} {lp : List (ProcD × Nat)} {ms me mb mf : MapL} (h : OpenIn w W o q lp ms me mb mf) {p : ProcD × Nat} (hp : p ∈ lp) : HasIn W W o p.2 q p.1 ms me mb mf :=
 ⟨h.opn, h.shelf.box p hp, h.ms, h.me, h.mb, h.mf, Below.refl _ _⟩
/-- Numbers that a machine's word holds. -/
structure ProcD.Wf (x : ProcD) : Prop where
 id : (Lit.int .i64 x.id).wf = true
 on : (Lit.int .i64 x.on).wf = true
 since : (Lit.int .i64 x.since).wf = true
theorem keys_wf {lp : List (ProcD × Nat)} (h : ∀ p ∈ lp, p.1.Wf) : ∀ p ∈ keysOf (fun x : ProcD => x.id) lp, (Lit.int .i64 p.1).wf = true := fun p hp => by
 obtain ⟨r, hr, rfl⟩ := List.mem_map.1 hp
 exact (h r hr).id
set_option maxRecDepth 100000 in
set_option maxHeartbeats 2000000 in
theorem waitsOk_any (o : Nat) (q : Opn) (lp : List (ProcD × Nat)) (ms me mb mf : MapL) (w : World) (h : OpenIn w w o q lp ms me mb mf) (hl : lp.length ≤ 1048576) (hwf : ∀ p ∈ lp, p.1.Wf) :
  Calls Tryz.prog 154 #[.pointer (some ⟨o, 0, none⟩)] w fun e w' => e = .returned (.bool (lp.all fun p => waitK ms me mb mf p.1)) ∧ Below w.heap.size w w' := by
 have H : Hid (OpenIn w w o q lp ms me mb mf ∧ ∀ p ∈ lp, p.1.Wf) := ⟨h, hwf⟩
 have c2 : w.cell? ⟨o, 2, none⟩ = some (.int .i64 6) := h.opn.cell 2
 have c3 : w.cell? ⟨o, 3, none⟩ = some (.map (some q.bp)) := h.opn.cell 3
 have hkl : (keysOf (fun x : ProcD => x.id) lp).length = lp.length := keysOf_length lp
 have HK : Hid ((keysOf (fun x : ProcD => x.id) lp).length = lp.length) := hkl
 clear h hwf hkl
 go_enter Tryz.func154, Tryz.ntmps154
 go_wp2_with fail
 refine (allProc_any 6 q.bp (keysOf (fun x : ProcD => x.id) lp) w H.out.1.shelf.map (by rw [HK.out]; exact hl) (keys_wf H.out.2)).mono ?_
 rintro e w2 ⟨a, cap, rfl, hown, hb2⟩
 obtain ⟨a', cap', hv, hrow⟩ := own_form hown
 cases hv
 have HR : Hid (Row w2 a ((keysOf (fun x : ProcD => x.id) lp).map fun p => ptrV p.2)) := hrow
 have HO : Hid (OpenIn w w2 o q lp ms me mb mf) := H.out.1.below hb2
 rw [HK.out]
 clear hown hrow hb2 c2 c3
 go_wp2_with fail
 go_loopw [11] (fun i wr => ∃ k : Nat, k ≤ lp.length ∧ i = .int .i64 k ∧ Hid (((lp.take k).all fun p => waitK ms me mb mf p.1) = true ∧ Below w2.heap.size w2 wr)) (fun i _ => lp.length - (intOf i).toNat)
 case atStart => exact ⟨0, Nat.zero_le _, rfl, ⟨by simp, Below.refl _ _⟩⟩
 case round =>
  obtain ⟨k, hk, rfl, HA⟩ := hrel
  have HO2 : Hid (OpenIn w wr o q lp ms me mb mf) := HO.out.below HA.out.2
  by_cases hlt : k < lp.length
  ·have i0 : (0 : Int) ≤ (k : Int) := by omega
   have i1 : (k : Int) < (lp.length : Int) := by omega
   obtain ⟨p, hp⟩ : ∃ p, lp[k]? = some p := ⟨_, List.getElem?_eq_getElem hlt⟩
   have hpm := List.mem_of_getElem? hp
   obtain ⟨g, ha, hc⟩ := (HR.out.below HA.out.2) k (ptrV p.2) (by simp [keysOf, hp])
   subst ha
   unfold ptrV at hc
   have HP : Hid (lp[k]? = some p ∧ p ∈ lp) := ⟨hp, hpm⟩
   clear hp hpm
   go_wp2_with fail
   refine (hasWait_any o p.2 q p.1 ms me mb mf wr (HO2.out.has HP.out.2) (H.out.2 p HP.out.2).on).mono ?_
   rintro e w4 ⟨rfl, hb4⟩
   have HB4 : Hid (Below w2.heap.size w2 w4) := HA.out.2.trans (hb4.mono HA.out.2.size)
   have HF4 : Hid (Below w.heap.size w w4) := HO2.out.bel.trans (hb4.mono HO2.out.bel.size)
   clear hb4
   cases hwt : waitK ms me mb mf p.1 with
   | true =>
    have HY : Hid (((lp.take (k + 1)).all fun p => waitK ms me mb mf p.1) = true) := by
     show _ = true
     rw [take_up HP.out.1, List.all_append, HA.out.1]
     simp [hwt]
    clear hwt
    go_wp2
    go_roundw
    case rel => exact ⟨k + 1, by omega, by go_num, ⟨HY.out, HB4.out⟩⟩
    case measure => simp [intOf]; omega
   | false =>
    have HN : Hid ((lp.all fun p => waitK ms me mb mf p.1) = false) := by
     show _ = false
     rw [List.all_eq_false]
     exact ⟨p, HP.out.2, by simp [hwt]⟩
    clear hwt
    go_wp2
    go_ret
    exact ⟨ret_bool HN.out.symm, HF4.out⟩
  ·have i1 : ¬ (k : Int) < (lp.length : Int) := by omega
   have HT : Hid ((lp.all fun p => waitK ms me mb mf p.1) = true) := by have := HA.out.1; rwa [List.take_of_length_le (by omega)] at this
   go_wp2
   go_ret
   exact ⟨ret_bool HT.out.symm, HO2.out.bel⟩
end Go.Proofs.YtkbcplnlehdjfaaGreat

/- Whether the turns are in order: what the programme answers of an open partition. (Made by mkturns.py.) -/
namespace Go.Proofs.YtkbcplnlehdjfaaGreat
open Go.RowKit Go.Maps
attribute [local go_sem ↓] Go.wp_at_zero Go.wp_at_succ
theorem zeroInt (w : World) : (zeroValue 3).run Tryz.prog w = .ok (.int .i64 0) w := by kernel_rfl
/-- Block b is the map of the turns that are taken, each once. -/
def TakenIs (w : World) (b : Nat) (L : List Int) : Prop := ∃ D : DataW Unit, w.ownsMap Tryz.prog 2 (plainElem Tryz.prog 3) b L.length D ∧ IsMap D ∧ ∀ z : Int, D.atKey (.int .i64 z) (.lit (.int .i64 0)) = .lit (.int .i64 (if z ∈ L then 1 else 0))
theorem TakenIs.none {w : World} {b : Nat} (hb : w.heap[b]? = some (.map #[] 0)) : TakenIs w b [] :=
 ⟨.map [], ⟨#[], 0, hb, ⟨by simp, MapKept.stamped_empty 0, by simp⟩, by simp, rfl⟩, isMap_empty, fun z => by simp [DataW.atKey]⟩
theorem TakenIs.lt {w : World} {b : Nat} {L : List Int} (h : TakenIs w b L) : b < w.heap.size := by obtain ⟨D, h, _⟩ := h; exact h.lt
theorem TakenIs.same {w w' : World} {b : Nat} {L : List Int} (h : TakenIs w b L) (hs : w'.heap[b]? = w.heap[b]?) : TakenIs w' b L := by
 obtain ⟨D, ⟨es, clock, hb, r⟩, h2⟩ := h
 exact ⟨D, ⟨es, clock, hs.trans hb, r⟩, h2⟩
theorem TakenIs.look {w : World} {b : Nat} {L : List Int} (h : TakenIs w b L) {z : Int} (hz : (Lit.int .i64 z).wf = true) : (Instr.lookup 252 (.map (some b)) (.int .i64 z) false).run Tryz.prog w = .ok (.int .i64 (if z ∈ L then 1 else 0)) w := by
 obtain ⟨D, hown, _, hat⟩ := h
 obtain ⟨c, hrun, hc, _⟩ := hown.lookup_int keyed64 Tryz.underlying252 Tryz.underlying3 (zeroInt w) (key64 hz)
 rw [hat z] at hc
 simp only [DataW.lit.injEq, Lit.int.injEq, true_and] at hc
 rw [hrun, hc]
/-- One that is taken once more. -/
theorem TakenIs.put {w : World} {b : Nat} {L : List Int} (h : TakenIs w b L) (hl : L.length ≤ 1048576) {z : Int} (hz : (Lit.int .i64 z).wf = true) (v : Int) (hv : v = (if z ∈ L then 1 else 0) + 1) :
  ∃ w', (Instr.mapUpdate 252 (.map (some b)) (.int .i64 z) (.int .i64 v)).run Tryz.prog w = .ok () w' ∧ w.grownBy w' (some b) ∧ w'.heap.size = w.heap.size ∧
   (∀ W : World, W.heap = w'.heap → (Instr.lookup 252 (.map (some b)) (.int .i64 z) false).run Tryz.prog W = .ok (.int .i64 v) W) ∧ (z ∉ L → TakenIs w' b (L ++ [z])) := by
 obtain ⟨D, hown, hm, hat⟩ := h
 have hvw : (Lit.int .i64 v).wf = true := by
  subst hv
  split <;> decide
 obtain ⟨w', hrun, ho, ht⟩ := hown.store keyed64 Tryz.underlying252 (Nat.lt_of_le_of_lt hl (by decide)) (key64 hz) (plainElem_int (H := Unit) Tryz.underlying3 hvw)
 refine ⟨w', hrun, ht.grown, ?_, fun W hW => ?_, fun hn => ⟨_, by rw [List.length_append]; exact ho, hm.put _ _, fun y => ?_⟩⟩
 ·obtain ⟨es, clock, es', clock', hb, rfl⟩ := ht
  simp [ChangeMaps.setBlock]
 ·have hoW : W.ownsMap Tryz.prog 2 (plainElem Tryz.prog 3) b (L.length + 1) (D.put (.int .i64 z) (.lit (.int .i64 v))) := by
   obtain ⟨es, clock, hb, r⟩ := ho
   exact ⟨es, clock, by rw [hW]; exact hb, r⟩
  obtain ⟨c, hr, hc, _⟩ := hoW.lookup_int keyed64 Tryz.underlying252 Tryz.underlying3 (zeroInt W) (key64 hz)
  rw [atKey_put_same hm (keyed64.key (key64 hz))] at hc
  simp only [DataW.lit.injEq, Lit.int.injEq, true_and] at hc
  rw [hr, hc]
 ·by_cases hy : y = z
  ·subst hy
   rw [atKey_put_same hm (keyed64.key (key64 hz))]
   simp [hv, hn]
  ·rw [atKey_put_other (fun e => hy (by simpa using e)), hat y]
   simp [hy]
/-- The turns of those that are not dormant. -/
def upD (l : List (ProcD × Nat)) : List Int := upL (l.map fun p => p.1.toProcP)
def TurnsD (next : Int) (l : List (ProcD × Nat)) : Prop := TurnsR next (l.map fun p => p.1.toProcP)
theorem upD_snoc (l : List (ProcD × Nat)) (p : ProcD × Nat) : upD (l ++ [p]) = upD l ++ (if p.1.state = 0 then [] else [p.1.since]) := by
 simp only [upD, upL, List.map_append, List.filter_append, List.map_cons, List.map_nil, List.filter_cons, List.filter_nil]
 by_cases h : p.1.state = 0 <;> simp [h]
theorem turns_snoc {next : Int} {l : List (ProcD × Nat)} {p : ProcD × Nat} (h : TurnsD next l) (hp : ¬ p.1.state = 0 → 1 ≤ p.1.since ∧ p.1.since < next ∧ p.1.since ∉ upD l) : TurnsD next (l ++ [p]) := by
 refine ⟨fun x hx => ?_, ?_⟩
 ·rw [List.map_append] at hx
  rcases List.mem_append.1 hx with hx | hx
  ·exact h.1 x hx
  ·simp only [List.map_cons, List.map_nil, List.mem_singleton] at hx
   subst hx
   exact fun h0 => ⟨(hp h0).1, (hp h0).2.1⟩
 ·have e := upD_snoc l p
  unfold upD at e
  rw [e]
  by_cases h0 : p.1.state = 0
  ·simp only [h0, if_true, List.append_nil]; exact h.2
  ·simp only [h0, if_false]
   refine List.nodup_append.2 ⟨h.2, by simp, fun a ha b hb => ?_⟩
   simp only [List.mem_singleton] at hb
   subst hb
   intro e2
   subst e2
   exact (hp h0).2.2 ha
theorem turns_bad {next : Int} {l : List (ProcD × Nat)} {k : Nat} {p : ProcD × Nat} (hp : l[k]? = some p) (h0 : ¬ p.1.state = 0) (hb : ¬ (1 ≤ p.1.since ∧ p.1.since < next ∧ p.1.since ∉ upD (l.take k))) : ¬ TurnsD next l := fun h => by
 have hm : p.1.toProcP ∈ l.map fun p => p.1.toProcP := List.mem_map.2 ⟨p, List.mem_of_getElem? hp, rfl⟩
 have h1 := h.1 _ hm h0
 refine hb ⟨h1.1, h1.2, fun hmem => ?_⟩
 have e : l = l.take k ++ p :: l.drop (k + 1) := split_at hp
 have h2 := h.2
 rw [e] at h2
 simp only [upL, List.map_append, List.map_cons, List.filter_append, List.filter_cons] at h2
 have h0' : (!decide (p.1.toProcP.state = 0)) = true := by simp [h0]
 rw [if_pos h0', List.map_cons] at h2
 exact (List.nodup_append.1 h2).2.2 p.1.since hmem p.1.since (by simp) rfl
/-- What looking through the turns ends in. -/
def TurnEnds (w : World) (q : Opn) (lp : List (ProcD × Nat)) (e : Ending) (w' : World) : Prop := ∃ ok : Bool, e = .returned (.bool ok) ∧ (ok = true ↔ TurnsD q.next lp) ∧ Below w.heap.size w w'
theorem turnEnds_no {w w' : World} {q : Opn} {lp : List (ProcD × Nat)} (h : ¬ TurnsD q.next lp) (hb : Below w.heap.size w w') : TurnEnds w q lp (.returned (.bool false)) w' := ⟨false, rfl, ⟨(fun h => by cases h), fun h' => absurd h' h⟩, hb⟩
/-- What is there while the turns are looked through. -/
structure TurnIn (w w2 wr : World) (o : Nat) (q : Opn) (lp : List (ProcD × Nat)) (L : List Int) : Prop where
 taken : TakenIs wr w.heap.size L
 grown : w2.grownBy wr (some w.heap.size)
theorem TurnIn.block {w w2 wr : World} {o : Nat} {q : Opn} {lp : List (ProcD × Nat)} {L : List Int} (h : TurnIn w w2 wr o q lp L) {g : Nat} (hg : g < w2.heap.size) (hne : ¬ g = w.heap.size) : wr.heap[g]? = w2.heap[g]? := h.grown.block g hg (fun e => hne (Option.some.inj e))
set_option maxRecDepth 100000 in
set_option maxHeartbeats 8000000 in
theorem turnsOk_any (o : Nat) (q : Opn) (lp : List (ProcD × Nat)) (ms me mb mf : MapL) (w : World) (h : OpenIn w w o q lp ms me mb mf) (hl : lp.length ≤ 1048576) (hwf : ∀ p ∈ lp, p.1.Wf) :
  Calls Tryz.prog 153 #[.pointer (some ⟨o, 0, none⟩)] w fun e w' => TurnEnds w q lp e w' := by
 have hmk := run_makeMap (P := Tryz.prog) 252
 have H : Hid (OpenIn w w o q lp ms me mb mf ∧ ∀ p ∈ lp, p.1.Wf) := ⟨h, hwf⟩
 have hol : o < w.heap.size := (Array.getElem?_eq_some_iff.1 h.opn).1
 have c2 : w.cell? ⟨o, 2, none⟩ = some (.int .i64 6) := h.opn.cell 2
 have c3 : w.cell? ⟨o, 3, none⟩ = some (.map (some q.bp)) := h.opn.cell 3
 have HK : Hid ((keysOf (fun x : ProcD => x.id) lp).length = lp.length) := keysOf_length lp
 clear h hwf
 go_enter Tryz.func153, Tryz.ntmps153
 go_wp2_with fail
 refine (allProc_any 6 q.bp (keysOf (fun x : ProcD => x.id) lp) (w.alloc (.map #[] 0)) (H.out.1.shelf.map.below ((Below.refl _ w).alloc (Nat.le_refl _) _)) (by rw [HK.out]; exact hl) (keys_wf H.out.2)).mono ?_
 rintro e w2 ⟨a, cap, rfl, hown, hb2⟩
 obtain ⟨a', cap', hv, hrow⟩ := own_form hown
 cases hv
 have HR : Hid (Row w2 a ((keysOf (fun x : ProcD => x.id) lp).map fun p => ptrV p.2)) := hrow
 have HRB : Hid (∀ g, a = some ⟨g, 0, none⟩ → w.heap.size + 1 ≤ g ∧ g < w2.heap.size) := fun g hg => by
  subst hg
  have := hown.lt g rfl
  simpa using this
 have HB2 : Hid (Below w.heap.size w w2) := ((Below.refl _ w).alloc (Nat.le_refl _) _).trans (hb2.mono (by simp))
 have HT0 : Hid (TakenIs w2 w.heap.size []) := TakenIs.none ((hb2.block _ (by simp)).trans (heap_alloc_new _ _))
 rw [HK.out]
 clear hown hrow hb2 c2 c3 hmk
 go_wp2_with fail
 go_loopw [13] (fun i wr => ∃ k : Nat, k ≤ lp.length ∧ i = .int .i64 k ∧ Hid (TurnsD q.next (lp.take k) ∧ TurnIn w w2 wr o q lp (upD (lp.take k)))) (fun i _ => lp.length - (intOf i).toNat)
 case atStart => exact ⟨0, Nat.zero_le _, rfl, ⟨⟨(fun x hx => by simp at hx), by simp [upL]⟩, ⟨by simpa [upD, upL] using HT0.out, ⟨rfl, rfl, rfl, Nat.le_refl _, fun _ _ _ => rfl⟩⟩⟩⟩
 case round =>
  obtain ⟨k, hk, rfl, HA⟩ := hrel
  have HBR : Hid (Below w.heap.size w wr) := HB2.out.grown HA.out.2.grown HB2.out.size (fun k hk => by cases hk; exact Nat.le_refl _)
  by_cases hlt : k < lp.length
  ·have i0 : (0 : Int) ≤ (k : Int) := by omega
   have i1 : (k : Int) < (lp.length : Int) := by omega
   obtain ⟨p, hp⟩ : ∃ p, lp[k]? = some p := ⟨_, List.getElem?_eq_getElem hlt⟩
   have hpm := List.mem_of_getElem? hp
   have hrw := HR.out k (ptrV p.2) (by simp [keysOf, hp])
   obtain ⟨g, ha, hc0⟩ := hrw
   have hgb := HRB.out g ha
   have hc : wr.cell? ⟨g, k, none⟩ = some (.pointer (some ⟨p.2, 0, none⟩)) := (World.cell?_of_block (w := w2) (a := ⟨g, k, none⟩) (HA.out.2.block (g := g) hgb.2 (fun e => by have h1 := hgb.1; have e' : g = w.heap.size := e; omega))).trans hc0
   subst ha
   have hbox : wr.heap[p.2]? = some (.cells (procVs p.1) 43 (0, 0)) := (HBR.out.block _ (Array.getElem?_eq_some_iff.1 (H.out.1.shelf.box p hpm)).1).trans (H.out.1.shelf.box p hpm)
   have hob : OpenBox wr o q := (HBR.out.block _ hol).trans H.out.1.opn
   have HP : Hid (lp[k]? = some p ∧ p ∈ lp) := ⟨hp, hpm⟩
   have HW : Hid ((Lit.int .i64 p.1.since).wf = true) := (H.out.2 p hpm).since
   have HX : Hid (wr.heap[p.2]? = some (.cells (procVs p.1) 43 (0, 0)) ∧ OpenBox wr o q) := ⟨hbox, hob⟩
   have k3 := (proc_cells hbox).2.2.2.1
   have k11 := (proc_cells hbox).2.2.2.2.2.2.2.2.2.2.2
   have hls : (upD (lp.take k)).length ≤ 1048576 := by
    have h1 : (upD (lp.take k)).length ≤ (lp.take k).length := by
     simp only [upD, upL, List.length_map]
     exact Nat.le_trans (List.length_filter_le _ _) (by simp)
    rw [List.length_take] at h1
    omega
   clear hp hpm hc0 hgb hbox hob
   by_cases h0 : p.1.state = 0
   ·have HY : Hid (TurnsD q.next (lp.take (k + 1)) ∧ TurnIn w w2 wr o q lp (upD (lp.take (k + 1)))) := by
     rw [take_up HP.out.1]
     refine ⟨turns_snoc HA.out.1 (fun h => absurd h0 h), ?_⟩
     rw [upD_snoc, if_pos h0, List.append_nil]
     exact HA.out.2
    have e0 : (p.1.state == 0) = true := by simp [h0]
    clear h0
    go_wp2
    go_roundw
    case rel => exact ⟨k + 1, by omega, by go_num, HY⟩
    case measure => simp [intOf]; omega
   ·have e0 : (p.1.state == 0) = false := by simp [h0]
    have H0 : Hid (¬ p.1.state = 0) := h0
    clear h0
    have hlk := HA.out.2.taken.look HW.out
    by_cases hz : p.1.since ∈ upD (lp.take k)
    ·rw [if_pos hz] at hlk
     obtain ⟨w5, hput, hgr5, hsz5, hlk5, -⟩ := HA.out.2.taken.put hls HW.out 2 (by rw [if_pos hz]; rfl)
     have HN : Hid (¬ TurnsD q.next lp) := turns_bad HP.out.1 H0.out (fun hh => hh.2.2 hz)
     have HB5 : Hid (Below w.heap.size w w5) := HBR.out.grown hgr5 HBR.out.size (fun k hk => by cases hk; exact Nat.le_refl _)
     have hx5 : w5.heap[p.2]? = some (.cells (procVs p.1) 43 (0, 0)) := (HB5.out.block _ (Array.getElem?_eq_some_iff.1 (H.out.1.shelf.box p HP.out.2)).1).trans (H.out.1.shelf.box p HP.out.2)
     have ho5 : OpenBox w5 o q := (HB5.out.block _ hol).trans H.out.1.opn
     have f11 := (proc_cells hx5).2.2.2.2.2.2.2.2.2.2.2
     have f1 : w5.cell? ⟨o, 1, none⟩ = some (.int .i64 q.next) := ho5.cell 1
     have hl5 := hlk5 w5.drew rfl
     clear hlk5 hgr5 hsz5 hx5 ho5 hz
     by_cases hA : p.1.since < 1
     ·have dA : decide (p.1.since < 1) = true := decide_eq_true hA
      clear hA
      go_wp2_with fail
      refine tame_region (fun w' => w' = w5.drew) (by kernel_rfl) rfl ?_
      iterate 6 (refine yl (v := ?_) ?_ ?_; rotate_left; (intro w0 hS0; subst hS0; go_simp; try with_reducible rfl); simp only [pt, sb, s0, s1])
      iterate 9 (refine nl ?_; simp only [pt, sb, s0, s1])
      iterate 2 (refine yl (v := ?_) ?_ ?_; rotate_left; (intro w0 hS0; subst hS0; go_simp; try with_reducible rfl); simp only [pt, sb, s0, s1])
      iterate 7 (refine nl ?_; simp only [pt, sb, s0, s1])
      (refine yl (v := ?_) ?_ ?_; rotate_left; (intro w0 hS0; subst hS0; go_simp; try with_reducible rfl); simp only [pt, sb, s0, s1])
      refine tame_done (by kernel_rfl) ?_ _
      intro w1 hS1
      subst hS1
      go_wp2
      go_ret
      exact turnEnds_no HN.out HB5.out.drew
     have dA : decide (p.1.since < 1) = false := decide_eq_false hA
     by_cases hB : q.next ≤ p.1.since
     ·have dB : decide (q.next ≤ p.1.since) = true := decide_eq_true hB
      clear hA hB
      go_wp2_with fail
      refine tame_region (fun w' => w' = w5.drew) (by kernel_rfl) rfl ?_
      iterate 17 (refine yl (v := ?_) ?_ ?_; rotate_left; (intro w0 hS0; subst hS0; go_simp; try with_reducible rfl); simp only [pt, sb, s0, s1])
      iterate 7 (refine nl ?_; simp only [pt, sb, s0, s1])
      (refine yl (v := ?_) ?_ ?_; rotate_left; (intro w0 hS0; subst hS0; go_simp; try with_reducible rfl); simp only [pt, sb, s0, s1])
      refine tame_done (by kernel_rfl) ?_ _
      intro w1 hS1
      subst hS1
      go_wp2
      go_ret
      exact turnEnds_no HN.out HB5.out.drew
     have dB : decide (q.next ≤ p.1.since) = false := decide_eq_false hB
     clear hA hB
     go_wp2_with fail
     refine tame_region (fun w' => w' = w5.drew) (by kernel_rfl) rfl ?_
     iterate 25 (refine yl (v := ?_) ?_ ?_; rotate_left; (intro w0 hS0; subst hS0; go_simp; try with_reducible rfl); simp only [pt, sb, s0, s1])
     refine tame_done (by kernel_rfl) ?_ _
     intro w1 hS1
     subst hS1
     go_wp2
     go_ret
     exact turnEnds_no HN.out HB5.out.drew
    ·rw [if_neg hz] at hlk
     obtain ⟨w5, hput, hgr5, hsz5, hlk5, htk⟩ := HA.out.2.taken.put hls HW.out 1 (by rw [if_neg hz]; rfl)
     have HB5 : Hid (Below w.heap.size w w5) := HBR.out.grown hgr5 HBR.out.size (fun k hk => by cases hk; exact Nat.le_refl _)
     have HI5 : Hid (TurnIn w w2 w5 o q lp (upD (lp.take k) ++ [p.1.since])) := ⟨htk hz, ⟨hgr5.os.trans HA.out.2.grown.os, hgr5.tape.trans HA.out.2.grown.tape, hgr5.output.trans HA.out.2.grown.output, Nat.le_trans HA.out.2.grown.size hgr5.size, fun k hk hne => (hgr5.block k (Nat.lt_of_lt_of_le hk HA.out.2.grown.size) hne).trans (HA.out.2.grown.block k hk hne)⟩⟩
     have HZ : Hid (¬ p.1.since ∈ upD (lp.take k)) := hz
     have hx5 : w5.heap[p.2]? = some (.cells (procVs p.1) 43 (0, 0)) := (HB5.out.block _ (Array.getElem?_eq_some_iff.1 (H.out.1.shelf.box p HP.out.2)).1).trans (H.out.1.shelf.box p HP.out.2)
     have ho5 : OpenBox w5 o q := (HB5.out.block _ hol).trans H.out.1.opn
     have f11 := (proc_cells hx5).2.2.2.2.2.2.2.2.2.2.2
     have f1 : w5.cell? ⟨o, 1, none⟩ = some (.int .i64 q.next) := ho5.cell 1
     have hl5 := hlk5 w5.drew rfl
     clear hlk5 hgr5 hsz5 hx5 ho5 hz htk
     by_cases hA : p.1.since < 1
     ·have dA : decide (p.1.since < 1) = true := decide_eq_true hA
      have HN : Hid (¬ TurnsD q.next lp) := turns_bad HP.out.1 H0.out (fun hh => by have := hh.1; omega)
      clear hA
      go_wp2_with fail
      refine tame_region (fun w' => w' = w5.drew) (by kernel_rfl) rfl ?_
      iterate 6 (refine yl (v := ?_) ?_ ?_; rotate_left; (intro w0 hS0; subst hS0; go_simp; try with_reducible rfl); simp only [pt, sb, s0, s1])
      iterate 9 (refine nl ?_; simp only [pt, sb, s0, s1])
      iterate 2 (refine yl (v := ?_) ?_ ?_; rotate_left; (intro w0 hS0; subst hS0; go_simp; try with_reducible rfl); simp only [pt, sb, s0, s1])
      iterate 7 (refine nl ?_; simp only [pt, sb, s0, s1])
      (refine yl (v := ?_) ?_ ?_; rotate_left; (intro w0 hS0; subst hS0; go_simp; try with_reducible rfl); simp only [pt, sb, s0, s1])
      refine tame_done (by kernel_rfl) ?_ _
      intro w1 hS1
      subst hS1
      go_wp2
      go_ret
      exact turnEnds_no HN.out HB5.out.drew
     have dA : decide (p.1.since < 1) = false := decide_eq_false hA
     by_cases hB : q.next ≤ p.1.since
     ·have dB : decide (q.next ≤ p.1.since) = true := decide_eq_true hB
      have HN : Hid (¬ TurnsD q.next lp) := turns_bad HP.out.1 H0.out (fun hh => by have := hh.2.1; omega)
      clear hA hB
      go_wp2_with fail
      refine tame_region (fun w' => w' = w5.drew) (by kernel_rfl) rfl ?_
      iterate 17 (refine yl (v := ?_) ?_ ?_; rotate_left; (intro w0 hS0; subst hS0; go_simp; try with_reducible rfl); simp only [pt, sb, s0, s1])
      iterate 7 (refine nl ?_; simp only [pt, sb, s0, s1])
      (refine yl (v := ?_) ?_ ?_; rotate_left; (intro w0 hS0; subst hS0; go_simp; try with_reducible rfl); simp only [pt, sb, s0, s1])
      refine tame_done (by kernel_rfl) ?_ _
      intro w1 hS1
      subst hS1
      go_wp2
      go_ret
      exact turnEnds_no HN.out HB5.out.drew
     have dB : decide (q.next ≤ p.1.since) = false := decide_eq_false hB
     have HY : Hid (TurnsD q.next (lp.take (k + 1)) ∧ TurnIn w w2 w5 o q lp (upD (lp.take (k + 1)))) := by
      rw [take_up HP.out.1]
      refine ⟨turns_snoc HA.out.1 (fun _ => ⟨by omega, by omega, HZ.out⟩), ?_⟩
      rw [upD_snoc, if_neg H0.out]
      exact HI5.out
     clear hA hB
     go_wp2_with fail
     refine tame_region (fun w' => w' = w5.drew) (by kernel_rfl) rfl ?_
     iterate 25 (refine yl (v := ?_) ?_ ?_; rotate_left; (intro w0 hS0; subst hS0; go_simp; try with_reducible rfl); simp only [pt, sb, s0, s1])
     refine tame_done (by kernel_rfl) ?_ _
     intro w1 hS1
     subst hS1
     go_wp2
     go_roundw
     case rel => exact ⟨k + 1, by omega, by go_num, ⟨HY.out.1, ⟨HY.out.2.taken.same rfl, ⟨HY.out.2.grown.os, HY.out.2.grown.tape, HY.out.2.grown.output, HY.out.2.grown.size, HY.out.2.grown.block⟩⟩⟩⟩
     case measure => simp [intOf]; omega
  ·have i1 : ¬ (k : Int) < (lp.length : Int) := by omega
   have HT : Hid (TurnsD q.next lp) := by have := HA.out.1; rwa [List.take_of_length_le (by omega)] at this
   go_wp2
   go_ret
   exact ⟨true, rfl, ⟨fun _ => HT.out, fun _ => rfl⟩, HBR.out⟩
end Go.Proofs.YtkbcplnlehdjfaaGreat
