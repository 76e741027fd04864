/- What the proof leans on, part 8: LyProc, SoProc, LySem, SoSem, LyEvent, SoEvent. -/
import Derived.Test.YtkbcplnlehdjfaaGreatOwnR2
import Derived.Test.YtkbcplnlehdjfaaGreatOwnR5
import Derived.Test.YtkbcplnlehdjfaaGreatOwnR6
import Derived.Test.YtkbcplnlehdjfaaGreatOwnR7

namespace Go.Proofs.YtkbcplnlehdjfaaGreat
open Go.RowKit
attribute [local go_sem ↓] Go.wp_at_zero Go.wp_at_succ
/-- What every order of laying in keeps. -/
def LaySProc (w : World) (b : Nat) (m : MapL) (most : Int) (x : ProcD) (w' : World) : Prop := (w'.cell? ⟨w.heap.size, 0, none⟩ = some (.int .i64 most) ∧ w'.cell? ⟨w.heap.size, 1, none⟩ = some (.map (some b)) ∧ (∀ ty, (Builtin.len_ #[108] ty #[.map (some b)]).run Tryz.prog w' = .ok (.int .i64 (m.length : Int)) w') ∧ w'.cell? ⟨w.heap.size + 1, 0, none⟩ = some (.int .i64 x.id) ∧ w'.cell? ⟨w.heap.size + 1, 1, none⟩ = some (.int .i64 x.prio) ∧ w'.cell? ⟨w.heap.size + 1, 2, none⟩ = some (.slice x.progA x.prog.length x.progC) ∧ w'.cell? ⟨w.heap.size + 1, 3, none⟩ = some (.int .i64 x.state) ∧ w'.cell? ⟨w.heap.size + 1, 4, none⟩ = some (.int .i64 x.pc) ∧ w'.cell? ⟨w.heap.size + 1, 5, none⟩ = some (.int .i64 x.left) ∧ w'.cell? ⟨w.heap.size + 1, 6, none⟩ = some (.int .i64 x.wake) ∧ w'.cell? ⟨w.heap.size + 1, 7, none⟩ = some (.int .i64 x.on) ∧ w'.cell? ⟨w.heap.size + 1, 8, none⟩ = some (.string x.held) ∧ w'.cell? ⟨w.heap.size + 1, 9, none⟩ = some (.string x.got) ∧ w'.cell? ⟨w.heap.size + 1, 10, none⟩ = some (.int .i64 x.code) ∧ w'.cell? ⟨w.heap.size + 1, 11, none⟩ = some (.int .i64 x.since)) ∧ Hid (LayIn w w' w.heap.size (w.heap.size + 1) b m most (procVs x) 43 110) ∧ Hid (ProcFit w' x)
theorem laySProc_of {w w' : World} {b : Nat} {m : MapL} {most : Int} {x : ProcD} (h : LayIn w w' w.heap.size (w.heap.size + 1) b m most (procVs x) 43 110) (hf : ProcFit w' x) : LaySProc w b m most x w' :=
 ⟨⟨h.cells.1, h.cells.2, fun ty => h.mp.len Tryz.underlying108 ty, proc_cells h.bx⟩, h, hf⟩
set_option maxRecDepth 100000 in
set_option maxHeartbeats 16000000 in
theorem layProc_any (most : Int) (b : Nat) (m : MapL) (x : ProcD) (w : World) (h : MapIs w b m) (hw : (Lit.int .i64 x.id).wf = true) (hm : m.length ≤ 1048576) (hf : ProcFit w x) :
  Calls Tryz.prog 84 #[.agg #[.int .i64 most, .map (some b)], .agg (procVs x)] w fun e w' => LayEnds w b m (layB most m x.id (procB x.toProcP)) x.id (procVs x) 43 e w' := by
 have HF : Hid (LayIn w ((w.alloc (.cells #[.int .i64 most, .map (some b)] 110)).alloc (.cells (procVs x) 43)) w.heap.size (w.heap.size + 1) b m most (procVs x) 43 110) := LayIn.start w h most _ _ _
 have HW : Hid ((Lit.int .i64 x.id).wf = true ∧ ¬ w.heap.size + 1 = b ∧ m.length ≤ 1048576) := ⟨hw, by have := h.lt; omega, hm⟩
 have HI : Hid (ProcFit ((w.alloc (.cells #[.int .i64 most, .map (some b)] 110)).alloc (.cells (procVs x) 43)) x) := hf.below ((((Below.refl _ w).alloc (Nat.le_refl _) _)).alloc (by simp) _)
 have hmn := meth_numberProc
 have hmr := meth_rightProc
 obtain ⟨s0, s1⟩ := HF.out.cells
 obtain ⟨c0, c1, c2, c3, c4, c5, c6, c7, c8, c9, c10, c11⟩ := proc_cells HF.out.bx
 clear h hw hf hm
 unfold procVs at *
 go_enter Tryz.func84, Tryz.ntmps84
 go_wp2_with fail
 clear s0 s1 c0 c1 c2 c3 c4 c5 c6 c7 c8 c9 c10 c11
 obtain ⟨vA, hA⟩ : ∃ v, (lookM m x.id).isSome = v := ⟨_, rfl⟩
 obtain ⟨vB, hBd⟩ : ∃ v, decide (most ≤ (m.length : Int)) = v := ⟨_, rfl⟩
 obtain ⟨vC, hC⟩ : ∃ v, inB x.id 1 1000 = v := ⟨_, rfl⟩
 obtain ⟨vD, hD⟩ : ∃ v, procB x.toProcP = v := ⟨_, rfl⟩
 have HL : Hid (layB most m x.id (procB x.toProcP) = (!vA && !vB && vC && vD) ∧ (vA = false → lookM m x.id = none)) := ⟨layB_of hA hBd hC hD, fun e => Option.isNone_iff_eq_none.1 (Option.isSome_eq_false_iff.1 (hA.trans e))⟩
 have HA : Hid (Ending.returned (.bool (lookM m x.id).isSome) = .returned (.bool vA)) := ret_bool hA
 have HC : Hid (Ending.returned (.bool (inB x.id 1 1000)) = .returned (.bool vC)) := ret_bool hC
 have HD : Hid (Ending.returned (.bool (procB x.toProcP)) = .returned (.bool vD)) := ret_bool hD
 clear hA hC hD
 refine tame_region (LaySProc w b m most x) (by kernel_rfl) (laySProc_of HF.out.drew (HI.out.below (Below.refl _ _).drew)) ?_
 iterate 3 (refine yl (v := ?_) ?_ ?_; rotate_left; (intro w0 hS0; obtain ⟨⟨q0, q1, q2, q3, q4, q5, q6, q7, q8, q9, q10, q11, q12, q13, q14⟩, hH⟩ := hS0; go_simp; try with_reducible rfl); simp only [pt, sb, s0, s1])
 (refine cl (.int .i64 x.id) 282 #[.agg #[.int .i64 x.id, .int .i64 x.prio, .slice x.progA x.prog.length x.progC, .int .i64 x.state, .int .i64 x.pc, .int .i64 x.left, .int .i64 x.wake, .int .i64 x.on, .string x.held, .string x.got, .int .i64 x.code, .int .i64 x.since]] ?_ ?_ ?_; (intro w0 hS0; obtain ⟨⟨q0, q1, q2, q3, q4, q5, q6, q7, q8, q9, q10, q11, q12, q13, q14⟩, hH⟩ := hS0; go_simp; try with_reducible rfl); (intro w0 hS0; refine (numberProc_any x w0).mono ?_; rintro e w2 ⟨rfl, hb2⟩; exact ⟨rfl, laySProc_of (hS0.2.1.out.below hb2) (hS0.2.2.out.below hb2)⟩); simp only [pt, sb, s0, s1])
 (refine cl (.bool vA) 163 #[.agg #[.int .i64 most, .map (some b)], .int .i64 x.id] ?_ ?_ ?_; (intro w0 hS0; obtain ⟨⟨q0, q1, q2, q3, q4, q5, q6, q7, q8, q9, q10, q11, q12, q13, q14⟩, hH⟩ := hS0; go_simp; try with_reducible rfl); (intro w0 hS0; refine (hasProc_any most b m x.id w0 hS0.2.1.out.mp HW.out.1).mono ?_; rintro e w2 ⟨rfl, hb2⟩; exact ⟨HA.out, laySProc_of (hS0.2.1.out.below hb2) (hS0.2.2.out.below hb2)⟩); simp only [pt, sb, s0, s1])
 (refine yl (v := ?_) ?_ ?_; rotate_left; (intro w0 hS0; obtain ⟨⟨q0, q1, q2, q3, q4, q5, q6, q7, q8, q9, q10, q11, q12, q13, q14⟩, hH⟩ := hS0; go_simp; try with_reducible rfl); simp only [pt, sb, s0, s1])
 rcases vA.eq_false_or_eq_true with rfl | rfl
 focus iterate 6 (refine nl ?_; simp only [pt, sb, s0, s1])
 rotate_left
 focus iterate 6 (refine yl (v := ?_) ?_ ?_; rotate_left; (intro w0 hS0; obtain ⟨⟨q0, q1, q2, q3, q4, q5, q6, q7, q8, q9, q10, q11, q12, q13, q14⟩, hH⟩ := hS0; go_simp; try with_reducible rfl); simp only [pt, sb, s0, s1])
 all_goals iterate 2 (refine yl (v := ?_) ?_ ?_; rotate_left; (intro w0 hS0; obtain ⟨⟨q0, q1, q2, q3, q4, q5, q6, q7, q8, q9, q10, q11, q12, q13, q14⟩, hH⟩ := hS0; go_simp; try with_reducible rfl); simp only [pt, sb, s0, s1])
 rcases vB.eq_false_or_eq_true with rfl | rfl
 focus iterate 5 (refine nl ?_; simp only [pt, sb, s0, s1])
 rotate_left
 focus
  iterate 2 (refine yl (v := ?_) ?_ ?_; rotate_left; (intro w0 hS0; obtain ⟨⟨q0, q1, q2, q3, q4, q5, q6, q7, q8, q9, q10, q11, q12, q13, q14⟩, hH⟩ := hS0; go_simp; try with_reducible rfl); simp only [pt, sb, s0, s1])
  (refine cl (.int .i64 x.id) 282 #[.agg #[.int .i64 x.id, .int .i64 x.prio, .slice x.progA x.prog.length x.progC, .int .i64 x.state, .int .i64 x.pc, .int .i64 x.left, .int .i64 x.wake, .int .i64 x.on, .string x.held, .string x.got, .int .i64 x.code, .int .i64 x.since]] ?_ ?_ ?_; (intro w0 hS0; obtain ⟨⟨q0, q1, q2, q3, q4, q5, q6, q7, q8, q9, q10, q11, q12, q13, q14⟩, hH⟩ := hS0; go_simp; try with_reducible rfl); (intro w0 hS0; refine (numberProc_any x w0).mono ?_; rintro e w2 ⟨rfl, hb2⟩; exact ⟨rfl, laySProc_of (hS0.2.1.out.below hb2) (hS0.2.2.out.below hb2)⟩); simp only [pt, sb, s0, s1])
  (refine cl (.bool vC) 164 #[.int .i64 x.id] ?_ ?_ ?_; (intro w0 hS0; obtain ⟨⟨q0, q1, q2, q3, q4, q5, q6, q7, q8, q9, q10, q11, q12, q13, q14⟩, hH⟩ := hS0; go_simp; try with_reducible rfl); (intro w0 hS0; refine (isNumber_any x.id w0).mono ?_; rintro e w2 ⟨rfl, rfl⟩; exact ⟨HC.out, hS0⟩); simp only [pt, sb, s0, s1])
  (refine yl (v := ?_) ?_ ?_; rotate_left; (intro w0 hS0; obtain ⟨⟨q0, q1, q2, q3, q4, q5, q6, q7, q8, q9, q10, q11, q12, q13, q14⟩, hH⟩ := hS0; go_simp; try with_reducible rfl); simp only [pt, sb, s0, s1])
 rotate_left
 focus iterate 5 (refine nl ?_; simp only [pt, sb, s0, s1])
 all_goals iterate 2 (refine yl (v := ?_) ?_ ?_; rotate_left; (intro w0 hS0; obtain ⟨⟨q0, q1, q2, q3, q4, q5, q6, q7, q8, q9, q10, q11, q12, q13, q14⟩, hH⟩ := hS0; go_simp; try with_reducible rfl); simp only [pt, sb, s0, s1])
 rotate_right
 rcases vC.eq_false_or_eq_true with rfl | rfl
 focus
  iterate 2 (refine yl (v := ?_) ?_ ?_; rotate_left; (intro w0 hS0; obtain ⟨⟨q0, q1, q2, q3, q4, q5, q6, q7, q8, q9, q10, q11, q12, q13, q14⟩, hH⟩ := hS0; go_simp; try with_reducible rfl); simp only [pt, sb, s0, s1])
  (refine cl (.bool vD) 283 #[.agg #[.int .i64 x.id, .int .i64 x.prio, .slice x.progA x.prog.length x.progC, .int .i64 x.state, .int .i64 x.pc, .int .i64 x.left, .int .i64 x.wake, .int .i64 x.on, .string x.held, .string x.got, .int .i64 x.code, .int .i64 x.since]] ?_ ?_ ?_; (intro w0 hS0; obtain ⟨⟨q0, q1, q2, q3, q4, q5, q6, q7, q8, q9, q10, q11, q12, q13, q14⟩, hH⟩ := hS0; go_simp; try with_reducible rfl); (intro w0 hS0; refine (rightProc_any x w0 hS0.2.2.out).mono ?_; rintro e w2 ⟨rfl, hb2⟩; exact ⟨HD.out, laySProc_of (hS0.2.1.out.below hb2) (hS0.2.2.out.below hb2)⟩); simp only [pt, sb, s0, s1])
  (refine yl (v := ?_) ?_ ?_; rotate_left; (intro w0 hS0; obtain ⟨⟨q0, q1, q2, q3, q4, q5, q6, q7, q8, q9, q10, q11, q12, q13, q14⟩, hH⟩ := hS0; go_simp; try with_reducible rfl); simp only [pt, sb, s0, s1])
 rotate_left
 focus iterate 4 (refine nl ?_; simp only [pt, sb, s0, s1])
 rotate_left
 focus iterate 4 (refine nl ?_; simp only [pt, sb, s0, s1])
 rotate_left
 focus iterate 4 (refine nl ?_; simp only [pt, sb, s0, s1])
 rotate_left
 all_goals (refine yl (v := ?_) ?_ ?_; rotate_left; (intro w0 hS0; obtain ⟨⟨q0, q1, q2, q3, q4, q5, q6, q7, q8, q9, q10, q11, q12, q13, q14⟩, hH⟩ := hS0; go_simp; try with_reducible rfl); simp only [pt, sb, s0, s1])
 all_goals refine tame_done (by kernel_rfl) ?_ _
 all_goals intro w1 hS1
 rcases vD.eq_false_or_eq_true with rfl | rfl
 rotate_left
 iterate 4
  go_wp2
  go_ret
  exact layEnds_no HL.out.1 hS1.2.1.out.bel
 go_wp2_with fail
 refine last_region (LaySProc w b m most x) 5 (by kernel_rfl) (laySProc_of hS1.2.1.out.drew (hS1.2.2.out.below (Below.refl _ _).drew)) ?_
 iterate 4 (refine ly 6 (v := ?_) (some _) rfl rfl (by kernel_rfl) (fun _ _ _ h => h) (does_yield (by kernel_rfl) ?_) ?_; rotate_left; (intro w0 hS0; obtain ⟨⟨q0, q1, q2, q3, q4, q5, q6, q7, q8, q9, q10, q11, q12, q13, q14⟩, hH⟩ := hS0; go_simp; try with_reducible rfl); simp only [pt, sb, s0, s1])
 refine ly 6 (v := .int .i64 x.id) (some _) rfl rfl (by kernel_rfl) (fun _ _ _ h => h) (does_call (f := 282) (args := #[.agg #[.int .i64 x.id, .int .i64 x.prio, .slice x.progA x.prog.length x.progC, .int .i64 x.state, .int .i64 x.pc, .int .i64 x.left, .int .i64 x.wake, .int .i64 x.on, .string x.held, .string x.got, .int .i64 x.code, .int .i64 x.since]]) (by kernel_rfl) ?_ ?_) ?_
 ·intro w0 hS0
  obtain ⟨⟨q0, q1, q2, q3, q4, q5, q6, q7, q8, q9, q10, q11, q12, q13, q14⟩, hH⟩ := hS0
  go_simp
  try with_reducible rfl
 ·intro w0 hS0
  refine (numberProc_any x w0).mono ?_
  rintro e w2 ⟨rfl, hb2⟩
  exact ⟨rfl, laySProc_of (hS0.2.1.out.below hb2) (hS0.2.2.out.below hb2)⟩
 simp only [pt, sb, s0, s1]
 refine last_done rfl (by kernel_rfl) (by kernel_rfl) (by kernel_rfl) ?_
 intro w1 hS1
 obtain ⟨w2, hput, hend⟩ := hS1.2.1.out.put (by omega) Tryz.underlying108 HW.out.1 (HL.out.2 (by trivial)) HW.out.2.2 HW.out.2.1
 have HE : Hid (LayEnds w b m true x.id (procVs x) 43 (.returned (.bool true)) w2) := hend
 clear hend hS1
 go_simp
 go_wp2
 go_ret
 rw [HL.out.1]
 exact HE.out
end Go.Proofs.YtkbcplnlehdjfaaGreat

/- A shelf of a list of things of the kind Proc. (Made by mkshelfof.py.) -/
namespace Go.Proofs.YtkbcplnlehdjfaaGreat
open Go.RowKit
attribute [local go_sem ↓] Go.wp_at_zero Go.wp_at_succ
/-- What holds at the head of each round. -/
def ShProcAt (w : World) (most : Int) (list : List ProcD) (k : Nat) (wr : World) : Prop :=
 ∃ l : List (ProcD × Nat), l.map (·.1) = list.take k ∧ ShIn procVs (fun x : ProcD => x.id) 43 110 w wr most l ∧ thingsB (fun x : ProcD => x.id) (fun x : ProcD => procB x.toProcP) 0 (list.take k) = true ∧ (k : Int) ≤ max most 0
set_option maxRecDepth 100000 in
set_option maxHeartbeats 4000000 in
theorem shelfOfProc_any (a : Option Addr) (list : List ProcD) (cap : Nat) (most : Int) (w : World) (hl : list.length ≤ 1048576) (h : procK.Lies w a list) (hf : ∀ x ∈ list, ProcFit w x) (hw : ∀ x ∈ list, (Lit.int .i64 x.id).wf = true) :
  Calls Tryz.prog 147 #[.slice a list.length cap, .int .i64 most] w fun e w' => ShelfEnds procVs (fun x : ProcD => x.id) 43 w most (thingsB (fun x : ProcD => x.id) (fun x : ProcD => procB x.toProcP) 0 list && decide ((list.length : Int) ≤ max most 0)) list e w' := by
 have hmk := run_makeMap (P := Tryz.prog) 108
 have hmn := meth_numberProc
 have H0 : Hid (ShIn procVs (fun x : ProcD => x.id) 43 110 w (((w.alloc (.cells #[.int .i64 0, .map none] 110)).alloc (.map #[] 0)).alloc (.cells #[.int .i64 most, .map (some (w.heap.size + 1))] 110)) most []) := ShIn.start 110 w most
 have HL : Hid (procK.Lies w a list ∧ (∀ x ∈ list, ProcFit w x) ∧ ∀ x ∈ list, (Lit.int .i64 x.id).wf = true) := ⟨h, hf, hw⟩
 clear h hf hw
 go_enter Tryz.func147, Tryz.ntmps147
 go_wp2_with fail
 go_loopw [7, 15] (fun last i wr => ∃ k : Nat, k ≤ list.length ∧ i = .int .i64 k ∧ last = .int .i64 (lastOf (fun x : ProcD => x.id) 0 (list.take k)) ∧ Hid (ShProcAt w most list k wr)) (fun _ i _ => list.length - (intOf i).toNat)
 case atStart => exact ⟨0, Nat.zero_le _, rfl, rfl, ⟨[], by simp, H0.out, rfl, by simp; omega⟩⟩
 case round =>
  clear H0 hmk
  obtain ⟨k, hk, rfl, rfl, HA⟩ := hrel
  obtain ⟨l, hlm, hin, hth, hkm⟩ := HA.out
  have HT : Hid (l.map (·.1) = list.take k ∧ thingsB (fun x : ProcD => x.id) (fun x : ProcD => procB x.toProcP) 0 (list.take k) = true ∧ (k : Int) ≤ max most 0) := ⟨hlm, hth, hkm⟩
  have HI : Hid (ShIn procVs (fun x : ProcD => x.id) 43 110 w wr most l) := hin
  clear HA hlm hin hth hkm
  by_cases hlt : k < list.length
  ·have i0 : (0 : Int) ≤ (k : Int) := by omega
   have i1 : (k : Int) < (list.length : Int) := by omega
   obtain ⟨x, hx⟩ : ∃ x, list[k]? = some x := ⟨_, List.getElem?_eq_getElem hlt⟩
   have hmem := List.mem_of_getElem? hx
   have HX : Hid (list[k]? = some x) := hx
   have HF : Hid (ProcFit w x ∧ (Lit.int .i64 x.id).wf = true) := ⟨HL.out.2.1 x hmem, HL.out.2.2 x hmem⟩
   obtain ⟨gs, ha, hat⟩ := proc_at (HL.out.1.below HI.out.bel) hx
   obtain ⟨c0, c1, c2, c3, c4, c5, c6, c7, c8, c9, c10, c11⟩ := hat
   subst ha
   clear hx hmem
   go_wp2_with fail
   refine (numberProc_any x _).mono ?_
   rintro e w2 ⟨rfl, hb2⟩
   have HI2 : Hid (ShIn procVs (fun x : ProcD => x.id) 43 110 w w2 most l) := (HI.out.below ((Below.refl _ wr).alloc (Nat.le_refl _) (.cells #[.int .i64 x.id, .int .i64 x.prio, .slice x.progA x.prog.length x.progC, .int .i64 x.state, .int .i64 x.pc, .int .i64 x.left, .int .i64 x.wake, .int .i64 x.on, .string x.held, .string x.got, .int .i64 x.code, .int .i64 x.since] 43))).below hb2
   have HB : Hid (w2.heap[wr.heap.size]? = some (.cells (procVs x) 43 (0, 0))) := (hb2.block _ (by simp)).trans (heap_alloc_new _ _)
   have HZ : Hid (w.heap.size + 1 < wr.heap.size) := by show w.heap.size + 1 < wr.heap.size; have := (Array.getElem?_eq_some_iff.1 HI.out.var).1; omega
   clear hb2 HI c0 c1 c2 c3 c4 c5 c6 c7 c8 c9 c10 c11
   obtain ⟨d0, d1, d2, d3, d4, d5, d6, d7, d8, d9, d10, d11⟩ := proc_cells HB.out
   obtain ⟨r0, r1, v0, v1, z0, z1⟩ := HI2.out.cells
   by_cases hle : x.id ≤ lastOf (fun x : ProcD => x.id) 0 (list.take k)
   ·have HN : Hid ((thingsB (fun x : ProcD => x.id) (fun x : ProcD => procB x.toProcP) 0 list && decide ((list.length : Int) ≤ max most 0)) = false) := by
     show _ = false
     rw [things_no HX.out (fun hh => absurd hh.2.1 (by show ¬ lastOf (fun x : ProcD => x.id) 0 (list.take k) < x.id; omega))]; rfl
    go_wp2
    refine bodyPost_ret (v := .tuple #[.agg #[.int .i64 0, .map none], .bool false]) (by simp [results, Tryz.results147, go_sem, *]) rfl ?_
    exact ⟨(HI2.out.away _ _).2, .inl ⟨HN.out, rfl⟩⟩
   have HLT : Hid (lastOf (fun x : ProcD => x.id) 0 (list.take k) < x.id) := by show _ < _; omega
   have hkl : (keysOf (fun x : ProcD => x.id) l).length ≤ 1048576 := by
    rw [keysOf_length]
    have := congrArg List.length HT.out.1
    simp only [List.length_map, List.length_take] at this
    omega
   go_wp2_with fail
   refine (layProc_any most (w.heap.size + 1) (keysOf (fun x : ProcD => x.id) l) x w2 HI2.out.shelf.map HF.out.2 hkl (HF.out.1.below HI2.out.bel)).mono ?_
   rintro e w3 ⟨rfl, hno, hyes⟩
   cases hlay : layB most (keysOf (fun x : ProcD => x.id) l) x.id (procB x.toProcP) with
   | false =>
    have HN : Hid ((thingsB (fun x : ProcD => x.id) (fun x : ProcD => procB x.toProcP) 0 list && decide ((list.length : Int) ≤ max most 0)) = false) := things_lay_no HX.out HT.out.1 HT.out.2.1 HLT.out hlay
    have HI3 : Hid (ShIn procVs (fun x : ProcD => x.id) 43 110 w w3 most l) := HI2.out.below (hno hlay)
    clear hno hyes hlay HI2 r0 r1 v0 v1 z0 z1 d0 d1 d2 d3 d4 d5 d6 d7 d8 d9 d10 d11 HB
    obtain ⟨r0, r1, v0, v1, z0, z1⟩ := HI3.out.cells
    go_wp2
    refine bodyPost_ret (v := .tuple #[.agg #[.int .i64 0, .map none], .bool false]) (by simp [results, Tryz.results147, go_sem, *]) rfl ?_
    exact ⟨(HI3.out.away _ _).2, .inl ⟨HN.out, rfl⟩⟩
   | true =>
    have HY : Hid (thingsB (fun x : ProcD => x.id) (fun x : ProcD => procB x.toProcP) 0 (list.take (k + 1)) = true ∧ ((k + 1 : Nat) : Int) ≤ max most 0) := things_lay_yes HX.out HT.out.1 HT.out.2.1 HLT.out hlay
    obtain ⟨g, hin4⟩ := HI2.out.lay (x := x) (e := .returned (.bool true)) (w' := w3) ⟨rfl, (fun h => by cases h), fun _ => hyes hlay⟩ (rises_last HT.out.1 HT.out.2.1 HLT.out)
    have HI4 : Hid (ShIn procVs (fun x : ProcD => x.id) 43 110 w w3 most (l ++ [(x, g)])) := hin4
    have HB3 : Hid (w3.heap[wr.heap.size]? = some (.cells (procVs x) 43 (0, 0))) := by
     obtain ⟨g', _, _, _, hgr⟩ := hyes hlay
     exact (hgr.block _ (Array.getElem?_eq_some_iff.1 HB.out).1 (fun e => by have := Option.some.inj e; have := HZ.out; omega)).trans HB.out
    clear hno hyes hlay HI2 r0 r1 v0 v1 z0 z1 d0 d1 d2 d3 d4 d5 d6 d7 d8 d9 d10 d11 HB hin4
    obtain ⟨d0, d1, d2, d3, d4, d5, d6, d7, d8, d9, d10, d11⟩ := proc_cells HB3.out
    go_wp2_with fail
    refine (numberProc_any x _).mono ?_
    rintro e w5 ⟨rfl, hb5⟩
    have HI5 : Hid (ShIn procVs (fun x : ProcD => x.id) 43 110 w w5 most (l ++ [(x, g)])) := HI4.out.below hb5
    have HE : Hid (lastOf (fun x : ProcD => x.id) 0 (list.take (k + 1)) = x.id) := lastOf_take HX.out 0
    clear hb5 HI4
    go_wp2
    go_roundw
    case rel => exact ⟨k + 1, by omega, by go_num, by rw [HE.out], ⟨l ++ [(x, g)], by rw [List.map_append, HT.out.1, take_up HX.out]; rfl, HI5.out, HY.out.1, HY.out.2⟩⟩
    case measure => simp [intOf]; omega
  ·have i1 : ¬ (k : Int) < (list.length : Int) := by omega
   have HK : Hid (list.take k = list ∧ ((list.length : Int) ≤ max most 0)) := ⟨List.take_of_length_le (by omega), by have := HT.out.2.2; omega⟩
   have HY : Hid ((thingsB (fun x : ProcD => x.id) (fun x : ProcD => procB x.toProcP) 0 list && decide ((list.length : Int) ≤ max most 0)) = true) := by
    show _ = true
    have h1 := HT.out.2.1
    rw [HK.out.1] at h1
    rw [h1, decide_eq_true HK.out.2]; rfl
   obtain ⟨r0, r1, v0, v1, z0, z1⟩ := HI.out.cells
   go_wp2
   refine bodyPost_ret (v := .tuple #[.agg #[.int .i64 most, .map (some (w.heap.size + 1))], .bool true]) (by simp [results, Tryz.results147, go_sem, *]) rfl ?_
   exact ⟨(HI.out.away _ _).2, .inr ⟨HY.out, w.heap.size + 1, l, rfl, by rw [HT.out.1, HK.out.1], (HI.out.away _ _).1⟩⟩
end Go.Proofs.YtkbcplnlehdjfaaGreat

/- Laying a thing of the kind Sem into its shelf. (Made by mkshelf.py.) -/
namespace Go.Proofs.YtkbcplnlehdjfaaGreat
open Go.RowKit
attribute [local go_sem ↓] Go.wp_at_zero Go.wp_at_succ
/-- What every order of laying in keeps. -/
def LaySSem (w : World) (b : Nat) (m : MapL) (most : Int) (x : SemD) (w' : World) : Prop := (w'.cell? ⟨w.heap.size, 0, none⟩ = some (.int .i64 most) ∧ w'.cell? ⟨w.heap.size, 1, none⟩ = some (.map (some b)) ∧ (∀ ty, (Builtin.len_ #[111] ty #[.map (some b)]).run Tryz.prog w' = .ok (.int .i64 (m.length : Int)) w') ∧ w'.cell? ⟨w.heap.size + 1, 0, none⟩ = some (.int .i64 x.id) ∧ w'.cell? ⟨w.heap.size + 1, 1, none⟩ = some (.int .i64 x.n) ∧ w'.cell? ⟨w.heap.size + 1, 2, none⟩ = some (.int .i64 x.max)) ∧ Hid (LayIn w w' w.heap.size (w.heap.size + 1) b m most (semVs x) 49 113) ∧ Hid (SemFit w' x)
theorem laySSem_of {w w' : World} {b : Nat} {m : MapL} {most : Int} {x : SemD} (h : LayIn w w' w.heap.size (w.heap.size + 1) b m most (semVs x) 49 113) (hf : SemFit w' x) : LaySSem w b m most x w' :=
 ⟨⟨h.cells.1, h.cells.2, fun ty => h.mp.len Tryz.underlying111 ty, sem_cells h.bx⟩, h, hf⟩
set_option maxRecDepth 100000 in
set_option maxHeartbeats 16000000 in
theorem laySem_any (most : Int) (b : Nat) (m : MapL) (x : SemD) (w : World) (h : MapIs w b m) (hw : (Lit.int .i64 x.id).wf = true) (hm : m.length ≤ 1048576) (hf : SemFit w x) :
  Calls Tryz.prog 89 #[.agg #[.int .i64 most, .map (some b)], .agg (semVs x)] w fun e w' => LayEnds w b m (layB most m x.id (semB x)) x.id (semVs x) 49 e w' := by
 have HF : Hid (LayIn w ((w.alloc (.cells #[.int .i64 most, .map (some b)] 113)).alloc (.cells (semVs x) 49)) w.heap.size (w.heap.size + 1) b m most (semVs x) 49 113) := LayIn.start w h most _ _ _
 have HW : Hid ((Lit.int .i64 x.id).wf = true ∧ ¬ w.heap.size + 1 = b ∧ m.length ≤ 1048576) := ⟨hw, by have := h.lt; omega, hm⟩
 have HI : Hid (SemFit ((w.alloc (.cells #[.int .i64 most, .map (some b)] 113)).alloc (.cells (semVs x) 49)) x) := hf.below ((((Below.refl _ w).alloc (Nat.le_refl _) _)).alloc (by simp) _)
 have hmn := meth_numberSem
 have hmr := meth_rightSem
 obtain ⟨s0, s1⟩ := HF.out.cells
 obtain ⟨c0, c1, c2⟩ := sem_cells HF.out.bx
 clear h hw hf hm
 unfold semVs at *
 go_enter Tryz.func89, Tryz.ntmps89
 go_wp2_with fail
 clear s0 s1 c0 c1 c2
 obtain ⟨vA, hA⟩ : ∃ v, (lookM m x.id).isSome = v := ⟨_, rfl⟩
 obtain ⟨vB, hBd⟩ : ∃ v, decide (most ≤ (m.length : Int)) = v := ⟨_, rfl⟩
 obtain ⟨vC, hC⟩ : ∃ v, inB x.id 1 1000 = v := ⟨_, rfl⟩
 obtain ⟨vD, hD⟩ : ∃ v, semB x = v := ⟨_, rfl⟩
 have HL : Hid (layB most m x.id (semB x) = (!vA && !vB && vC && vD) ∧ (vA = false → lookM m x.id = none)) := ⟨layB_of hA hBd hC hD, fun e => Option.isNone_iff_eq_none.1 (Option.isSome_eq_false_iff.1 (hA.trans e))⟩
 have HA : Hid (Ending.returned (.bool (lookM m x.id).isSome) = .returned (.bool vA)) := ret_bool hA
 have HC : Hid (Ending.returned (.bool (inB x.id 1 1000)) = .returned (.bool vC)) := ret_bool hC
 have HD : Hid (Ending.returned (.bool (semB x)) = .returned (.bool vD)) := ret_bool hD
 clear hA hC hD
 refine tame_region (LaySSem w b m most x) (by kernel_rfl) (laySSem_of HF.out.drew (HI.out.below (Below.refl _ _).drew)) ?_
 iterate 3 (refine yl (v := ?_) ?_ ?_; rotate_left; (intro w0 hS0; obtain ⟨⟨q0, q1, q2, q3, q4, q5⟩, hH⟩ := hS0; go_simp; try with_reducible rfl); simp only [pt, sb, s0, s1])
 (refine cl (.int .i64 x.id) 294 #[.agg #[.int .i64 x.id, .int .i64 x.n, .int .i64 x.max]] ?_ ?_ ?_; (intro w0 hS0; obtain ⟨⟨q0, q1, q2, q3, q4, q5⟩, hH⟩ := hS0; go_simp; try with_reducible rfl); (intro w0 hS0; refine (numberSem_any x w0).mono ?_; rintro e w2 ⟨rfl, hb2⟩; exact ⟨rfl, laySSem_of (hS0.2.1.out.below hb2) (hS0.2.2.out.below hb2)⟩); simp only [pt, sb, s0, s1])
 (refine cl (.bool vA) 175 #[.agg #[.int .i64 most, .map (some b)], .int .i64 x.id] ?_ ?_ ?_; (intro w0 hS0; obtain ⟨⟨q0, q1, q2, q3, q4, q5⟩, hH⟩ := hS0; go_simp; try with_reducible rfl); (intro w0 hS0; refine (hasSem_any most b m x.id w0 hS0.2.1.out.mp HW.out.1).mono ?_; rintro e w2 ⟨rfl, hb2⟩; exact ⟨HA.out, laySSem_of (hS0.2.1.out.below hb2) (hS0.2.2.out.below hb2)⟩); simp only [pt, sb, s0, s1])
 (refine yl (v := ?_) ?_ ?_; rotate_left; (intro w0 hS0; obtain ⟨⟨q0, q1, q2, q3, q4, q5⟩, hH⟩ := hS0; go_simp; try with_reducible rfl); simp only [pt, sb, s0, s1])
 rcases vA.eq_false_or_eq_true with rfl | rfl
 focus iterate 6 (refine nl ?_; simp only [pt, sb, s0, s1])
 rotate_left
 focus iterate 6 (refine yl (v := ?_) ?_ ?_; rotate_left; (intro w0 hS0; obtain ⟨⟨q0, q1, q2, q3, q4, q5⟩, hH⟩ := hS0; go_simp; try with_reducible rfl); simp only [pt, sb, s0, s1])
 all_goals iterate 2 (refine yl (v := ?_) ?_ ?_; rotate_left; (intro w0 hS0; obtain ⟨⟨q0, q1, q2, q3, q4, q5⟩, hH⟩ := hS0; go_simp; try with_reducible rfl); simp only [pt, sb, s0, s1])
 rcases vB.eq_false_or_eq_true with rfl | rfl
 focus iterate 5 (refine nl ?_; simp only [pt, sb, s0, s1])
 rotate_left
 focus
  iterate 2 (refine yl (v := ?_) ?_ ?_; rotate_left; (intro w0 hS0; obtain ⟨⟨q0, q1, q2, q3, q4, q5⟩, hH⟩ := hS0; go_simp; try with_reducible rfl); simp only [pt, sb, s0, s1])
  (refine cl (.int .i64 x.id) 294 #[.agg #[.int .i64 x.id, .int .i64 x.n, .int .i64 x.max]] ?_ ?_ ?_; (intro w0 hS0; obtain ⟨⟨q0, q1, q2, q3, q4, q5⟩, hH⟩ := hS0; go_simp; try with_reducible rfl); (intro w0 hS0; refine (numberSem_any x w0).mono ?_; rintro e w2 ⟨rfl, hb2⟩; exact ⟨rfl, laySSem_of (hS0.2.1.out.below hb2) (hS0.2.2.out.below hb2)⟩); simp only [pt, sb, s0, s1])
  (refine cl (.bool vC) 164 #[.int .i64 x.id] ?_ ?_ ?_; (intro w0 hS0; obtain ⟨⟨q0, q1, q2, q3, q4, q5⟩, hH⟩ := hS0; go_simp; try with_reducible rfl); (intro w0 hS0; refine (isNumber_any x.id w0).mono ?_; rintro e w2 ⟨rfl, rfl⟩; exact ⟨HC.out, hS0⟩); simp only [pt, sb, s0, s1])
  (refine yl (v := ?_) ?_ ?_; rotate_left; (intro w0 hS0; obtain ⟨⟨q0, q1, q2, q3, q4, q5⟩, hH⟩ := hS0; go_simp; try with_reducible rfl); simp only [pt, sb, s0, s1])
 rotate_left
 focus iterate 5 (refine nl ?_; simp only [pt, sb, s0, s1])
 all_goals iterate 2 (refine yl (v := ?_) ?_ ?_; rotate_left; (intro w0 hS0; obtain ⟨⟨q0, q1, q2, q3, q4, q5⟩, hH⟩ := hS0; go_simp; try with_reducible rfl); simp only [pt, sb, s0, s1])
 rotate_right
 rcases vC.eq_false_or_eq_true with rfl | rfl
 focus
  iterate 2 (refine yl (v := ?_) ?_ ?_; rotate_left; (intro w0 hS0; obtain ⟨⟨q0, q1, q2, q3, q4, q5⟩, hH⟩ := hS0; go_simp; try with_reducible rfl); simp only [pt, sb, s0, s1])
  (refine cl (.bool vD) 295 #[.agg #[.int .i64 x.id, .int .i64 x.n, .int .i64 x.max]] ?_ ?_ ?_; (intro w0 hS0; obtain ⟨⟨q0, q1, q2, q3, q4, q5⟩, hH⟩ := hS0; go_simp; try with_reducible rfl); (intro w0 hS0; refine (rightSem_any x w0 hS0.2.2.out).mono ?_; rintro e w2 ⟨rfl, hb2⟩; exact ⟨HD.out, laySSem_of (hS0.2.1.out.below hb2) (hS0.2.2.out.below hb2)⟩); simp only [pt, sb, s0, s1])
  (refine yl (v := ?_) ?_ ?_; rotate_left; (intro w0 hS0; obtain ⟨⟨q0, q1, q2, q3, q4, q5⟩, hH⟩ := hS0; go_simp; try with_reducible rfl); simp only [pt, sb, s0, s1])
 rotate_left
 focus iterate 4 (refine nl ?_; simp only [pt, sb, s0, s1])
 rotate_left
 focus iterate 4 (refine nl ?_; simp only [pt, sb, s0, s1])
 rotate_left
 focus iterate 4 (refine nl ?_; simp only [pt, sb, s0, s1])
 rotate_left
 all_goals (refine yl (v := ?_) ?_ ?_; rotate_left; (intro w0 hS0; obtain ⟨⟨q0, q1, q2, q3, q4, q5⟩, hH⟩ := hS0; go_simp; try with_reducible rfl); simp only [pt, sb, s0, s1])
 all_goals refine tame_done (by kernel_rfl) ?_ _
 all_goals intro w1 hS1
 rcases vD.eq_false_or_eq_true with rfl | rfl
 rotate_left
 iterate 4
  go_wp2
  go_ret
  exact layEnds_no HL.out.1 hS1.2.1.out.bel
 go_wp2_with fail
 refine last_region (LaySSem w b m most x) 5 (by kernel_rfl) (laySSem_of hS1.2.1.out.drew (hS1.2.2.out.below (Below.refl _ _).drew)) ?_
 iterate 4 (refine ly 6 (v := ?_) (some _) rfl rfl (by kernel_rfl) (fun _ _ _ h => h) (does_yield (by kernel_rfl) ?_) ?_; rotate_left; (intro w0 hS0; obtain ⟨⟨q0, q1, q2, q3, q4, q5⟩, hH⟩ := hS0; go_simp; try with_reducible rfl); simp only [pt, sb, s0, s1])
 refine ly 6 (v := .int .i64 x.id) (some _) rfl rfl (by kernel_rfl) (fun _ _ _ h => h) (does_call (f := 294) (args := #[.agg #[.int .i64 x.id, .int .i64 x.n, .int .i64 x.max]]) (by kernel_rfl) ?_ ?_) ?_
 ·intro w0 hS0
  obtain ⟨⟨q0, q1, q2, q3, q4, q5⟩, hH⟩ := hS0
  go_simp
  try with_reducible rfl
 ·intro w0 hS0
  refine (numberSem_any x w0).mono ?_
  rintro e w2 ⟨rfl, hb2⟩
  exact ⟨rfl, laySSem_of (hS0.2.1.out.below hb2) (hS0.2.2.out.below hb2)⟩
 simp only [pt, sb, s0, s1]
 refine last_done rfl (by kernel_rfl) (by kernel_rfl) (by kernel_rfl) ?_
 intro w1 hS1
 obtain ⟨w2, hput, hend⟩ := hS1.2.1.out.put (by omega) Tryz.underlying111 HW.out.1 (HL.out.2 (by trivial)) HW.out.2.2 HW.out.2.1
 have HE : Hid (LayEnds w b m true x.id (semVs x) 49 (.returned (.bool true)) w2) := hend
 clear hend hS1
 go_simp
 go_wp2
 go_ret
 rw [HL.out.1]
 exact HE.out
end Go.Proofs.YtkbcplnlehdjfaaGreat

/- A shelf of a list of things of the kind Sem. (Made by mkshelfof.py.) -/
namespace Go.Proofs.YtkbcplnlehdjfaaGreat
open Go.RowKit
attribute [local go_sem ↓] Go.wp_at_zero Go.wp_at_succ
/-- What holds at the head of each round. -/
def ShSemAt (w : World) (most : Int) (list : List SemD) (k : Nat) (wr : World) : Prop :=
 ∃ l : List (SemD × Nat), l.map (·.1) = list.take k ∧ ShIn semVs (fun x : SemD => x.id) 49 113 w wr most l ∧ thingsB (fun x : SemD => x.id) (fun x : SemD => semB x) 0 (list.take k) = true ∧ (k : Int) ≤ max most 0
set_option maxRecDepth 100000 in
set_option maxHeartbeats 4000000 in
theorem shelfOfSem_any (a : Option Addr) (list : List SemD) (cap : Nat) (most : Int) (w : World) (hl : list.length ≤ 1048576) (h : semK.Lies w a list) (hf : ∀ x ∈ list, SemFit w x) (hw : ∀ x ∈ list, (Lit.int .i64 x.id).wf = true) :
  Calls Tryz.prog 148 #[.slice a list.length cap, .int .i64 most] w fun e w' => ShelfEnds semVs (fun x : SemD => x.id) 49 w most (thingsB (fun x : SemD => x.id) (fun x : SemD => semB x) 0 list && decide ((list.length : Int) ≤ max most 0)) list e w' := by
 have hmk := run_makeMap (P := Tryz.prog) 111
 have hmn := meth_numberSem
 have H0 : Hid (ShIn semVs (fun x : SemD => x.id) 49 113 w (((w.alloc (.cells #[.int .i64 0, .map none] 113)).alloc (.map #[] 0)).alloc (.cells #[.int .i64 most, .map (some (w.heap.size + 1))] 113)) most []) := ShIn.start 113 w most
 have HL : Hid (semK.Lies w a list ∧ (∀ x ∈ list, SemFit w x) ∧ ∀ x ∈ list, (Lit.int .i64 x.id).wf = true) := ⟨h, hf, hw⟩
 clear h hf hw
 go_enter Tryz.func148, Tryz.ntmps148
 go_wp2_with fail
 go_loopw [7, 15] (fun last i wr => ∃ k : Nat, k ≤ list.length ∧ i = .int .i64 k ∧ last = .int .i64 (lastOf (fun x : SemD => x.id) 0 (list.take k)) ∧ Hid (ShSemAt w most list k wr)) (fun _ i _ => list.length - (intOf i).toNat)
 case atStart => exact ⟨0, Nat.zero_le _, rfl, rfl, ⟨[], by simp, H0.out, rfl, by simp; omega⟩⟩
 case round =>
  clear H0 hmk
  obtain ⟨k, hk, rfl, rfl, HA⟩ := hrel
  obtain ⟨l, hlm, hin, hth, hkm⟩ := HA.out
  have HT : Hid (l.map (·.1) = list.take k ∧ thingsB (fun x : SemD => x.id) (fun x : SemD => semB x) 0 (list.take k) = true ∧ (k : Int) ≤ max most 0) := ⟨hlm, hth, hkm⟩
  have HI : Hid (ShIn semVs (fun x : SemD => x.id) 49 113 w wr most l) := hin
  clear HA hlm hin hth hkm
  by_cases hlt : k < list.length
  ·have i0 : (0 : Int) ≤ (k : Int) := by omega
   have i1 : (k : Int) < (list.length : Int) := by omega
   obtain ⟨x, hx⟩ : ∃ x, list[k]? = some x := ⟨_, List.getElem?_eq_getElem hlt⟩
   have hmem := List.mem_of_getElem? hx
   have HX : Hid (list[k]? = some x) := hx
   have HF : Hid (SemFit w x ∧ (Lit.int .i64 x.id).wf = true) := ⟨HL.out.2.1 x hmem, HL.out.2.2 x hmem⟩
   obtain ⟨gs, ha, hat⟩ := sem_at (HL.out.1.below HI.out.bel) hx
   obtain ⟨c0, c1, c2⟩ := hat
   subst ha
   clear hx hmem
   go_wp2_with fail
   refine (numberSem_any x _).mono ?_
   rintro e w2 ⟨rfl, hb2⟩
   have HI2 : Hid (ShIn semVs (fun x : SemD => x.id) 49 113 w w2 most l) := (HI.out.below ((Below.refl _ wr).alloc (Nat.le_refl _) (.cells #[.int .i64 x.id, .int .i64 x.n, .int .i64 x.max] 49))).below hb2
   have HB : Hid (w2.heap[wr.heap.size]? = some (.cells (semVs x) 49 (0, 0))) := (hb2.block _ (by simp)).trans (heap_alloc_new _ _)
   have HZ : Hid (w.heap.size + 1 < wr.heap.size) := by show w.heap.size + 1 < wr.heap.size; have := (Array.getElem?_eq_some_iff.1 HI.out.var).1; omega
   clear hb2 HI c0 c1 c2
   obtain ⟨d0, d1, d2⟩ := sem_cells HB.out
   obtain ⟨r0, r1, v0, v1, z0, z1⟩ := HI2.out.cells
   by_cases hle : x.id ≤ lastOf (fun x : SemD => x.id) 0 (list.take k)
   ·have HN : Hid ((thingsB (fun x : SemD => x.id) (fun x : SemD => semB x) 0 list && decide ((list.length : Int) ≤ max most 0)) = false) := by
     show _ = false
     rw [things_no HX.out (fun hh => absurd hh.2.1 (by show ¬ lastOf (fun x : SemD => x.id) 0 (list.take k) < x.id; omega))]; rfl
    go_wp2
    refine bodyPost_ret (v := .tuple #[.agg #[.int .i64 0, .map none], .bool false]) (by simp [results, Tryz.results148, go_sem, *]) rfl ?_
    exact ⟨(HI2.out.away _ _).2, .inl ⟨HN.out, rfl⟩⟩
   have HLT : Hid (lastOf (fun x : SemD => x.id) 0 (list.take k) < x.id) := by show _ < _; omega
   have hkl : (keysOf (fun x : SemD => x.id) l).length ≤ 1048576 := by
    rw [keysOf_length]
    have := congrArg List.length HT.out.1
    simp only [List.length_map, List.length_take] at this
    omega
   go_wp2_with fail
   refine (laySem_any most (w.heap.size + 1) (keysOf (fun x : SemD => x.id) l) x w2 HI2.out.shelf.map HF.out.2 hkl (HF.out.1.below HI2.out.bel)).mono ?_
   rintro e w3 ⟨rfl, hno, hyes⟩
   cases hlay : layB most (keysOf (fun x : SemD => x.id) l) x.id (semB x) with
   | false =>
    have HN : Hid ((thingsB (fun x : SemD => x.id) (fun x : SemD => semB x) 0 list && decide ((list.length : Int) ≤ max most 0)) = false) := things_lay_no HX.out HT.out.1 HT.out.2.1 HLT.out hlay
    have HI3 : Hid (ShIn semVs (fun x : SemD => x.id) 49 113 w w3 most l) := HI2.out.below (hno hlay)
    clear hno hyes hlay HI2 r0 r1 v0 v1 z0 z1 d0 d1 d2 HB
    obtain ⟨r0, r1, v0, v1, z0, z1⟩ := HI3.out.cells
    go_wp2
    refine bodyPost_ret (v := .tuple #[.agg #[.int .i64 0, .map none], .bool false]) (by simp [results, Tryz.results148, go_sem, *]) rfl ?_
    exact ⟨(HI3.out.away _ _).2, .inl ⟨HN.out, rfl⟩⟩
   | true =>
    have HY : Hid (thingsB (fun x : SemD => x.id) (fun x : SemD => semB x) 0 (list.take (k + 1)) = true ∧ ((k + 1 : Nat) : Int) ≤ max most 0) := things_lay_yes HX.out HT.out.1 HT.out.2.1 HLT.out hlay
    obtain ⟨g, hin4⟩ := HI2.out.lay (x := x) (e := .returned (.bool true)) (w' := w3) ⟨rfl, (fun h => by cases h), fun _ => hyes hlay⟩ (rises_last HT.out.1 HT.out.2.1 HLT.out)
    have HI4 : Hid (ShIn semVs (fun x : SemD => x.id) 49 113 w w3 most (l ++ [(x, g)])) := hin4
    have HB3 : Hid (w3.heap[wr.heap.size]? = some (.cells (semVs x) 49 (0, 0))) := by
     obtain ⟨g', _, _, _, hgr⟩ := hyes hlay
     exact (hgr.block _ (Array.getElem?_eq_some_iff.1 HB.out).1 (fun e => by have := Option.some.inj e; have := HZ.out; omega)).trans HB.out
    clear hno hyes hlay HI2 r0 r1 v0 v1 z0 z1 d0 d1 d2 HB hin4
    obtain ⟨d0, d1, d2⟩ := sem_cells HB3.out
    go_wp2_with fail
    refine (numberSem_any x _).mono ?_
    rintro e w5 ⟨rfl, hb5⟩
    have HI5 : Hid (ShIn semVs (fun x : SemD => x.id) 49 113 w w5 most (l ++ [(x, g)])) := HI4.out.below hb5
    have HE : Hid (lastOf (fun x : SemD => x.id) 0 (list.take (k + 1)) = x.id) := lastOf_take HX.out 0
    clear hb5 HI4
    go_wp2
    go_roundw
    case rel => exact ⟨k + 1, by omega, by go_num, by rw [HE.out], ⟨l ++ [(x, g)], by rw [List.map_append, HT.out.1, take_up HX.out]; rfl, HI5.out, HY.out.1, HY.out.2⟩⟩
    case measure => simp [intOf]; omega
  ·have i1 : ¬ (k : Int) < (list.length : Int) := by omega
   have HK : Hid (list.take k = list ∧ ((list.length : Int) ≤ max most 0)) := ⟨List.take_of_length_le (by omega), by have := HT.out.2.2; omega⟩
   have HY : Hid ((thingsB (fun x : SemD => x.id) (fun x : SemD => semB x) 0 list && decide ((list.length : Int) ≤ max most 0)) = true) := by
    show _ = true
    have h1 := HT.out.2.1
    rw [HK.out.1] at h1
    rw [h1, decide_eq_true HK.out.2]; rfl
   obtain ⟨r0, r1, v0, v1, z0, z1⟩ := HI.out.cells
   go_wp2
   refine bodyPost_ret (v := .tuple #[.agg #[.int .i64 most, .map (some (w.heap.size + 1))], .bool true]) (by simp [results, Tryz.results148, go_sem, *]) rfl ?_
   exact ⟨(HI.out.away _ _).2, .inr ⟨HY.out, w.heap.size + 1, l, rfl, by rw [HT.out.1, HK.out.1], (HI.out.away _ _).1⟩⟩
end Go.Proofs.YtkbcplnlehdjfaaGreat

/- Laying a thing of the kind Event into its shelf. (Made by mkshelf.py.) -/
namespace Go.Proofs.YtkbcplnlehdjfaaGreat
open Go.RowKit
attribute [local go_sem ↓] Go.wp_at_zero Go.wp_at_succ
/-- What every order of laying in keeps. -/
def LaySEvent (w : World) (b : Nat) (m : MapL) (most : Int) (x : EventD) (w' : World) : Prop := (w'.cell? ⟨w.heap.size, 0, none⟩ = some (.int .i64 most) ∧ w'.cell? ⟨w.heap.size, 1, none⟩ = some (.map (some b)) ∧ (∀ ty, (Builtin.len_ #[114] ty #[.map (some b)]).run Tryz.prog w' = .ok (.int .i64 (m.length : Int)) w') ∧ w'.cell? ⟨w.heap.size + 1, 0, none⟩ = some (.int .i64 x.id) ∧ w'.cell? ⟨w.heap.size + 1, 1, none⟩ = some (.bool x.up)) ∧ Hid (LayIn w w' w.heap.size (w.heap.size + 1) b m most (eventVs x) 138 116) ∧ Hid (EventFit w' x)
theorem laySEvent_of {w w' : World} {b : Nat} {m : MapL} {most : Int} {x : EventD} (h : LayIn w w' w.heap.size (w.heap.size + 1) b m most (eventVs x) 138 116) (hf : EventFit w' x) : LaySEvent w b m most x w' :=
 ⟨⟨h.cells.1, h.cells.2, fun ty => h.mp.len Tryz.underlying114 ty, event_cells h.bx⟩, h, hf⟩
set_option maxRecDepth 100000 in
set_option maxHeartbeats 16000000 in
theorem layEvent_any (most : Int) (b : Nat) (m : MapL) (x : EventD) (w : World) (h : MapIs w b m) (hw : (Lit.int .i64 x.id).wf = true) (hm : m.length ≤ 1048576) (hf : EventFit w x) :
  Calls Tryz.prog 90 #[.agg #[.int .i64 most, .map (some b)], .agg (eventVs x)] w fun e w' => LayEnds w b m (layB most m x.id (eventB x)) x.id (eventVs x) 138 e w' := by
 have HF : Hid (LayIn w ((w.alloc (.cells #[.int .i64 most, .map (some b)] 116)).alloc (.cells (eventVs x) 138)) w.heap.size (w.heap.size + 1) b m most (eventVs x) 138 116) := LayIn.start w h most _ _ _
 have HW : Hid ((Lit.int .i64 x.id).wf = true ∧ ¬ w.heap.size + 1 = b ∧ m.length ≤ 1048576) := ⟨hw, by have := h.lt; omega, hm⟩
 have HI : Hid (EventFit ((w.alloc (.cells #[.int .i64 most, .map (some b)] 116)).alloc (.cells (eventVs x) 138)) x) := hf.below ((((Below.refl _ w).alloc (Nat.le_refl _) _)).alloc (by simp) _)
 have hmn := meth_numberEvent
 have hmr := meth_rightEvent
 obtain ⟨s0, s1⟩ := HF.out.cells
 obtain ⟨c0, c1⟩ := event_cells HF.out.bx
 clear h hw hf hm
 unfold eventVs at *
 go_enter Tryz.func90, Tryz.ntmps90
 go_wp2_with fail
 clear s0 s1 c0 c1
 obtain ⟨vA, hA⟩ : ∃ v, (lookM m x.id).isSome = v := ⟨_, rfl⟩
 obtain ⟨vB, hBd⟩ : ∃ v, decide (most ≤ (m.length : Int)) = v := ⟨_, rfl⟩
 obtain ⟨vC, hC⟩ : ∃ v, inB x.id 1 1000 = v := ⟨_, rfl⟩
 obtain ⟨vD, hD⟩ : ∃ v, eventB x = v := ⟨_, rfl⟩
 have HL : Hid (layB most m x.id (eventB x) = (!vA && !vB && vC && vD) ∧ (vA = false → lookM m x.id = none)) := ⟨layB_of hA hBd hC hD, fun e => Option.isNone_iff_eq_none.1 (Option.isSome_eq_false_iff.1 (hA.trans e))⟩
 have HA : Hid (Ending.returned (.bool (lookM m x.id).isSome) = .returned (.bool vA)) := ret_bool hA
 have HC : Hid (Ending.returned (.bool (inB x.id 1 1000)) = .returned (.bool vC)) := ret_bool hC
 have HD : Hid (Ending.returned (.bool (eventB x)) = .returned (.bool vD)) := ret_bool hD
 clear hA hC hD
 refine tame_region (LaySEvent w b m most x) (by kernel_rfl) (laySEvent_of HF.out.drew (HI.out.below (Below.refl _ _).drew)) ?_
 iterate 3 (refine yl (v := ?_) ?_ ?_; rotate_left; (intro w0 hS0; obtain ⟨⟨q0, q1, q2, q3, q4⟩, hH⟩ := hS0; go_simp; try with_reducible rfl); simp only [pt, sb, s0, s1])
 (refine cl (.int .i64 x.id) 307 #[.agg #[.int .i64 x.id, .bool x.up]] ?_ ?_ ?_; (intro w0 hS0; obtain ⟨⟨q0, q1, q2, q3, q4⟩, hH⟩ := hS0; go_simp; try with_reducible rfl); (intro w0 hS0; refine (numberEvent_any x w0).mono ?_; rintro e w2 ⟨rfl, hb2⟩; exact ⟨rfl, laySEvent_of (hS0.2.1.out.below hb2) (hS0.2.2.out.below hb2)⟩); simp only [pt, sb, s0, s1])
 (refine cl (.bool vA) 176 #[.agg #[.int .i64 most, .map (some b)], .int .i64 x.id] ?_ ?_ ?_; (intro w0 hS0; obtain ⟨⟨q0, q1, q2, q3, q4⟩, hH⟩ := hS0; go_simp; try with_reducible rfl); (intro w0 hS0; refine (hasEvent_any most b m x.id w0 hS0.2.1.out.mp HW.out.1).mono ?_; rintro e w2 ⟨rfl, hb2⟩; exact ⟨HA.out, laySEvent_of (hS0.2.1.out.below hb2) (hS0.2.2.out.below hb2)⟩); simp only [pt, sb, s0, s1])
 (refine yl (v := ?_) ?_ ?_; rotate_left; (intro w0 hS0; obtain ⟨⟨q0, q1, q2, q3, q4⟩, hH⟩ := hS0; go_simp; try with_reducible rfl); simp only [pt, sb, s0, s1])
 rcases vA.eq_false_or_eq_true with rfl | rfl
 focus iterate 6 (refine nl ?_; simp only [pt, sb, s0, s1])
 rotate_left
 focus iterate 6 (refine yl (v := ?_) ?_ ?_; rotate_left; (intro w0 hS0; obtain ⟨⟨q0, q1, q2, q3, q4⟩, hH⟩ := hS0; go_simp; try with_reducible rfl); simp only [pt, sb, s0, s1])
 all_goals iterate 2 (refine yl (v := ?_) ?_ ?_; rotate_left; (intro w0 hS0; obtain ⟨⟨q0, q1, q2, q3, q4⟩, hH⟩ := hS0; go_simp; try with_reducible rfl); simp only [pt, sb, s0, s1])
 rcases vB.eq_false_or_eq_true with rfl | rfl
 focus iterate 5 (refine nl ?_; simp only [pt, sb, s0, s1])
 rotate_left
 focus
  iterate 2 (refine yl (v := ?_) ?_ ?_; rotate_left; (intro w0 hS0; obtain ⟨⟨q0, q1, q2, q3, q4⟩, hH⟩ := hS0; go_simp; try with_reducible rfl); simp only [pt, sb, s0, s1])
  (refine cl (.int .i64 x.id) 307 #[.agg #[.int .i64 x.id, .bool x.up]] ?_ ?_ ?_; (intro w0 hS0; obtain ⟨⟨q0, q1, q2, q3, q4⟩, hH⟩ := hS0; go_simp; try with_reducible rfl); (intro w0 hS0; refine (numberEvent_any x w0).mono ?_; rintro e w2 ⟨rfl, hb2⟩; exact ⟨rfl, laySEvent_of (hS0.2.1.out.below hb2) (hS0.2.2.out.below hb2)⟩); simp only [pt, sb, s0, s1])
  (refine cl (.bool vC) 164 #[.int .i64 x.id] ?_ ?_ ?_; (intro w0 hS0; obtain ⟨⟨q0, q1, q2, q3, q4⟩, hH⟩ := hS0; go_simp; try with_reducible rfl); (intro w0 hS0; refine (isNumber_any x.id w0).mono ?_; rintro e w2 ⟨rfl, rfl⟩; exact ⟨HC.out, hS0⟩); simp only [pt, sb, s0, s1])
  (refine yl (v := ?_) ?_ ?_; rotate_left; (intro w0 hS0; obtain ⟨⟨q0, q1, q2, q3, q4⟩, hH⟩ := hS0; go_simp; try with_reducible rfl); simp only [pt, sb, s0, s1])
 rotate_left
 focus iterate 5 (refine nl ?_; simp only [pt, sb, s0, s1])
 all_goals iterate 2 (refine yl (v := ?_) ?_ ?_; rotate_left; (intro w0 hS0; obtain ⟨⟨q0, q1, q2, q3, q4⟩, hH⟩ := hS0; go_simp; try with_reducible rfl); simp only [pt, sb, s0, s1])
 rotate_right
 rcases vC.eq_false_or_eq_true with rfl | rfl
 focus
  iterate 2 (refine yl (v := ?_) ?_ ?_; rotate_left; (intro w0 hS0; obtain ⟨⟨q0, q1, q2, q3, q4⟩, hH⟩ := hS0; go_simp; try with_reducible rfl); simp only [pt, sb, s0, s1])
  (refine cl (.bool vD) 308 #[.agg #[.int .i64 x.id, .bool x.up]] ?_ ?_ ?_; (intro w0 hS0; obtain ⟨⟨q0, q1, q2, q3, q4⟩, hH⟩ := hS0; go_simp; try with_reducible rfl); (intro w0 hS0; refine (rightEvent_any x w0 hS0.2.2.out).mono ?_; rintro e w2 ⟨rfl, hb2⟩; exact ⟨HD.out, laySEvent_of (hS0.2.1.out.below hb2) (hS0.2.2.out.below hb2)⟩); simp only [pt, sb, s0, s1])
  (refine yl (v := ?_) ?_ ?_; rotate_left; (intro w0 hS0; obtain ⟨⟨q0, q1, q2, q3, q4⟩, hH⟩ := hS0; go_simp; try with_reducible rfl); simp only [pt, sb, s0, s1])
 rotate_left
 focus iterate 4 (refine nl ?_; simp only [pt, sb, s0, s1])
 rotate_left
 focus iterate 4 (refine nl ?_; simp only [pt, sb, s0, s1])
 rotate_left
 focus iterate 4 (refine nl ?_; simp only [pt, sb, s0, s1])
 rotate_left
 all_goals (refine yl (v := ?_) ?_ ?_; rotate_left; (intro w0 hS0; obtain ⟨⟨q0, q1, q2, q3, q4⟩, hH⟩ := hS0; go_simp; try with_reducible rfl); simp only [pt, sb, s0, s1])
 all_goals refine tame_done (by kernel_rfl) ?_ _
 all_goals intro w1 hS1
 rcases vD.eq_false_or_eq_true with rfl | rfl
 rotate_left
 iterate 4
  go_wp2
  go_ret
  exact layEnds_no HL.out.1 hS1.2.1.out.bel
 go_wp2_with fail
 refine last_region (LaySEvent w b m most x) 5 (by kernel_rfl) (laySEvent_of hS1.2.1.out.drew (hS1.2.2.out.below (Below.refl _ _).drew)) ?_
 iterate 4 (refine ly 6 (v := ?_) (some _) rfl rfl (by kernel_rfl) (fun _ _ _ h => h) (does_yield (by kernel_rfl) ?_) ?_; rotate_left; (intro w0 hS0; obtain ⟨⟨q0, q1, q2, q3, q4⟩, hH⟩ := hS0; go_simp; try with_reducible rfl); simp only [pt, sb, s0, s1])
 refine ly 6 (v := .int .i64 x.id) (some _) rfl rfl (by kernel_rfl) (fun _ _ _ h => h) (does_call (f := 307) (args := #[.agg #[.int .i64 x.id, .bool x.up]]) (by kernel_rfl) ?_ ?_) ?_
 ·intro w0 hS0
  obtain ⟨⟨q0, q1, q2, q3, q4⟩, hH⟩ := hS0
  go_simp
  try with_reducible rfl
 ·intro w0 hS0
  refine (numberEvent_any x w0).mono ?_
  rintro e w2 ⟨rfl, hb2⟩
  exact ⟨rfl, laySEvent_of (hS0.2.1.out.below hb2) (hS0.2.2.out.below hb2)⟩
 simp only [pt, sb, s0, s1]
 refine last_done rfl (by kernel_rfl) (by kernel_rfl) (by kernel_rfl) ?_
 intro w1 hS1
 obtain ⟨w2, hput, hend⟩ := hS1.2.1.out.put (by omega) Tryz.underlying114 HW.out.1 (HL.out.2 (by trivial)) HW.out.2.2 HW.out.2.1
 have HE : Hid (LayEnds w b m true x.id (eventVs x) 138 (.returned (.bool true)) w2) := hend
 clear hend hS1
 go_simp
 go_wp2
 go_ret
 rw [HL.out.1]
 exact HE.out
end Go.Proofs.YtkbcplnlehdjfaaGreat

/- A shelf of a list of things of the kind Event. (Made by mkshelfof.py.) -/
namespace Go.Proofs.YtkbcplnlehdjfaaGreat
open Go.RowKit
attribute [local go_sem ↓] Go.wp_at_zero Go.wp_at_succ
/-- What holds at the head of each round. -/
def ShEventAt (w : World) (most : Int) (list : List EventD) (k : Nat) (wr : World) : Prop :=
 ∃ l : List (EventD × Nat), l.map (·.1) = list.take k ∧ ShIn eventVs (fun x : EventD => x.id) 138 116 w wr most l ∧ thingsB (fun x : EventD => x.id) (fun x : EventD => eventB x) 0 (list.take k) = true ∧ (k : Int) ≤ max most 0
set_option maxRecDepth 100000 in
set_option maxHeartbeats 4000000 in
theorem shelfOfEvent_any (a : Option Addr) (list : List EventD) (cap : Nat) (most : Int) (w : World) (hl : list.length ≤ 1048576) (h : eventK.Lies w a list) (hf : ∀ x ∈ list, EventFit w x) (hw : ∀ x ∈ list, (Lit.int .i64 x.id).wf = true) :
  Calls Tryz.prog 149 #[.slice a list.length cap, .int .i64 most] w fun e w' => ShelfEnds eventVs (fun x : EventD => x.id) 138 w most (thingsB (fun x : EventD => x.id) (fun x : EventD => eventB x) 0 list && decide ((list.length : Int) ≤ max most 0)) list e w' := by
 have hmk := run_makeMap (P := Tryz.prog) 114
 have hmn := meth_numberEvent
 have H0 : Hid (ShIn eventVs (fun x : EventD => x.id) 138 116 w (((w.alloc (.cells #[.int .i64 0, .map none] 116)).alloc (.map #[] 0)).alloc (.cells #[.int .i64 most, .map (some (w.heap.size + 1))] 116)) most []) := ShIn.start 116 w most
 have HL : Hid (eventK.Lies w a list ∧ (∀ x ∈ list, EventFit w x) ∧ ∀ x ∈ list, (Lit.int .i64 x.id).wf = true) := ⟨h, hf, hw⟩
 clear h hf hw
 go_enter Tryz.func149, Tryz.ntmps149
 go_wp2_with fail
 go_loopw [7, 15] (fun last i wr => ∃ k : Nat, k ≤ list.length ∧ i = .int .i64 k ∧ last = .int .i64 (lastOf (fun x : EventD => x.id) 0 (list.take k)) ∧ Hid (ShEventAt w most list k wr)) (fun _ i _ => list.length - (intOf i).toNat)
 case atStart => exact ⟨0, Nat.zero_le _, rfl, rfl, ⟨[], by simp, H0.out, rfl, by simp; omega⟩⟩
 case round =>
  clear H0 hmk
  obtain ⟨k, hk, rfl, rfl, HA⟩ := hrel
  obtain ⟨l, hlm, hin, hth, hkm⟩ := HA.out
  have HT : Hid (l.map (·.1) = list.take k ∧ thingsB (fun x : EventD => x.id) (fun x : EventD => eventB x) 0 (list.take k) = true ∧ (k : Int) ≤ max most 0) := ⟨hlm, hth, hkm⟩
  have HI : Hid (ShIn eventVs (fun x : EventD => x.id) 138 116 w wr most l) := hin
  clear HA hlm hin hth hkm
  by_cases hlt : k < list.length
  ·have i0 : (0 : Int) ≤ (k : Int) := by omega
   have i1 : (k : Int) < (list.length : Int) := by omega
   obtain ⟨x, hx⟩ : ∃ x, list[k]? = some x := ⟨_, List.getElem?_eq_getElem hlt⟩
   have hmem := List.mem_of_getElem? hx
   have HX : Hid (list[k]? = some x) := hx
   have HF : Hid (EventFit w x ∧ (Lit.int .i64 x.id).wf = true) := ⟨HL.out.2.1 x hmem, HL.out.2.2 x hmem⟩
   obtain ⟨gs, ha, hat⟩ := event_at (HL.out.1.below HI.out.bel) hx
   obtain ⟨c0, c1⟩ := hat
   subst ha
   clear hx hmem
   go_wp2_with fail
   refine (numberEvent_any x _).mono ?_
   rintro e w2 ⟨rfl, hb2⟩
   have HI2 : Hid (ShIn eventVs (fun x : EventD => x.id) 138 116 w w2 most l) := (HI.out.below ((Below.refl _ wr).alloc (Nat.le_refl _) (.cells #[.int .i64 x.id, .bool x.up] 138))).below hb2
   have HB : Hid (w2.heap[wr.heap.size]? = some (.cells (eventVs x) 138 (0, 0))) := (hb2.block _ (by simp)).trans (heap_alloc_new _ _)
   have HZ : Hid (w.heap.size + 1 < wr.heap.size) := by show w.heap.size + 1 < wr.heap.size; have := (Array.getElem?_eq_some_iff.1 HI.out.var).1; omega
   clear hb2 HI c0 c1
   obtain ⟨d0, d1⟩ := event_cells HB.out
   obtain ⟨r0, r1, v0, v1, z0, z1⟩ := HI2.out.cells
   by_cases hle : x.id ≤ lastOf (fun x : EventD => x.id) 0 (list.take k)
   ·have HN : Hid ((thingsB (fun x : EventD => x.id) (fun x : EventD => eventB x) 0 list && decide ((list.length : Int) ≤ max most 0)) = false) := by
     show _ = false
     rw [things_no HX.out (fun hh => absurd hh.2.1 (by show ¬ lastOf (fun x : EventD => x.id) 0 (list.take k) < x.id; omega))]; rfl
    go_wp2
    refine bodyPost_ret (v := .tuple #[.agg #[.int .i64 0, .map none], .bool false]) (by simp [results, Tryz.results149, go_sem, *]) rfl ?_
    exact ⟨(HI2.out.away _ _).2, .inl ⟨HN.out, rfl⟩⟩
   have HLT : Hid (lastOf (fun x : EventD => x.id) 0 (list.take k) < x.id) := by show _ < _; omega
   have hkl : (keysOf (fun x : EventD => x.id) l).length ≤ 1048576 := by
    rw [keysOf_length]
    have := congrArg List.length HT.out.1
    simp only [List.length_map, List.length_take] at this
    omega
   go_wp2_with fail
   refine (layEvent_any most (w.heap.size + 1) (keysOf (fun x : EventD => x.id) l) x w2 HI2.out.shelf.map HF.out.2 hkl (HF.out.1.below HI2.out.bel)).mono ?_
   rintro e w3 ⟨rfl, hno, hyes⟩
   cases hlay : layB most (keysOf (fun x : EventD => x.id) l) x.id (eventB x) with
   | false =>
    have HN : Hid ((thingsB (fun x : EventD => x.id) (fun x : EventD => eventB x) 0 list && decide ((list.length : Int) ≤ max most 0)) = false) := things_lay_no HX.out HT.out.1 HT.out.2.1 HLT.out hlay
    have HI3 : Hid (ShIn eventVs (fun x : EventD => x.id) 138 116 w w3 most l) := HI2.out.below (hno hlay)
    clear hno hyes hlay HI2 r0 r1 v0 v1 z0 z1 d0 d1 HB
    obtain ⟨r0, r1, v0, v1, z0, z1⟩ := HI3.out.cells
    go_wp2
    refine bodyPost_ret (v := .tuple #[.agg #[.int .i64 0, .map none], .bool false]) (by simp [results, Tryz.results149, go_sem, *]) rfl ?_
    exact ⟨(HI3.out.away _ _).2, .inl ⟨HN.out, rfl⟩⟩
   | true =>
    have HY : Hid (thingsB (fun x : EventD => x.id) (fun x : EventD => eventB x) 0 (list.take (k + 1)) = true ∧ ((k + 1 : Nat) : Int) ≤ max most 0) := things_lay_yes HX.out HT.out.1 HT.out.2.1 HLT.out hlay
    obtain ⟨g, hin4⟩ := HI2.out.lay (x := x) (e := .returned (.bool true)) (w' := w3) ⟨rfl, (fun h => by cases h), fun _ => hyes hlay⟩ (rises_last HT.out.1 HT.out.2.1 HLT.out)
    have HI4 : Hid (ShIn eventVs (fun x : EventD => x.id) 138 116 w w3 most (l ++ [(x, g)])) := hin4
    have HB3 : Hid (w3.heap[wr.heap.size]? = some (.cells (eventVs x) 138 (0, 0))) := by
     obtain ⟨g', _, _, _, hgr⟩ := hyes hlay
     exact (hgr.block _ (Array.getElem?_eq_some_iff.1 HB.out).1 (fun e => by have := Option.some.inj e; have := HZ.out; omega)).trans HB.out
    clear hno hyes hlay HI2 r0 r1 v0 v1 z0 z1 d0 d1 HB hin4
    obtain ⟨d0, d1⟩ := event_cells HB3.out
    go_wp2_with fail
    refine (numberEvent_any x _).mono ?_
    rintro e w5 ⟨rfl, hb5⟩
    have HI5 : Hid (ShIn eventVs (fun x : EventD => x.id) 138 116 w w5 most (l ++ [(x, g)])) := HI4.out.below hb5
    have HE : Hid (lastOf (fun x : EventD => x.id) 0 (list.take (k + 1)) = x.id) := lastOf_take HX.out 0
    clear hb5 HI4
    go_wp2
    go_roundw
    case rel => exact ⟨k + 1, by omega, by go_num, by rw [HE.out], ⟨l ++ [(x, g)], by rw [List.map_append, HT.out.1, take_up HX.out]; rfl, HI5.out, HY.out.1, HY.out.2⟩⟩
    case measure => simp [intOf]; omega
  ·have i1 : ¬ (k : Int) < (list.length : Int) := by omega
   have HK : Hid (list.take k = list ∧ ((list.length : Int) ≤ max most 0)) := ⟨List.take_of_length_le (by omega), by have := HT.out.2.2; omega⟩
   have HY : Hid ((thingsB (fun x : EventD => x.id) (fun x : EventD => eventB x) 0 list && decide ((list.length : Int) ≤ max most 0)) = true) := by
    show _ = true
    have h1 := HT.out.2.1
    rw [HK.out.1] at h1
    rw [h1, decide_eq_true HK.out.2]; rfl
   obtain ⟨r0, r1, v0, v1, z0, z1⟩ := HI.out.cells
   go_wp2
   refine bodyPost_ret (v := .tuple #[.agg #[.int .i64 most, .map (some (w.heap.size + 1))], .bool true]) (by simp [results, Tryz.results149, go_sem, *]) rfl ?_
   exact ⟨(HI.out.away _ _).2, .inr ⟨HY.out, w.heap.size + 1, l, rfl, by rw [HT.out.1, HK.out.1], (HI.out.away _ _).1⟩⟩
end Go.Proofs.YtkbcplnlehdjfaaGreat
