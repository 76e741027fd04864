/- What the proof leans on, part 13: LyProc, AlProc. -/
import Derived.Test.YtkbcplnlehdjfaaGreatOwnCh1
import Derived.Test.YtkbcplnlehdjfaaGreatOwnCh7
import Derived.Test.YtkbcplnlehdjfaaGreatOwnCh9
import Derived.Test.YtkbcplnlehdjfaaGreatOwnCh11

namespace Go.Proofs.YtkbcplnlehdjfaaGreat
open Go.RowKit
attribute [local go_sem ↓] Go.wp_at_zero Go.wp_at_succ
def LaySProc (w : World) (b : Nat) (m : MapL) (most : Int) (x : ProcD) (w' : World) : Prop := (w'.cell? ⟨w.heap.size, 0, none⟩ = some (.int .i64 most) ∧ w'.cell? ⟨w.heap.size, 1, none⟩ = some (.map (some b)) ∧ (∀ ty, (Builtin.len_ #[108] ty #[.map (some b)]).run Tryz.prog w' = .ok (.int .i64 (m.length : Int)) w') ∧ w'.cell? ⟨w.heap.size + 1, 0, none⟩ = some (.int .i64 x.id) ∧ w'.cell? ⟨w.heap.size + 1, 1, none⟩ = some (.int .i64 x.prio) ∧ w'.cell? ⟨w.heap.size + 1, 2, none⟩ = some (.slice x.progA x.prog.length x.progC) ∧ w'.cell? ⟨w.heap.size + 1, 3, none⟩ = some (.int .i64 x.state) ∧ w'.cell? ⟨w.heap.size + 1, 4, none⟩ = some (.int .i64 x.pc) ∧ w'.cell? ⟨w.heap.size + 1, 5, none⟩ = some (.int .i64 x.left) ∧ w'.cell? ⟨w.heap.size + 1, 6, none⟩ = some (.int .i64 x.wake) ∧ w'.cell? ⟨w.heap.size + 1, 7, none⟩ = some (.int .i64 x.on) ∧ w'.cell? ⟨w.heap.size + 1, 8, none⟩ = some (.string x.held) ∧ w'.cell? ⟨w.heap.size + 1, 9, none⟩ = some (.string x.got) ∧ w'.cell? ⟨w.heap.size + 1, 10, none⟩ = some (.int .i64 x.code) ∧ w'.cell? ⟨w.heap.size + 1, 11, none⟩ = some (.int .i64 x.since)) ∧ Hid (LayIn w w' w.heap.size (w.heap.size + 1) b m most (procVs x) 43 110) ∧ Hid (ProcFit w' x)
theorem laySProc_of {w w' : World} {b : Nat} {m : MapL} {most : Int} {x : ProcD} (h : LayIn w w' w.heap.size (w.heap.size + 1) b m most (procVs x) 43 110) (hf : ProcFit w' x) : LaySProc w b m most x w' :=
 ⟨⟨h.cells.1, h.cells.2, fun ty => h.mp.len Tryz.underlying108 ty, proc_cells h.bx⟩, h, hf⟩
set_option maxRecDepth 100000 in
set_option maxHeartbeats 16000000 in
theorem layProc_any (most : Int) (b : Nat) (m : MapL) (x : ProcD) (w : World) (h : MapIs w b m) (hw : (Lit.int .i64 x.id).wf = true) (hm : m.length ≤ 1048576) (hf : ProcFit w x) :
  Calls Tryz.prog 84 #[.agg #[.int .i64 most, .map (some b)], .agg (procVs x)] w fun e w' => LayEnds w b m (layB most m x.id (procB x.toProcP)) x.id (procVs x) 43 e w' := by
 have HF : Hid (LayIn w ((w.alloc (.cells #[.int .i64 most, .map (some b)] 110)).alloc (.cells (procVs x) 43)) w.heap.size (w.heap.size + 1) b m most (procVs x) 43 110) := LayIn.start w h most _ _ _
 have HW : Hid ((Lit.int .i64 x.id).wf = true ∧ ¬ w.heap.size + 1 = b ∧ m.length ≤ 1048576) := ⟨hw, by have := h.lt; omega, hm⟩
 have HI : Hid (ProcFit ((w.alloc (.cells #[.int .i64 most, .map (some b)] 110)).alloc (.cells (procVs x) 43)) x) := hf.below ((((Below.refl _ w).alloc (Nat.le_refl _) _)).alloc (by simp) _)
 have hmn := meth_numberProc
 have hmr := meth_rightProc
 obtain ⟨s0, s1⟩ := HF.out.cells
 obtain ⟨c0, c1, c2, c3, c4, c5, c6, c7, c8, c9, c10, c11⟩ := proc_cells HF.out.bx
 clear h hw hf hm
 unfold procVs at *
 go_enter Tryz.func84, Tryz.ntmps84
 go_wp2_with fail
 clear s0 s1 c0 c1 c2 c3 c4 c5 c6 c7 c8 c9 c10 c11
 obtain ⟨vA, hA⟩ : ∃ v, (lookM m x.id).isSome = v := ⟨_, rfl⟩
 obtain ⟨vB, hBd⟩ : ∃ v, decide (most ≤ (m.length : Int)) = v := ⟨_, rfl⟩
 obtain ⟨vC, hC⟩ : ∃ v, inB x.id 1 1000 = v := ⟨_, rfl⟩
 obtain ⟨vD, hD⟩ : ∃ v, procB x.toProcP = v := ⟨_, rfl⟩
 have HL : Hid (layB most m x.id (procB x.toProcP) = (!vA && !vB && vC && vD) ∧ (vA = false → lookM m x.id = none)) := ⟨layB_of hA hBd hC hD, fun e => Option.isNone_iff_eq_none.1 (Option.isSome_eq_false_iff.1 (hA.trans e))⟩
 have HA : Hid (Ending.returned (.bool (lookM m x.id).isSome) = .returned (.bool vA)) := ret_bool hA
 have HC : Hid (Ending.returned (.bool (inB x.id 1 1000)) = .returned (.bool vC)) := ret_bool hC
 have HD : Hid (Ending.returned (.bool (procB x.toProcP)) = .returned (.bool vD)) := ret_bool hD
 clear hA hC hD
 refine tame_region (LaySProc w b m most x) (by kernel_rfl) (laySProc_of HF.out.drew (HI.out.below (Below.refl _ _).drew)) ?_
 iterate 3 (refine yl (v := ?_) ?_ ?_; rotate_left; (intro w0 hS0; obtain ⟨⟨q0, q1, q2, q3, q4, q5, q6, q7, q8, q9, q10, q11, q12, q13, q14⟩, hH⟩ := hS0; go_simp; try with_reducible rfl); simp only [pt, sb, s0, s1])
 (refine cl (.int .i64 x.id) 282 #[.agg #[.int .i64 x.id, .int .i64 x.prio, .slice x.progA x.prog.length x.progC, .int .i64 x.state, .int .i64 x.pc, .int .i64 x.left, .int .i64 x.wake, .int .i64 x.on, .string x.held, .string x.got, .int .i64 x.code, .int .i64 x.since]] ?_ ?_ ?_; (intro w0 hS0; obtain ⟨⟨q0, q1, q2, q3, q4, q5, q6, q7, q8, q9, q10, q11, q12, q13, q14⟩, hH⟩ := hS0; go_simp; try with_reducible rfl); (intro w0 hS0; refine (numberProc_any x w0).mono ?_; rintro e w2 ⟨rfl, hb2⟩; exact ⟨rfl, laySProc_of (hS0.2.1.out.below hb2) (hS0.2.2.out.below hb2)⟩); simp only [pt, sb, s0, s1])
 (refine cl (.bool vA) 163 #[.agg #[.int .i64 most, .map (some b)], .int .i64 x.id] ?_ ?_ ?_; (intro w0 hS0; obtain ⟨⟨q0, q1, q2, q3, q4, q5, q6, q7, q8, q9, q10, q11, q12, q13, q14⟩, hH⟩ := hS0; go_simp; try with_reducible rfl); (intro w0 hS0; refine (hasProc_any most b m x.id w0 hS0.2.1.out.mp HW.out.1).mono ?_; rintro e w2 ⟨rfl, hb2⟩; exact ⟨HA.out, laySProc_of (hS0.2.1.out.below hb2) (hS0.2.2.out.below hb2)⟩); simp only [pt, sb, s0, s1])
 (refine yl (v := ?_) ?_ ?_; rotate_left; (intro w0 hS0; obtain ⟨⟨q0, q1, q2, q3, q4, q5, q6, q7, q8, q9, q10, q11, q12, q13, q14⟩, hH⟩ := hS0; go_simp; try with_reducible rfl); simp only [pt, sb, s0, s1])
 rcases vA.eq_false_or_eq_true with rfl | rfl
 focus iterate 6 (refine nl ?_; simp only [pt, sb, s0, s1])
 rotate_left
 focus iterate 6 (refine yl (v := ?_) ?_ ?_; rotate_left; (intro w0 hS0; obtain ⟨⟨q0, q1, q2, q3, q4, q5, q6, q7, q8, q9, q10, q11, q12, q13, q14⟩, hH⟩ := hS0; go_simp; try with_reducible rfl); simp only [pt, sb, s0, s1])
 all_goals iterate 2 (refine yl (v := ?_) ?_ ?_; rotate_left; (intro w0 hS0; obtain ⟨⟨q0, q1, q2, q3, q4, q5, q6, q7, q8, q9, q10, q11, q12, q13, q14⟩, hH⟩ := hS0; go_simp; try with_reducible rfl); simp only [pt, sb, s0, s1])
 rcases vB.eq_false_or_eq_true with rfl | rfl
 focus iterate 5 (refine nl ?_; simp only [pt, sb, s0, s1])
 rotate_left
 focus
  iterate 2 (refine yl (v := ?_) ?_ ?_; rotate_left; (intro w0 hS0; obtain ⟨⟨q0, q1, q2, q3, q4, q5, q6, q7, q8, q9, q10, q11, q12, q13, q14⟩, hH⟩ := hS0; go_simp; try with_reducible rfl); simp only [pt, sb, s0, s1])
  (refine cl (.int .i64 x.id) 282 #[.agg #[.int .i64 x.id, .int .i64 x.prio, .slice x.progA x.prog.length x.progC, .int .i64 x.state, .int .i64 x.pc, .int .i64 x.left, .int .i64 x.wake, .int .i64 x.on, .string x.held, .string x.got, .int .i64 x.code, .int .i64 x.since]] ?_ ?_ ?_; (intro w0 hS0; obtain ⟨⟨q0, q1, q2, q3, q4, q5, q6, q7, q8, q9, q10, q11, q12, q13, q14⟩, hH⟩ := hS0; go_simp; try with_reducible rfl); (intro w0 hS0; refine (numberProc_any x w0).mono ?_; rintro e w2 ⟨rfl, hb2⟩; exact ⟨rfl, laySProc_of (hS0.2.1.out.below hb2) (hS0.2.2.out.below hb2)⟩); simp only [pt, sb, s0, s1])
  (refine cl (.bool vC) 164 #[.int .i64 x.id] ?_ ?_ ?_; (intro w0 hS0; obtain ⟨⟨q0, q1, q2, q3, q4, q5, q6, q7, q8, q9, q10, q11, q12, q13, q14⟩, hH⟩ := hS0; go_simp; try with_reducible rfl); (intro w0 hS0; refine (isNumber_any x.id w0).mono ?_; rintro e w2 ⟨rfl, rfl⟩; exact ⟨HC.out, hS0⟩); simp only [pt, sb, s0, s1])
  (refine yl (v := ?_) ?_ ?_; rotate_left; (intro w0 hS0; obtain ⟨⟨q0, q1, q2, q3, q4, q5, q6, q7, q8, q9, q10, q11, q12, q13, q14⟩, hH⟩ := hS0; go_simp; try with_reducible rfl); simp only [pt, sb, s0, s1])
 rotate_left
 focus iterate 5 (refine nl ?_; simp only [pt, sb, s0, s1])
 all_goals iterate 2 (refine yl (v := ?_) ?_ ?_; rotate_left; (intro w0 hS0; obtain ⟨⟨q0, q1, q2, q3, q4, q5, q6, q7, q8, q9, q10, q11, q12, q13, q14⟩, hH⟩ := hS0; go_simp; try with_reducible rfl); simp only [pt, sb, s0, s1])
 rotate_right
 rcases vC.eq_false_or_eq_true with rfl | rfl
 focus
  iterate 2 (refine yl (v := ?_) ?_ ?_; rotate_left; (intro w0 hS0; obtain ⟨⟨q0, q1, q2, q3, q4, q5, q6, q7, q8, q9, q10, q11, q12, q13, q14⟩, hH⟩ := hS0; go_simp; try with_reducible rfl); simp only [pt, sb, s0, s1])
  (refine cl (.bool vD) 283 #[.agg #[.int .i64 x.id, .int .i64 x.prio, .slice x.progA x.prog.length x.progC, .int .i64 x.state, .int .i64 x.pc, .int .i64 x.left, .int .i64 x.wake, .int .i64 x.on, .string x.held, .string x.got, .int .i64 x.code, .int .i64 x.since]] ?_ ?_ ?_; (intro w0 hS0; obtain ⟨⟨q0, q1, q2, q3, q4, q5, q6, q7, q8, q9, q10, q11, q12, q13, q14⟩, hH⟩ := hS0; go_simp; try with_reducible rfl); (intro w0 hS0; refine (rightProc_any x w0 hS0.2.2.out).mono ?_; rintro e w2 ⟨rfl, hb2⟩; exact ⟨HD.out, laySProc_of (hS0.2.1.out.below hb2) (hS0.2.2.out.below hb2)⟩); simp only [pt, sb, s0, s1])
  (refine yl (v := ?_) ?_ ?_; rotate_left; (intro w0 hS0; obtain ⟨⟨q0, q1, q2, q3, q4, q5, q6, q7, q8, q9, q10, q11, q12, q13, q14⟩, hH⟩ := hS0; go_simp; try with_reducible rfl); simp only [pt, sb, s0, s1])
 rotate_left
 focus iterate 4 (refine nl ?_; simp only [pt, sb, s0, s1])
 rotate_left
 focus iterate 4 (refine nl ?_; simp only [pt, sb, s0, s1])
 rotate_left
 focus iterate 4 (refine nl ?_; simp only [pt, sb, s0, s1])
 rotate_left
 all_goals (refine yl (v := ?_) ?_ ?_; rotate_left; (intro w0 hS0; obtain ⟨⟨q0, q1, q2, q3, q4, q5, q6, q7, q8, q9, q10, q11, q12, q13, q14⟩, hH⟩ := hS0; go_simp; try with_reducible rfl); simp only [pt, sb, s0, s1])
 all_goals refine tame_done (by kernel_rfl) ?_ _
 all_goals intro w1 hS1
 rcases vD.eq_false_or_eq_true with rfl | rfl
 rotate_left
 iterate 4
  go_wp2
  go_ret
  exact layEnds_no HL.out.1 hS1.2.1.out.bel
 go_wp2_with fail
 refine last_region (LaySProc w b m most x) 5 (by kernel_rfl) (laySProc_of hS1.2.1.out.drew (hS1.2.2.out.below (Below.refl _ _).drew)) ?_
 iterate 4 (refine ly 6 (v := ?_) (some _) rfl rfl (by kernel_rfl) (fun _ _ _ h => h) (does_yield (by kernel_rfl) ?_) ?_; rotate_left; (intro w0 hS0; obtain ⟨⟨q0, q1, q2, q3, q4, q5, q6, q7, q8, q9, q10, q11, q12, q13, q14⟩, hH⟩ := hS0; go_simp; try with_reducible rfl); simp only [pt, sb, s0, s1])
 refine ly 6 (v := .int .i64 x.id) (some _) rfl rfl (by kernel_rfl) (fun _ _ _ h => h) (does_call (f := 282) (args := #[.agg #[.int .i64 x.id, .int .i64 x.prio, .slice x.progA x.prog.length x.progC, .int .i64 x.state, .int .i64 x.pc, .int .i64 x.left, .int .i64 x.wake, .int .i64 x.on, .string x.held, .string x.got, .int .i64 x.code, .int .i64 x.since]]) (by kernel_rfl) ?_ ?_) ?_
 ·intro w0 hS0
  obtain ⟨⟨q0, q1, q2, q3, q4, q5, q6, q7, q8, q9, q10, q11, q12, q13, q14⟩, hH⟩ := hS0
  go_simp
  try with_reducible rfl
 ·intro w0 hS0
  refine (numberProc_any x w0).mono ?_
  rintro e w2 ⟨rfl, hb2⟩
  exact ⟨rfl, laySProc_of (hS0.2.1.out.below hb2) (hS0.2.2.out.below hb2)⟩
 simp only [pt, sb, s0, s1]
 refine last_done rfl (by kernel_rfl) (by kernel_rfl) (by kernel_rfl) ?_
 intro w1 hS1
 obtain ⟨w2, hput, hend⟩ := hS1.2.1.out.put (by omega) Tryz.underlying108 HW.out.1 (HL.out.2 (by trivial)) HW.out.2.2 HW.out.2.1
 have HE : Hid (LayEnds w b m true x.id (procVs x) 43 (.returned (.bool true)) w2) := hend
 clear hend hS1
 go_simp
 go_wp2
 go_ret
 rw [HL.out.1]
 exact HE.out
end Go.Proofs.YtkbcplnlehdjfaaGreat

/- The things of a shelf of the kind Proc, in order. (Made by mkall.py.) -/
namespace Go.Proofs.YtkbcplnlehdjfaaGreat
open Go.RowKit Go.Maps Go.Sort Go.Shelf
theorem keysProc_call (mb : Option Nat) (W : World) : Calls Tryz.prog 221 #[.map mb] W fun e w' => e = .returned (.func (.func 232) #[] #[.pointer (some ⟨W.heap.size, 0, none⟩)]) ∧ w' = W.alloc (.cells #[.map mb] 108) :=
 (callsIn_wide (n := 5)).1 (AnyZI.keys_in Tryz.keysProc Fence.wide 5 trivial rfl mb W)
theorem sortedKeysProc_any (Bm b : Nat) (m : MapL) (W : World) (hBm : Bm < W.heap.size) (hc : W.cell? ⟨Bm, 0, none⟩ = some (.map (some b))) (h : MapIs W b m) (hm : m.length ≤ 1048576) :
  Calls Tryz.prog 220 #[.func (.func 232) #[] #[.pointer (some ⟨Bm, 0, none⟩)]] W fun e w' => ∃ v : Value, e = .returned v ∧ w'.ownsRow W.heap.size 2 1 v m.length (m.map fun p => .int .i64 p.1) ∧ Below W.heap.size W w' := by
 have hsz : Maps.size (mapD m) = m.length := size_map m
 have hseq : SeqGives Fence.wide 2 Tryz.prog 232 #[.pointer (some ⟨Bm, 0, none⟩)] encZ (fun ss => ss.Perm (intKeys (mapD m))) (Maps.size (mapD m)) W :=
  AnyZI.keys_gives (ρ := Tryz.keysProc_ren) { Tryz.keysProc with } Fence.wide _ trivial rfl (by omega) Bm b m.length (mapD m) W hBm hc h.1
 have cS := AnyZI.sorted_in Tryz.sortedA Fence.wide 5 trivial trivial trivial trivial rfl (by omega) (Tryz.sortsA _) (enters_of Tryz.func231 (by kernel_rfl) rfl) 232 #[.pointer (some ⟨Bm, 0, none⟩)] trivial (enters_of Tryz.func232 (by kernel_rfl) rfl) _ _ (by rw [hsz]; unfold maxLen; omega) (by rw [hsz]; omega) _ hseq
 change CallsIn _ _ Tryz.prog 220 _ _ _ at cS
 refine (callsIn_wide.1 cS).mono ?_
 rintro e w' ⟨v, ss, rfl, hS, hrow, hnil, hbel⟩
 refine ⟨v, rfl, ?_, hbel⟩
 rw [keys_sorted h.2 hS] at hrow
 have hl : ss.length = m.length := by
  rw [hS.length_eq, keys_int, List.length_map]
 rw [hl, List.map_map] at hrow
 exact hrow
theorem ptrInfoProc : (Tryz.prog.info? 102).map (fun i => (i.zero, i.size, i.bytes)) = some (some (.pointer none), 1, 8) := by kernel_rfl
set_option maxRecDepth 100000 in
set_option maxHeartbeats 2000000 in
theorem allProc_any (most : Int) (b : Nat) (m : MapL) (w : World) (h : MapIs w b m) (hm : m.length ≤ 1048576) (hwf : ∀ p ∈ m, (Lit.int .i64 p.1).wf = true) :
  Calls Tryz.prog 202 #[.agg #[.int .i64 most, .map (some b)]] w fun e w' => ∃ a cap, e = .returned (.slice a m.length cap) ∧ w'.ownsRow w.heap.size 102 1 (.slice a m.length cap) m.length (m.map fun p => ptrV p.2) ∧ Below w.heap.size w w' := by
 obtain ⟨i0, hi, e0⟩ := Option.map_eq_some_iff.1 ptrInfoProc
 simp only [Prod.mk.injEq] at e0
 have HI : Hid (Tryz.prog.info? 102 = some i0 ∧ i0.zero = some (.pointer none) ∧ i0.size = 1 ∧ i0.bytes = 8) := ⟨hi, e0⟩
 have HM : Hid (MapIs w b m ∧ ∀ p ∈ m, (Lit.int .i64 p.1).wf = true) := ⟨h, hwf⟩
 have hbl : b < w.heap.size := h.lt
 clear hi e0 h hwf
 go_enter Tryz.func202, Tryz.ntmps202
 go_wp2_with (go_at_call 221; refine (keysProc_call _ _).mono ?_; rintro e w' ⟨rfl, rfl⟩)
 refine (sortedKeysProc_any (w.heap.size + 1) b m _ (by simp) (by simp) (HM.out.1.below (((Below.refl _ w).alloc (Nat.le_refl _) _).alloc (by simp) _)) hm).mono ?_
 rintro e w2 ⟨v, rfl, hown, hb2⟩
 have HB2 : Hid (Below w.heap.size w w2) := (((Below.refl _ w).alloc (Nat.le_refl _) _).alloc (by simp) _).trans (hb2.mono (by simp; omega))
 have HS : Hid (w2.heap[w.heap.size]? = some (.cells #[.int .i64 most, .map (some b)] 110 (0, 0))) := (hb2.block _ (by simp; omega)).trans ((heap_alloc_old _ _ (by simp)).trans (heap_alloc_new _ _))
 obtain ⟨a, cap, hv, hrow⟩ := own_form hown
 have HR : Hid (Row w2 a (m.map fun p => .int .i64 p.1)) := hrow
 rw [hv]
 clear hv hown hrow hb2 v
 go_wp2_with fail
 go_loopw [3, 11] (fun l i wr => ∃ k : Nat, k ≤ m.length ∧ i = .int .i64 k ∧ ∃ a' cap', l = .slice a' k cap' ∧ Hid (wr.ownsRow w2.heap.size 102 1 (.slice a' k cap') k ((m.take k).map fun p => ptrV p.2) ∧ Below w2.heap.size w2 wr)) (fun _ i _ => m.length - (intOf i).toNat)
 case atStart => exact ⟨0, Nat.zero_le _, rfl, none, 0, rfl, ⟨World.ownsRow_nil _ _ _ _, Below.refl _ _⟩⟩
 case round =>
  obtain ⟨k, hk, rfl, a', cap', rfl, HO⟩ := hrel
  by_cases hlt : k < m.length
  ·have i0' : (0 : Int) ≤ (k : Int) := by omega
   have i1 : (k : Int) < (m.length : Int) := by omega
   obtain ⟨p, hp⟩ : ∃ p, m[k]? = some p := ⟨_, List.getElem?_eq_getElem hlt⟩
   have hpm := List.mem_of_getElem? hp
   obtain ⟨g, ha, hc⟩ := (HR.out.below HO.out.2) k (.int .i64 p.1) (by simp [hp])
   subst ha
   have hsz2 := HB2.out.size
   have hsz3 := HO.out.2.size
   have hmw : MapIs wr b m := HM.out.1.below (HB2.out.trans (HO.out.2.mono hsz2))
   have hlk := hmw.look Tryz.underlying108 (zeroPtrProc wr) (HM.out.2 p hpm) false
   rw [lookM_mem hmw.2 hpm] at hlk
   have hsw : wr.heap[w.heap.size]? = some (.cells #[.int .i64 most, .map (some b)] 110 (0, 0)) := (HO.out.2.block _ (Array.getElem?_eq_some_iff.1 HS.out).1).trans HS.out
   have s1 : wr.cell? ⟨w.heap.size, 1, none⟩ = some (.map (some b)) := by simp [World.cell?, hsw]
   have HP : Hid (m[k]? = some p) := hp
   simp only [ptrO, ptrV, Bool.false_eq_true, if_false] at hlk
   clear hp hpm hmw hsw
   go_wp2_with (at_builtin; refine wpList_append_own_at _ rfl _ _ 204 rfl w2.heap.size 102 i0 (.pointer none) 1 8 Tryz.underlying204 HI.out.1 HI.out.2.1 HI.out.2.2.1 HI.out.2.2.2 rfl (by decide) (.slice a' k cap') k ((m.take k).map fun p => ptrV p.2) rfl (HO.out.1.alloc _) ⟨wr.heap.size, 0, none⟩ 1 1 [.pointer (some ⟨p.2, 0, none⟩)] (by rfl) rfl (World.news_of_block (cs := #[.pointer (some ⟨p.2, 0, none⟩)]) (t := 102) (fr := (0, 0)) (heap_alloc_new wr _)) (by simp [Value.oneCell']) (by unfold maxLen; omega) (by omega) (by simp; omega) ?_; intro v' w5 hown' hgrow hnil hloc; obtain ⟨a5, cap5, rfl, -⟩ := own_form hown'; have HN : Hid (w5.ownsRow w2.heap.size 102 1 (.slice a5 (k + 1) cap5) (k + 1) ((m.take (k + 1)).map fun p => ptrV p.2) ∧ Below w2.heap.size w2 w5) := ⟨by rw [take_up HP.out, List.map_append]; exact hown', (HO.out.2.alloc hsz3 _).grown hgrow (by simp; omega) (fun q hq => (HO.out.1.lt q hq).1)⟩; clear hown' hgrow hnil hloc)
   go_roundw
   case rel => exact ⟨k + 1, by omega, by go_num, a5, cap5, rfl, HN⟩
   case measure => simp [intOf]; omega
  ·have i1 : ¬ (k : Int) < (m.length : Int) := by omega
   have e : k = m.length := by omega
   subst e
   go_wp2
   go_ret
   refine ⟨a', cap', rfl, ?_, HB2.out.trans (HO.out.2.mono HB2.out.size)⟩
   have := own_low HO.out.1 HB2.out.size
   rwa [List.take_length] at this
end Go.Proofs.YtkbcplnlehdjfaaGreat
