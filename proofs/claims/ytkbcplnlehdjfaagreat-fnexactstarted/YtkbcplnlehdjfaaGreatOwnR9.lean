/- What the proof leans on, part 9: LyBoard, SoBoard, LyBuffer, SoBuffer, LyPort, SoPort. -/
import Derived.Test.YtkbcplnlehdjfaaGreatOwnR2
import Derived.Test.YtkbcplnlehdjfaaGreatOwnR4
import Derived.Test.YtkbcplnlehdjfaaGreatOwnR5
import Derived.Test.YtkbcplnlehdjfaaGreatOwnR7

namespace Go.Proofs.YtkbcplnlehdjfaaGreat
open Go.RowKit
attribute [local go_sem ↓] Go.wp_at_zero Go.wp_at_succ
/-- What every order of laying in keeps. -/
def LaySBoard (w : World) (b : Nat) (m : MapL) (most : Int) (x : BoardD) (w' : World) : Prop := (w'.cell? ⟨w.heap.size, 0, none⟩ = some (.int .i64 most) ∧ w'.cell? ⟨w.heap.size, 1, none⟩ = some (.map (some b)) ∧ (∀ ty, (Builtin.len_ #[117] ty #[.map (some b)]).run Tryz.prog w' = .ok (.int .i64 (m.length : Int)) w') ∧ w'.cell? ⟨w.heap.size + 1, 0, none⟩ = some (.int .i64 x.id) ∧ w'.cell? ⟨w.heap.size + 1, 1, none⟩ = some (.bool x.shown) ∧ w'.cell? ⟨w.heap.size + 1, 2, none⟩ = some (.string x.text)) ∧ Hid (LayIn w w' w.heap.size (w.heap.size + 1) b m most (boardVs x) 141 119) ∧ Hid (BoardFit w' x)
theorem laySBoard_of {w w' : World} {b : Nat} {m : MapL} {most : Int} {x : BoardD} (h : LayIn w w' w.heap.size (w.heap.size + 1) b m most (boardVs x) 141 119) (hf : BoardFit w' x) : LaySBoard w b m most x w' :=
 ⟨⟨h.cells.1, h.cells.2, fun ty => h.mp.len Tryz.underlying117 ty, board_cells h.bx⟩, h, hf⟩
set_option maxRecDepth 100000 in
set_option maxHeartbeats 16000000 in
theorem layBoard_any (most : Int) (b : Nat) (m : MapL) (x : BoardD) (w : World) (h : MapIs w b m) (hw : (Lit.int .i64 x.id).wf = true) (hm : m.length ≤ 1048576) (hf : BoardFit w x) :
  Calls Tryz.prog 91 #[.agg #[.int .i64 most, .map (some b)], .agg (boardVs x)] w fun e w' => LayEnds w b m (layB most m x.id (boardB x)) x.id (boardVs x) 141 e w' := by
 have HF : Hid (LayIn w ((w.alloc (.cells #[.int .i64 most, .map (some b)] 119)).alloc (.cells (boardVs x) 141)) w.heap.size (w.heap.size + 1) b m most (boardVs x) 141 119) := LayIn.start w h most _ _ _
 have HW : Hid ((Lit.int .i64 x.id).wf = true ∧ ¬ w.heap.size + 1 = b ∧ m.length ≤ 1048576) := ⟨hw, by have := h.lt; omega, hm⟩
 have HI : Hid (BoardFit ((w.alloc (.cells #[.int .i64 most, .map (some b)] 119)).alloc (.cells (boardVs x) 141)) x) := hf.below ((((Below.refl _ w).alloc (Nat.le_refl _) _)).alloc (by simp) _)
 have hmn := meth_numberBoard
 have hmr := meth_rightBoard
 obtain ⟨s0, s1⟩ := HF.out.cells
 obtain ⟨c0, c1, c2⟩ := board_cells HF.out.bx
 clear h hw hf hm
 unfold boardVs at *
 go_enter Tryz.func91, Tryz.ntmps91
 go_wp2_with fail
 clear s0 s1 c0 c1 c2
 obtain ⟨vA, hA⟩ : ∃ v, (lookM m x.id).isSome = v := ⟨_, rfl⟩
 obtain ⟨vB, hBd⟩ : ∃ v, decide (most ≤ (m.length : Int)) = v := ⟨_, rfl⟩
 obtain ⟨vC, hC⟩ : ∃ v, inB x.id 1 1000 = v := ⟨_, rfl⟩
 obtain ⟨vD, hD⟩ : ∃ v, boardB x = v := ⟨_, rfl⟩
 have HL : Hid (layB most m x.id (boardB x) = (!vA && !vB && vC && vD) ∧ (vA = false → lookM m x.id = none)) := ⟨layB_of hA hBd hC hD, fun e => Option.isNone_iff_eq_none.1 (Option.isSome_eq_false_iff.1 (hA.trans e))⟩
 have HA : Hid (Ending.returned (.bool (lookM m x.id).isSome) = .returned (.bool vA)) := ret_bool hA
 have HC : Hid (Ending.returned (.bool (inB x.id 1 1000)) = .returned (.bool vC)) := ret_bool hC
 have HD : Hid (Ending.returned (.bool (boardB x)) = .returned (.bool vD)) := ret_bool hD
 clear hA hC hD
 refine tame_region (LaySBoard w b m most x) (by kernel_rfl) (laySBoard_of HF.out.drew (HI.out.below (Below.refl _ _).drew)) ?_
 iterate 3 (refine yl (v := ?_) ?_ ?_; rotate_left; (intro w0 hS0; obtain ⟨⟨q0, q1, q2, q3, q4, q5⟩, hH⟩ := hS0; go_simp; try with_reducible rfl); simp only [pt, sb, s0, s1])
 (refine cl (.int .i64 x.id) 310 #[.agg #[.int .i64 x.id, .bool x.shown, .string x.text]] ?_ ?_ ?_; (intro w0 hS0; obtain ⟨⟨q0, q1, q2, q3, q4, q5⟩, hH⟩ := hS0; go_simp; try with_reducible rfl); (intro w0 hS0; refine (numberBoard_any x w0).mono ?_; rintro e w2 ⟨rfl, hb2⟩; exact ⟨rfl, laySBoard_of (hS0.2.1.out.below hb2) (hS0.2.2.out.below hb2)⟩); simp only [pt, sb, s0, s1])
 (refine cl (.bool vA) 177 #[.agg #[.int .i64 most, .map (some b)], .int .i64 x.id] ?_ ?_ ?_; (intro w0 hS0; obtain ⟨⟨q0, q1, q2, q3, q4, q5⟩, hH⟩ := hS0; go_simp; try with_reducible rfl); (intro w0 hS0; refine (hasBoard_any most b m x.id w0 hS0.2.1.out.mp HW.out.1).mono ?_; rintro e w2 ⟨rfl, hb2⟩; exact ⟨HA.out, laySBoard_of (hS0.2.1.out.below hb2) (hS0.2.2.out.below hb2)⟩); simp only [pt, sb, s0, s1])
 (refine yl (v := ?_) ?_ ?_; rotate_left; (intro w0 hS0; obtain ⟨⟨q0, q1, q2, q3, q4, q5⟩, hH⟩ := hS0; go_simp; try with_reducible rfl); simp only [pt, sb, s0, s1])
 rcases vA.eq_false_or_eq_true with rfl | rfl
 focus iterate 6 (refine nl ?_; simp only [pt, sb, s0, s1])
 rotate_left
 focus iterate 6 (refine yl (v := ?_) ?_ ?_; rotate_left; (intro w0 hS0; obtain ⟨⟨q0, q1, q2, q3, q4, q5⟩, hH⟩ := hS0; go_simp; try with_reducible rfl); simp only [pt, sb, s0, s1])
 all_goals iterate 2 (refine yl (v := ?_) ?_ ?_; rotate_left; (intro w0 hS0; obtain ⟨⟨q0, q1, q2, q3, q4, q5⟩, hH⟩ := hS0; go_simp; try with_reducible rfl); simp only [pt, sb, s0, s1])
 rcases vB.eq_false_or_eq_true with rfl | rfl
 focus iterate 5 (refine nl ?_; simp only [pt, sb, s0, s1])
 rotate_left
 focus
  iterate 2 (refine yl (v := ?_) ?_ ?_; rotate_left; (intro w0 hS0; obtain ⟨⟨q0, q1, q2, q3, q4, q5⟩, hH⟩ := hS0; go_simp; try with_reducible rfl); simp only [pt, sb, s0, s1])
  (refine cl (.int .i64 x.id) 310 #[.agg #[.int .i64 x.id, .bool x.shown, .string x.text]] ?_ ?_ ?_; (intro w0 hS0; obtain ⟨⟨q0, q1, q2, q3, q4, q5⟩, hH⟩ := hS0; go_simp; try with_reducible rfl); (intro w0 hS0; refine (numberBoard_any x w0).mono ?_; rintro e w2 ⟨rfl, hb2⟩; exact ⟨rfl, laySBoard_of (hS0.2.1.out.below hb2) (hS0.2.2.out.below hb2)⟩); simp only [pt, sb, s0, s1])
  (refine cl (.bool vC) 164 #[.int .i64 x.id] ?_ ?_ ?_; (intro w0 hS0; obtain ⟨⟨q0, q1, q2, q3, q4, q5⟩, hH⟩ := hS0; go_simp; try with_reducible rfl); (intro w0 hS0; refine (isNumber_any x.id w0).mono ?_; rintro e w2 ⟨rfl, rfl⟩; exact ⟨HC.out, hS0⟩); simp only [pt, sb, s0, s1])
  (refine yl (v := ?_) ?_ ?_; rotate_left; (intro w0 hS0; obtain ⟨⟨q0, q1, q2, q3, q4, q5⟩, hH⟩ := hS0; go_simp; try with_reducible rfl); simp only [pt, sb, s0, s1])
 rotate_left
 focus iterate 5 (refine nl ?_; simp only [pt, sb, s0, s1])
 all_goals iterate 2 (refine yl (v := ?_) ?_ ?_; rotate_left; (intro w0 hS0; obtain ⟨⟨q0, q1, q2, q3, q4, q5⟩, hH⟩ := hS0; go_simp; try with_reducible rfl); simp only [pt, sb, s0, s1])
 rotate_right
 rcases vC.eq_false_or_eq_true with rfl | rfl
 focus
  iterate 2 (refine yl (v := ?_) ?_ ?_; rotate_left; (intro w0 hS0; obtain ⟨⟨q0, q1, q2, q3, q4, q5⟩, hH⟩ := hS0; go_simp; try with_reducible rfl); simp only [pt, sb, s0, s1])
  (refine cl (.bool vD) 311 #[.agg #[.int .i64 x.id, .bool x.shown, .string x.text]] ?_ ?_ ?_; (intro w0 hS0; obtain ⟨⟨q0, q1, q2, q3, q4, q5⟩, hH⟩ := hS0; go_simp; try with_reducible rfl); (intro w0 hS0; refine (rightBoard_any x w0 hS0.2.2.out).mono ?_; rintro e w2 ⟨rfl, hb2⟩; exact ⟨HD.out, laySBoard_of (hS0.2.1.out.below hb2) (hS0.2.2.out.below hb2)⟩); simp only [pt, sb, s0, s1])
  (refine yl (v := ?_) ?_ ?_; rotate_left; (intro w0 hS0; obtain ⟨⟨q0, q1, q2, q3, q4, q5⟩, hH⟩ := hS0; go_simp; try with_reducible rfl); simp only [pt, sb, s0, s1])
 rotate_left
 focus iterate 4 (refine nl ?_; simp only [pt, sb, s0, s1])
 rotate_left
 focus iterate 4 (refine nl ?_; simp only [pt, sb, s0, s1])
 rotate_left
 focus iterate 4 (refine nl ?_; simp only [pt, sb, s0, s1])
 rotate_left
 all_goals (refine yl (v := ?_) ?_ ?_; rotate_left; (intro w0 hS0; obtain ⟨⟨q0, q1, q2, q3, q4, q5⟩, hH⟩ := hS0; go_simp; try with_reducible rfl); simp only [pt, sb, s0, s1])
 all_goals refine tame_done (by kernel_rfl) ?_ _
 all_goals intro w1 hS1
 rcases vD.eq_false_or_eq_true with rfl | rfl
 rotate_left
 iterate 4
  go_wp2
  go_ret
  exact layEnds_no HL.out.1 hS1.2.1.out.bel
 go_wp2_with fail
 refine last_region (LaySBoard w b m most x) 5 (by kernel_rfl) (laySBoard_of hS1.2.1.out.drew (hS1.2.2.out.below (Below.refl _ _).drew)) ?_
 iterate 4 (refine ly 6 (v := ?_) (some _) rfl rfl (by kernel_rfl) (fun _ _ _ h => h) (does_yield (by kernel_rfl) ?_) ?_; rotate_left; (intro w0 hS0; obtain ⟨⟨q0, q1, q2, q3, q4, q5⟩, hH⟩ := hS0; go_simp; try with_reducible rfl); simp only [pt, sb, s0, s1])
 refine ly 6 (v := .int .i64 x.id) (some _) rfl rfl (by kernel_rfl) (fun _ _ _ h => h) (does_call (f := 310) (args := #[.agg #[.int .i64 x.id, .bool x.shown, .string x.text]]) (by kernel_rfl) ?_ ?_) ?_
 ·intro w0 hS0
  obtain ⟨⟨q0, q1, q2, q3, q4, q5⟩, hH⟩ := hS0
  go_simp
  try with_reducible rfl
 ·intro w0 hS0
  refine (numberBoard_any x w0).mono ?_
  rintro e w2 ⟨rfl, hb2⟩
  exact ⟨rfl, laySBoard_of (hS0.2.1.out.below hb2) (hS0.2.2.out.below hb2)⟩
 simp only [pt, sb, s0, s1]
 refine last_done rfl (by kernel_rfl) (by kernel_rfl) (by kernel_rfl) ?_
 intro w1 hS1
 obtain ⟨w2, hput, hend⟩ := hS1.2.1.out.put (by omega) Tryz.underlying117 HW.out.1 (HL.out.2 (by trivial)) HW.out.2.2 HW.out.2.1
 have HE : Hid (LayEnds w b m true x.id (boardVs x) 141 (.returned (.bool true)) w2) := hend
 clear hend hS1
 go_simp
 go_wp2
 go_ret
 rw [HL.out.1]
 exact HE.out
end Go.Proofs.YtkbcplnlehdjfaaGreat

/- A shelf of a list of things of the kind Board. (Made by mkshelfof.py.) -/
namespace Go.Proofs.YtkbcplnlehdjfaaGreat
open Go.RowKit
attribute [local go_sem ↓] Go.wp_at_zero Go.wp_at_succ
/-- What holds at the head of each round. -/
def ShBoardAt (w : World) (most : Int) (list : List BoardD) (k : Nat) (wr : World) : Prop :=
 ∃ l : List (BoardD × Nat), l.map (·.1) = list.take k ∧ ShIn boardVs (fun x : BoardD => x.id) 141 119 w wr most l ∧ thingsB (fun x : BoardD => x.id) (fun x : BoardD => boardB x) 0 (list.take k) = true ∧ (k : Int) ≤ max most 0
set_option maxRecDepth 100000 in
set_option maxHeartbeats 4000000 in
theorem shelfOfBoard_any (a : Option Addr) (list : List BoardD) (cap : Nat) (most : Int) (w : World) (hl : list.length ≤ 1048576) (h : boardK.Lies w a list) (hf : ∀ x ∈ list, BoardFit w x) (hw : ∀ x ∈ list, (Lit.int .i64 x.id).wf = true) :
  Calls Tryz.prog 150 #[.slice a list.length cap, .int .i64 most] w fun e w' => ShelfEnds boardVs (fun x : BoardD => x.id) 141 w most (thingsB (fun x : BoardD => x.id) (fun x : BoardD => boardB x) 0 list && decide ((list.length : Int) ≤ max most 0)) list e w' := by
 have hmk := run_makeMap (P := Tryz.prog) 117
 have hmn := meth_numberBoard
 have H0 : Hid (ShIn boardVs (fun x : BoardD => x.id) 141 119 w (((w.alloc (.cells #[.int .i64 0, .map none] 119)).alloc (.map #[] 0)).alloc (.cells #[.int .i64 most, .map (some (w.heap.size + 1))] 119)) most []) := ShIn.start 119 w most
 have HL : Hid (boardK.Lies w a list ∧ (∀ x ∈ list, BoardFit w x) ∧ ∀ x ∈ list, (Lit.int .i64 x.id).wf = true) := ⟨h, hf, hw⟩
 clear h hf hw
 go_enter Tryz.func150, Tryz.ntmps150
 go_wp2_with fail
 go_loopw [7, 15] (fun last i wr => ∃ k : Nat, k ≤ list.length ∧ i = .int .i64 k ∧ last = .int .i64 (lastOf (fun x : BoardD => x.id) 0 (list.take k)) ∧ Hid (ShBoardAt w most list k wr)) (fun _ i _ => list.length - (intOf i).toNat)
 case atStart => exact ⟨0, Nat.zero_le _, rfl, rfl, ⟨[], by simp, H0.out, rfl, by simp; omega⟩⟩
 case round =>
  clear H0 hmk
  obtain ⟨k, hk, rfl, rfl, HA⟩ := hrel
  obtain ⟨l, hlm, hin, hth, hkm⟩ := HA.out
  have HT : Hid (l.map (·.1) = list.take k ∧ thingsB (fun x : BoardD => x.id) (fun x : BoardD => boardB x) 0 (list.take k) = true ∧ (k : Int) ≤ max most 0) := ⟨hlm, hth, hkm⟩
  have HI : Hid (ShIn boardVs (fun x : BoardD => x.id) 141 119 w wr most l) := hin
  clear HA hlm hin hth hkm
  by_cases hlt : k < list.length
  ·have i0 : (0 : Int) ≤ (k : Int) := by omega
   have i1 : (k : Int) < (list.length : Int) := by omega
   obtain ⟨x, hx⟩ : ∃ x, list[k]? = some x := ⟨_, List.getElem?_eq_getElem hlt⟩
   have hmem := List.mem_of_getElem? hx
   have HX : Hid (list[k]? = some x) := hx
   have HF : Hid (BoardFit w x ∧ (Lit.int .i64 x.id).wf = true) := ⟨HL.out.2.1 x hmem, HL.out.2.2 x hmem⟩
   obtain ⟨gs, ha, hat⟩ := board_at (HL.out.1.below HI.out.bel) hx
   obtain ⟨c0, c1, c2⟩ := hat
   subst ha
   clear hx hmem
   go_wp2_with fail
   refine (numberBoard_any x _).mono ?_
   rintro e w2 ⟨rfl, hb2⟩
   have HI2 : Hid (ShIn boardVs (fun x : BoardD => x.id) 141 119 w w2 most l) := (HI.out.below ((Below.refl _ wr).alloc (Nat.le_refl _) (.cells #[.int .i64 x.id, .bool x.shown, .string x.text] 141))).below hb2
   have HB : Hid (w2.heap[wr.heap.size]? = some (.cells (boardVs x) 141 (0, 0))) := (hb2.block _ (by simp)).trans (heap_alloc_new _ _)
   have HZ : Hid (w.heap.size + 1 < wr.heap.size) := by show w.heap.size + 1 < wr.heap.size; have := (Array.getElem?_eq_some_iff.1 HI.out.var).1; omega
   clear hb2 HI c0 c1 c2
   obtain ⟨d0, d1, d2⟩ := board_cells HB.out
   obtain ⟨r0, r1, v0, v1, z0, z1⟩ := HI2.out.cells
   by_cases hle : x.id ≤ lastOf (fun x : BoardD => x.id) 0 (list.take k)
   ·have HN : Hid ((thingsB (fun x : BoardD => x.id) (fun x : BoardD => boardB x) 0 list && decide ((list.length : Int) ≤ max most 0)) = false) := by
     show _ = false
     rw [things_no HX.out (fun hh => absurd hh.2.1 (by show ¬ lastOf (fun x : BoardD => x.id) 0 (list.take k) < x.id; omega))]; rfl
    go_wp2
    refine bodyPost_ret (v := .tuple #[.agg #[.int .i64 0, .map none], .bool false]) (by simp [results, Tryz.results150, go_sem, *]) rfl ?_
    exact ⟨(HI2.out.away _ _).2, .inl ⟨HN.out, rfl⟩⟩
   have HLT : Hid (lastOf (fun x : BoardD => x.id) 0 (list.take k) < x.id) := by show _ < _; omega
   have hkl : (keysOf (fun x : BoardD => x.id) l).length ≤ 1048576 := by
    rw [keysOf_length]
    have := congrArg List.length HT.out.1
    simp only [List.length_map, List.length_take] at this
    omega
   go_wp2_with fail
   refine (layBoard_any most (w.heap.size + 1) (keysOf (fun x : BoardD => x.id) l) x w2 HI2.out.shelf.map HF.out.2 hkl (HF.out.1.below HI2.out.bel)).mono ?_
   rintro e w3 ⟨rfl, hno, hyes⟩
   cases hlay : layB most (keysOf (fun x : BoardD => x.id) l) x.id (boardB x) with
   | false =>
    have HN : Hid ((thingsB (fun x : BoardD => x.id) (fun x : BoardD => boardB x) 0 list && decide ((list.length : Int) ≤ max most 0)) = false) := things_lay_no HX.out HT.out.1 HT.out.2.1 HLT.out hlay
    have HI3 : Hid (ShIn boardVs (fun x : BoardD => x.id) 141 119 w w3 most l) := HI2.out.below (hno hlay)
    clear hno hyes hlay HI2 r0 r1 v0 v1 z0 z1 d0 d1 d2 HB
    obtain ⟨r0, r1, v0, v1, z0, z1⟩ := HI3.out.cells
    go_wp2
    refine bodyPost_ret (v := .tuple #[.agg #[.int .i64 0, .map none], .bool false]) (by simp [results, Tryz.results150, go_sem, *]) rfl ?_
    exact ⟨(HI3.out.away _ _).2, .inl ⟨HN.out, rfl⟩⟩
   | true =>
    have HY : Hid (thingsB (fun x : BoardD => x.id) (fun x : BoardD => boardB x) 0 (list.take (k + 1)) = true ∧ ((k + 1 : Nat) : Int) ≤ max most 0) := things_lay_yes HX.out HT.out.1 HT.out.2.1 HLT.out hlay
    obtain ⟨g, hin4⟩ := HI2.out.lay (x := x) (e := .returned (.bool true)) (w' := w3) ⟨rfl, (fun h => by cases h), fun _ => hyes hlay⟩ (rises_last HT.out.1 HT.out.2.1 HLT.out)
    have HI4 : Hid (ShIn boardVs (fun x : BoardD => x.id) 141 119 w w3 most (l ++ [(x, g)])) := hin4
    have HB3 : Hid (w3.heap[wr.heap.size]? = some (.cells (boardVs x) 141 (0, 0))) := by
     obtain ⟨g', _, _, _, hgr⟩ := hyes hlay
     exact (hgr.block _ (Array.getElem?_eq_some_iff.1 HB.out).1 (fun e => by have := Option.some.inj e; have := HZ.out; omega)).trans HB.out
    clear hno hyes hlay HI2 r0 r1 v0 v1 z0 z1 d0 d1 d2 HB hin4
    obtain ⟨d0, d1, d2⟩ := board_cells HB3.out
    go_wp2_with fail
    refine (numberBoard_any x _).mono ?_
    rintro e w5 ⟨rfl, hb5⟩
    have HI5 : Hid (ShIn boardVs (fun x : BoardD => x.id) 141 119 w w5 most (l ++ [(x, g)])) := HI4.out.below hb5
    have HE : Hid (lastOf (fun x : BoardD => x.id) 0 (list.take (k + 1)) = x.id) := lastOf_take HX.out 0
    clear hb5 HI4
    go_wp2
    go_roundw
    case rel => exact ⟨k + 1, by omega, by go_num, by rw [HE.out], ⟨l ++ [(x, g)], by rw [List.map_append, HT.out.1, take_up HX.out]; rfl, HI5.out, HY.out.1, HY.out.2⟩⟩
    case measure => simp [intOf]; omega
  ·have i1 : ¬ (k : Int) < (list.length : Int) := by omega
   have HK : Hid (list.take k = list ∧ ((list.length : Int) ≤ max most 0)) := ⟨List.take_of_length_le (by omega), by have := HT.out.2.2; omega⟩
   have HY : Hid ((thingsB (fun x : BoardD => x.id) (fun x : BoardD => boardB x) 0 list && decide ((list.length : Int) ≤ max most 0)) = true) := by
    show _ = true
    have h1 := HT.out.2.1
    rw [HK.out.1] at h1
    rw [h1, decide_eq_true HK.out.2]; rfl
   obtain ⟨r0, r1, v0, v1, z0, z1⟩ := HI.out.cells
   go_wp2
   refine bodyPost_ret (v := .tuple #[.agg #[.int .i64 most, .map (some (w.heap.size + 1))], .bool true]) (by simp [results, Tryz.results150, go_sem, *]) rfl ?_
   exact ⟨(HI.out.away _ _).2, .inr ⟨HY.out, w.heap.size + 1, l, rfl, by rw [HT.out.1, HK.out.1], (HI.out.away _ _).1⟩⟩
end Go.Proofs.YtkbcplnlehdjfaaGreat

/- Laying a thing of the kind Buffer into its shelf. (Made by mkshelf.py.) -/
namespace Go.Proofs.YtkbcplnlehdjfaaGreat
open Go.RowKit
attribute [local go_sem ↓] Go.wp_at_zero Go.wp_at_succ
/-- What every order of laying in keeps. -/
def LaySBuffer (w : World) (b : Nat) (m : MapL) (most : Int) (x : BufferD) (w' : World) : Prop := (w'.cell? ⟨w.heap.size, 0, none⟩ = some (.int .i64 most) ∧ w'.cell? ⟨w.heap.size, 1, none⟩ = some (.map (some b)) ∧ (∀ ty, (Builtin.len_ #[120] ty #[.map (some b)]).run Tryz.prog w' = .ok (.int .i64 (m.length : Int)) w') ∧ w'.cell? ⟨w.heap.size + 1, 0, none⟩ = some (.int .i64 x.id) ∧ w'.cell? ⟨w.heap.size + 1, 1, none⟩ = some (.int .i64 x.max) ∧ w'.cell? ⟨w.heap.size + 1, 2, none⟩ = some (.slice x.itemsA x.items.length x.itemsC)) ∧ Hid (LayIn w w' w.heap.size (w.heap.size + 1) b m most (bufferVs x) 144 122) ∧ Hid (BufferFit w' x)
theorem laySBuffer_of {w w' : World} {b : Nat} {m : MapL} {most : Int} {x : BufferD} (h : LayIn w w' w.heap.size (w.heap.size + 1) b m most (bufferVs x) 144 122) (hf : BufferFit w' x) : LaySBuffer w b m most x w' :=
 ⟨⟨h.cells.1, h.cells.2, fun ty => h.mp.len Tryz.underlying120 ty, buffer_cells h.bx⟩, h, hf⟩
set_option maxRecDepth 100000 in
set_option maxHeartbeats 16000000 in
theorem layBuffer_any (most : Int) (b : Nat) (m : MapL) (x : BufferD) (w : World) (h : MapIs w b m) (hw : (Lit.int .i64 x.id).wf = true) (hm : m.length ≤ 1048576) (hf : BufferFit w x) :
  Calls Tryz.prog 92 #[.agg #[.int .i64 most, .map (some b)], .agg (bufferVs x)] w fun e w' => LayEnds w b m (layB most m x.id (bufferB x.toBufferP)) x.id (bufferVs x) 144 e w' := by
 have HF : Hid (LayIn w ((w.alloc (.cells #[.int .i64 most, .map (some b)] 122)).alloc (.cells (bufferVs x) 144)) w.heap.size (w.heap.size + 1) b m most (bufferVs x) 144 122) := LayIn.start w h most _ _ _
 have HW : Hid ((Lit.int .i64 x.id).wf = true ∧ ¬ w.heap.size + 1 = b ∧ m.length ≤ 1048576) := ⟨hw, by have := h.lt; omega, hm⟩
 have HI : Hid (BufferFit ((w.alloc (.cells #[.int .i64 most, .map (some b)] 122)).alloc (.cells (bufferVs x) 144)) x) := hf.below ((((Below.refl _ w).alloc (Nat.le_refl _) _)).alloc (by simp) _)
 have hmn := meth_numberBuffer
 have hmr := meth_rightBuffer
 obtain ⟨s0, s1⟩ := HF.out.cells
 obtain ⟨c0, c1, c2⟩ := buffer_cells HF.out.bx
 clear h hw hf hm
 unfold bufferVs at *
 go_enter Tryz.func92, Tryz.ntmps92
 go_wp2_with fail
 clear s0 s1 c0 c1 c2
 obtain ⟨vA, hA⟩ : ∃ v, (lookM m x.id).isSome = v := ⟨_, rfl⟩
 obtain ⟨vB, hBd⟩ : ∃ v, decide (most ≤ (m.length : Int)) = v := ⟨_, rfl⟩
 obtain ⟨vC, hC⟩ : ∃ v, inB x.id 1 1000 = v := ⟨_, rfl⟩
 obtain ⟨vD, hD⟩ : ∃ v, bufferB x.toBufferP = v := ⟨_, rfl⟩
 have HL : Hid (layB most m x.id (bufferB x.toBufferP) = (!vA && !vB && vC && vD) ∧ (vA = false → lookM m x.id = none)) := ⟨layB_of hA hBd hC hD, fun e => Option.isNone_iff_eq_none.1 (Option.isSome_eq_false_iff.1 (hA.trans e))⟩
 have HA : Hid (Ending.returned (.bool (lookM m x.id).isSome) = .returned (.bool vA)) := ret_bool hA
 have HC : Hid (Ending.returned (.bool (inB x.id 1 1000)) = .returned (.bool vC)) := ret_bool hC
 have HD : Hid (Ending.returned (.bool (bufferB x.toBufferP)) = .returned (.bool vD)) := ret_bool hD
 clear hA hC hD
 refine tame_region (LaySBuffer w b m most x) (by kernel_rfl) (laySBuffer_of HF.out.drew (HI.out.below (Below.refl _ _).drew)) ?_
 iterate 3 (refine yl (v := ?_) ?_ ?_; rotate_left; (intro w0 hS0; obtain ⟨⟨q0, q1, q2, q3, q4, q5⟩, hH⟩ := hS0; go_simp; try with_reducible rfl); simp only [pt, sb, s0, s1])
 (refine cl (.int .i64 x.id) 313 #[.agg #[.int .i64 x.id, .int .i64 x.max, .slice x.itemsA x.items.length x.itemsC]] ?_ ?_ ?_; (intro w0 hS0; obtain ⟨⟨q0, q1, q2, q3, q4, q5⟩, hH⟩ := hS0; go_simp; try with_reducible rfl); (intro w0 hS0; refine (numberBuffer_any x w0).mono ?_; rintro e w2 ⟨rfl, hb2⟩; exact ⟨rfl, laySBuffer_of (hS0.2.1.out.below hb2) (hS0.2.2.out.below hb2)⟩); simp only [pt, sb, s0, s1])
 (refine cl (.bool vA) 178 #[.agg #[.int .i64 most, .map (some b)], .int .i64 x.id] ?_ ?_ ?_; (intro w0 hS0; obtain ⟨⟨q0, q1, q2, q3, q4, q5⟩, hH⟩ := hS0; go_simp; try with_reducible rfl); (intro w0 hS0; refine (hasBuffer_any most b m x.id w0 hS0.2.1.out.mp HW.out.1).mono ?_; rintro e w2 ⟨rfl, hb2⟩; exact ⟨HA.out, laySBuffer_of (hS0.2.1.out.below hb2) (hS0.2.2.out.below hb2)⟩); simp only [pt, sb, s0, s1])
 (refine yl (v := ?_) ?_ ?_; rotate_left; (intro w0 hS0; obtain ⟨⟨q0, q1, q2, q3, q4, q5⟩, hH⟩ := hS0; go_simp; try with_reducible rfl); simp only [pt, sb, s0, s1])
 rcases vA.eq_false_or_eq_true with rfl | rfl
 focus iterate 6 (refine nl ?_; simp only [pt, sb, s0, s1])
 rotate_left
 focus iterate 6 (refine yl (v := ?_) ?_ ?_; rotate_left; (intro w0 hS0; obtain ⟨⟨q0, q1, q2, q3, q4, q5⟩, hH⟩ := hS0; go_simp; try with_reducible rfl); simp only [pt, sb, s0, s1])
 all_goals iterate 2 (refine yl (v := ?_) ?_ ?_; rotate_left; (intro w0 hS0; obtain ⟨⟨q0, q1, q2, q3, q4, q5⟩, hH⟩ := hS0; go_simp; try with_reducible rfl); simp only [pt, sb, s0, s1])
 rcases vB.eq_false_or_eq_true with rfl | rfl
 focus iterate 5 (refine nl ?_; simp only [pt, sb, s0, s1])
 rotate_left
 focus
  iterate 2 (refine yl (v := ?_) ?_ ?_; rotate_left; (intro w0 hS0; obtain ⟨⟨q0, q1, q2, q3, q4, q5⟩, hH⟩ := hS0; go_simp; try with_reducible rfl); simp only [pt, sb, s0, s1])
  (refine cl (.int .i64 x.id) 313 #[.agg #[.int .i64 x.id, .int .i64 x.max, .slice x.itemsA x.items.length x.itemsC]] ?_ ?_ ?_; (intro w0 hS0; obtain ⟨⟨q0, q1, q2, q3, q4, q5⟩, hH⟩ := hS0; go_simp; try with_reducible rfl); (intro w0 hS0; refine (numberBuffer_any x w0).mono ?_; rintro e w2 ⟨rfl, hb2⟩; exact ⟨rfl, laySBuffer_of (hS0.2.1.out.below hb2) (hS0.2.2.out.below hb2)⟩); simp only [pt, sb, s0, s1])
  (refine cl (.bool vC) 164 #[.int .i64 x.id] ?_ ?_ ?_; (intro w0 hS0; obtain ⟨⟨q0, q1, q2, q3, q4, q5⟩, hH⟩ := hS0; go_simp; try with_reducible rfl); (intro w0 hS0; refine (isNumber_any x.id w0).mono ?_; rintro e w2 ⟨rfl, rfl⟩; exact ⟨HC.out, hS0⟩); simp only [pt, sb, s0, s1])
  (refine yl (v := ?_) ?_ ?_; rotate_left; (intro w0 hS0; obtain ⟨⟨q0, q1, q2, q3, q4, q5⟩, hH⟩ := hS0; go_simp; try with_reducible rfl); simp only [pt, sb, s0, s1])
 rotate_left
 focus iterate 5 (refine nl ?_; simp only [pt, sb, s0, s1])
 all_goals iterate 2 (refine yl (v := ?_) ?_ ?_; rotate_left; (intro w0 hS0; obtain ⟨⟨q0, q1, q2, q3, q4, q5⟩, hH⟩ := hS0; go_simp; try with_reducible rfl); simp only [pt, sb, s0, s1])
 rotate_right
 rcases vC.eq_false_or_eq_true with rfl | rfl
 focus
  iterate 2 (refine yl (v := ?_) ?_ ?_; rotate_left; (intro w0 hS0; obtain ⟨⟨q0, q1, q2, q3, q4, q5⟩, hH⟩ := hS0; go_simp; try with_reducible rfl); simp only [pt, sb, s0, s1])
  (refine cl (.bool vD) 314 #[.agg #[.int .i64 x.id, .int .i64 x.max, .slice x.itemsA x.items.length x.itemsC]] ?_ ?_ ?_; (intro w0 hS0; obtain ⟨⟨q0, q1, q2, q3, q4, q5⟩, hH⟩ := hS0; go_simp; try with_reducible rfl); (intro w0 hS0; refine (rightBuffer_any x w0 hS0.2.2.out).mono ?_; rintro e w2 ⟨rfl, hb2⟩; exact ⟨HD.out, laySBuffer_of (hS0.2.1.out.below hb2) (hS0.2.2.out.below hb2)⟩); simp only [pt, sb, s0, s1])
  (refine yl (v := ?_) ?_ ?_; rotate_left; (intro w0 hS0; obtain ⟨⟨q0, q1, q2, q3, q4, q5⟩, hH⟩ := hS0; go_simp; try with_reducible rfl); simp only [pt, sb, s0, s1])
 rotate_left
 focus iterate 4 (refine nl ?_; simp only [pt, sb, s0, s1])
 rotate_left
 focus iterate 4 (refine nl ?_; simp only [pt, sb, s0, s1])
 rotate_left
 focus iterate 4 (refine nl ?_; simp only [pt, sb, s0, s1])
 rotate_left
 all_goals (refine yl (v := ?_) ?_ ?_; rotate_left; (intro w0 hS0; obtain ⟨⟨q0, q1, q2, q3, q4, q5⟩, hH⟩ := hS0; go_simp; try with_reducible rfl); simp only [pt, sb, s0, s1])
 all_goals refine tame_done (by kernel_rfl) ?_ _
 all_goals intro w1 hS1
 rcases vD.eq_false_or_eq_true with rfl | rfl
 rotate_left
 iterate 4
  go_wp2
  go_ret
  exact layEnds_no HL.out.1 hS1.2.1.out.bel
 go_wp2_with fail
 refine last_region (LaySBuffer w b m most x) 5 (by kernel_rfl) (laySBuffer_of hS1.2.1.out.drew (hS1.2.2.out.below (Below.refl _ _).drew)) ?_
 iterate 4 (refine ly 6 (v := ?_) (some _) rfl rfl (by kernel_rfl) (fun _ _ _ h => h) (does_yield (by kernel_rfl) ?_) ?_; rotate_left; (intro w0 hS0; obtain ⟨⟨q0, q1, q2, q3, q4, q5⟩, hH⟩ := hS0; go_simp; try with_reducible rfl); simp only [pt, sb, s0, s1])
 refine ly 6 (v := .int .i64 x.id) (some _) rfl rfl (by kernel_rfl) (fun _ _ _ h => h) (does_call (f := 313) (args := #[.agg #[.int .i64 x.id, .int .i64 x.max, .slice x.itemsA x.items.length x.itemsC]]) (by kernel_rfl) ?_ ?_) ?_
 ·intro w0 hS0
  obtain ⟨⟨q0, q1, q2, q3, q4, q5⟩, hH⟩ := hS0
  go_simp
  try with_reducible rfl
 ·intro w0 hS0
  refine (numberBuffer_any x w0).mono ?_
  rintro e w2 ⟨rfl, hb2⟩
  exact ⟨rfl, laySBuffer_of (hS0.2.1.out.below hb2) (hS0.2.2.out.below hb2)⟩
 simp only [pt, sb, s0, s1]
 refine last_done rfl (by kernel_rfl) (by kernel_rfl) (by kernel_rfl) ?_
 intro w1 hS1
 obtain ⟨w2, hput, hend⟩ := hS1.2.1.out.put (by omega) Tryz.underlying120 HW.out.1 (HL.out.2 (by trivial)) HW.out.2.2 HW.out.2.1
 have HE : Hid (LayEnds w b m true x.id (bufferVs x) 144 (.returned (.bool true)) w2) := hend
 clear hend hS1
 go_simp
 go_wp2
 go_ret
 rw [HL.out.1]
 exact HE.out
end Go.Proofs.YtkbcplnlehdjfaaGreat

/- A shelf of a list of things of the kind Buffer. (Made by mkshelfof.py.) -/
namespace Go.Proofs.YtkbcplnlehdjfaaGreat
open Go.RowKit
attribute [local go_sem ↓] Go.wp_at_zero Go.wp_at_succ
/-- What holds at the head of each round. -/
def ShBufferAt (w : World) (most : Int) (list : List BufferD) (k : Nat) (wr : World) : Prop :=
 ∃ l : List (BufferD × Nat), l.map (·.1) = list.take k ∧ ShIn bufferVs (fun x : BufferD => x.id) 144 122 w wr most l ∧ thingsB (fun x : BufferD => x.id) (fun x : BufferD => bufferB x.toBufferP) 0 (list.take k) = true ∧ (k : Int) ≤ max most 0
set_option maxRecDepth 100000 in
set_option maxHeartbeats 4000000 in
theorem shelfOfBuffer_any (a : Option Addr) (list : List BufferD) (cap : Nat) (most : Int) (w : World) (hl : list.length ≤ 1048576) (h : bufferK.Lies w a list) (hf : ∀ x ∈ list, BufferFit w x) (hw : ∀ x ∈ list, (Lit.int .i64 x.id).wf = true) :
  Calls Tryz.prog 151 #[.slice a list.length cap, .int .i64 most] w fun e w' => ShelfEnds bufferVs (fun x : BufferD => x.id) 144 w most (thingsB (fun x : BufferD => x.id) (fun x : BufferD => bufferB x.toBufferP) 0 list && decide ((list.length : Int) ≤ max most 0)) list e w' := by
 have hmk := run_makeMap (P := Tryz.prog) 120
 have hmn := meth_numberBuffer
 have H0 : Hid (ShIn bufferVs (fun x : BufferD => x.id) 144 122 w (((w.alloc (.cells #[.int .i64 0, .map none] 122)).alloc (.map #[] 0)).alloc (.cells #[.int .i64 most, .map (some (w.heap.size + 1))] 122)) most []) := ShIn.start 122 w most
 have HL : Hid (bufferK.Lies w a list ∧ (∀ x ∈ list, BufferFit w x) ∧ ∀ x ∈ list, (Lit.int .i64 x.id).wf = true) := ⟨h, hf, hw⟩
 clear h hf hw
 go_enter Tryz.func151, Tryz.ntmps151
 go_wp2_with fail
 go_loopw [7, 15] (fun last i wr => ∃ k : Nat, k ≤ list.length ∧ i = .int .i64 k ∧ last = .int .i64 (lastOf (fun x : BufferD => x.id) 0 (list.take k)) ∧ Hid (ShBufferAt w most list k wr)) (fun _ i _ => list.length - (intOf i).toNat)
 case atStart => exact ⟨0, Nat.zero_le _, rfl, rfl, ⟨[], by simp, H0.out, rfl, by simp; omega⟩⟩
 case round =>
  clear H0 hmk
  obtain ⟨k, hk, rfl, rfl, HA⟩ := hrel
  obtain ⟨l, hlm, hin, hth, hkm⟩ := HA.out
  have HT : Hid (l.map (·.1) = list.take k ∧ thingsB (fun x : BufferD => x.id) (fun x : BufferD => bufferB x.toBufferP) 0 (list.take k) = true ∧ (k : Int) ≤ max most 0) := ⟨hlm, hth, hkm⟩
  have HI : Hid (ShIn bufferVs (fun x : BufferD => x.id) 144 122 w wr most l) := hin
  clear HA hlm hin hth hkm
  by_cases hlt : k < list.length
  ·have i0 : (0 : Int) ≤ (k : Int) := by omega
   have i1 : (k : Int) < (list.length : Int) := by omega
   obtain ⟨x, hx⟩ : ∃ x, list[k]? = some x := ⟨_, List.getElem?_eq_getElem hlt⟩
   have hmem := List.mem_of_getElem? hx
   have HX : Hid (list[k]? = some x) := hx
   have HF : Hid (BufferFit w x ∧ (Lit.int .i64 x.id).wf = true) := ⟨HL.out.2.1 x hmem, HL.out.2.2 x hmem⟩
   obtain ⟨gs, ha, hat⟩ := buffer_at (HL.out.1.below HI.out.bel) hx
   obtain ⟨c0, c1, c2⟩ := hat
   subst ha
   clear hx hmem
   go_wp2_with fail
   refine (numberBuffer_any x _).mono ?_
   rintro e w2 ⟨rfl, hb2⟩
   have HI2 : Hid (ShIn bufferVs (fun x : BufferD => x.id) 144 122 w w2 most l) := (HI.out.below ((Below.refl _ wr).alloc (Nat.le_refl _) (.cells #[.int .i64 x.id, .int .i64 x.max, .slice x.itemsA x.items.length x.itemsC] 144))).below hb2
   have HB : Hid (w2.heap[wr.heap.size]? = some (.cells (bufferVs x) 144 (0, 0))) := (hb2.block _ (by simp)).trans (heap_alloc_new _ _)
   have HZ : Hid (w.heap.size + 1 < wr.heap.size) := by show w.heap.size + 1 < wr.heap.size; have := (Array.getElem?_eq_some_iff.1 HI.out.var).1; omega
   clear hb2 HI c0 c1 c2
   obtain ⟨d0, d1, d2⟩ := buffer_cells HB.out
   obtain ⟨r0, r1, v0, v1, z0, z1⟩ := HI2.out.cells
   by_cases hle : x.id ≤ lastOf (fun x : BufferD => x.id) 0 (list.take k)
   ·have HN : Hid ((thingsB (fun x : BufferD => x.id) (fun x : BufferD => bufferB x.toBufferP) 0 list && decide ((list.length : Int) ≤ max most 0)) = false) := by
     show _ = false
     rw [things_no HX.out (fun hh => absurd hh.2.1 (by show ¬ lastOf (fun x : BufferD => x.id) 0 (list.take k) < x.id; omega))]; rfl
    go_wp2
    refine bodyPost_ret (v := .tuple #[.agg #[.int .i64 0, .map none], .bool false]) (by simp [results, Tryz.results151, go_sem, *]) rfl ?_
    exact ⟨(HI2.out.away _ _).2, .inl ⟨HN.out, rfl⟩⟩
   have HLT : Hid (lastOf (fun x : BufferD => x.id) 0 (list.take k) < x.id) := by show _ < _; omega
   have hkl : (keysOf (fun x : BufferD => x.id) l).length ≤ 1048576 := by
    rw [keysOf_length]
    have := congrArg List.length HT.out.1
    simp only [List.length_map, List.length_take] at this
    omega
   go_wp2_with fail
   refine (layBuffer_any most (w.heap.size + 1) (keysOf (fun x : BufferD => x.id) l) x w2 HI2.out.shelf.map HF.out.2 hkl (HF.out.1.below HI2.out.bel)).mono ?_
   rintro e w3 ⟨rfl, hno, hyes⟩
   cases hlay : layB most (keysOf (fun x : BufferD => x.id) l) x.id (bufferB x.toBufferP) with
   | false =>
    have HN : Hid ((thingsB (fun x : BufferD => x.id) (fun x : BufferD => bufferB x.toBufferP) 0 list && decide ((list.length : Int) ≤ max most 0)) = false) := things_lay_no HX.out HT.out.1 HT.out.2.1 HLT.out hlay
    have HI3 : Hid (ShIn bufferVs (fun x : BufferD => x.id) 144 122 w w3 most l) := HI2.out.below (hno hlay)
    clear hno hyes hlay HI2 r0 r1 v0 v1 z0 z1 d0 d1 d2 HB
    obtain ⟨r0, r1, v0, v1, z0, z1⟩ := HI3.out.cells
    go_wp2
    refine bodyPost_ret (v := .tuple #[.agg #[.int .i64 0, .map none], .bool false]) (by simp [results, Tryz.results151, go_sem, *]) rfl ?_
    exact ⟨(HI3.out.away _ _).2, .inl ⟨HN.out, rfl⟩⟩
   | true =>
    have HY : Hid (thingsB (fun x : BufferD => x.id) (fun x : BufferD => bufferB x.toBufferP) 0 (list.take (k + 1)) = true ∧ ((k + 1 : Nat) : Int) ≤ max most 0) := things_lay_yes HX.out HT.out.1 HT.out.2.1 HLT.out hlay
    obtain ⟨g, hin4⟩ := HI2.out.lay (x := x) (e := .returned (.bool true)) (w' := w3) ⟨rfl, (fun h => by cases h), fun _ => hyes hlay⟩ (rises_last HT.out.1 HT.out.2.1 HLT.out)
    have HI4 : Hid (ShIn bufferVs (fun x : BufferD => x.id) 144 122 w w3 most (l ++ [(x, g)])) := hin4
    have HB3 : Hid (w3.heap[wr.heap.size]? = some (.cells (bufferVs x) 144 (0, 0))) := by
     obtain ⟨g', _, _, _, hgr⟩ := hyes hlay
     exact (hgr.block _ (Array.getElem?_eq_some_iff.1 HB.out).1 (fun e => by have := Option.some.inj e; have := HZ.out; omega)).trans HB.out
    clear hno hyes hlay HI2 r0 r1 v0 v1 z0 z1 d0 d1 d2 HB hin4
    obtain ⟨d0, d1, d2⟩ := buffer_cells HB3.out
    go_wp2_with fail
    refine (numberBuffer_any x _).mono ?_
    rintro e w5 ⟨rfl, hb5⟩
    have HI5 : Hid (ShIn bufferVs (fun x : BufferD => x.id) 144 122 w w5 most (l ++ [(x, g)])) := HI4.out.below hb5
    have HE : Hid (lastOf (fun x : BufferD => x.id) 0 (list.take (k + 1)) = x.id) := lastOf_take HX.out 0
    clear hb5 HI4
    go_wp2
    go_roundw
    case rel => exact ⟨k + 1, by omega, by go_num, by rw [HE.out], ⟨l ++ [(x, g)], by rw [List.map_append, HT.out.1, take_up HX.out]; rfl, HI5.out, HY.out.1, HY.out.2⟩⟩
    case measure => simp [intOf]; omega
  ·have i1 : ¬ (k : Int) < (list.length : Int) := by omega
   have HK : Hid (list.take k = list ∧ ((list.length : Int) ≤ max most 0)) := ⟨List.take_of_length_le (by omega), by have := HT.out.2.2; omega⟩
   have HY : Hid ((thingsB (fun x : BufferD => x.id) (fun x : BufferD => bufferB x.toBufferP) 0 list && decide ((list.length : Int) ≤ max most 0)) = true) := by
    show _ = true
    have h1 := HT.out.2.1
    rw [HK.out.1] at h1
    rw [h1, decide_eq_true HK.out.2]; rfl
   obtain ⟨r0, r1, v0, v1, z0, z1⟩ := HI.out.cells
   go_wp2
   refine bodyPost_ret (v := .tuple #[.agg #[.int .i64 most, .map (some (w.heap.size + 1))], .bool true]) (by simp [results, Tryz.results151, go_sem, *]) rfl ?_
   exact ⟨(HI.out.away _ _).2, .inr ⟨HY.out, w.heap.size + 1, l, rfl, by rw [HT.out.1, HK.out.1], (HI.out.away _ _).1⟩⟩
end Go.Proofs.YtkbcplnlehdjfaaGreat

/- Laying a thing of the kind Port into its shelf. (Made by mkshelf.py.) -/
namespace Go.Proofs.YtkbcplnlehdjfaaGreat
open Go.RowKit
attribute [local go_sem ↓] Go.wp_at_zero Go.wp_at_succ
/-- What every order of laying in keeps. -/
def LaySPort (w : World) (b : Nat) (m : MapL) (most : Int) (x : PortD) (w' : World) : Prop := (w'.cell? ⟨w.heap.size, 0, none⟩ = some (.int .i64 most) ∧ w'.cell? ⟨w.heap.size, 1, none⟩ = some (.map (some b)) ∧ (∀ ty, (Builtin.len_ #[123] ty #[.map (some b)]).run Tryz.prog w' = .ok (.int .i64 (m.length : Int)) w') ∧ w'.cell? ⟨w.heap.size + 1, 0, none⟩ = some (.int .i64 x.id) ∧ w'.cell? ⟨w.heap.size + 1, 1, none⟩ = some (.bool x.out) ∧ w'.cell? ⟨w.heap.size + 1, 2, none⟩ = some (.bool x.queue) ∧ w'.cell? ⟨w.heap.size + 1, 3, none⟩ = some (.int .i64 x.max) ∧ w'.cell? ⟨w.heap.size + 1, 4, none⟩ = some (.slice x.itemsA x.items.length x.itemsC)) ∧ Hid (LayIn w w' w.heap.size (w.heap.size + 1) b m most (portVs x) 61 125) ∧ Hid (PortFit w' x)
theorem laySPort_of {w w' : World} {b : Nat} {m : MapL} {most : Int} {x : PortD} (h : LayIn w w' w.heap.size (w.heap.size + 1) b m most (portVs x) 61 125) (hf : PortFit w' x) : LaySPort w b m most x w' :=
 ⟨⟨h.cells.1, h.cells.2, fun ty => h.mp.len Tryz.underlying123 ty, port_cells h.bx⟩, h, hf⟩
set_option maxRecDepth 100000 in
set_option maxHeartbeats 16000000 in
theorem layPort_any (most : Int) (b : Nat) (m : MapL) (x : PortD) (w : World) (h : MapIs w b m) (hw : (Lit.int .i64 x.id).wf = true) (hm : m.length ≤ 1048576) (hf : PortFit w x) :
  Calls Tryz.prog 94 #[.agg #[.int .i64 most, .map (some b)], .agg (portVs x)] w fun e w' => LayEnds w b m (layB most m x.id (portB x.toPortP)) x.id (portVs x) 61 e w' := by
 have HF : Hid (LayIn w ((w.alloc (.cells #[.int .i64 most, .map (some b)] 125)).alloc (.cells (portVs x) 61)) w.heap.size (w.heap.size + 1) b m most (portVs x) 61 125) := LayIn.start w h most _ _ _
 have HW : Hid ((Lit.int .i64 x.id).wf = true ∧ ¬ w.heap.size + 1 = b ∧ m.length ≤ 1048576) := ⟨hw, by have := h.lt; omega, hm⟩
 have HI : Hid (PortFit ((w.alloc (.cells #[.int .i64 most, .map (some b)] 125)).alloc (.cells (portVs x) 61)) x) := hf.below ((((Below.refl _ w).alloc (Nat.le_refl _) _)).alloc (by simp) _)
 have hmn := meth_numberPort
 have hmr := meth_rightPort
 obtain ⟨s0, s1⟩ := HF.out.cells
 obtain ⟨c0, c1, c2, c3, c4⟩ := port_cells HF.out.bx
 clear h hw hf hm
 unfold portVs at *
 go_enter Tryz.func94, Tryz.ntmps94
 go_wp2_with fail
 clear s0 s1 c0 c1 c2 c3 c4
 obtain ⟨vA, hA⟩ : ∃ v, (lookM m x.id).isSome = v := ⟨_, rfl⟩
 obtain ⟨vB, hBd⟩ : ∃ v, decide (most ≤ (m.length : Int)) = v := ⟨_, rfl⟩
 obtain ⟨vC, hC⟩ : ∃ v, inB x.id 1 1000 = v := ⟨_, rfl⟩
 obtain ⟨vD, hD⟩ : ∃ v, portB x.toPortP = v := ⟨_, rfl⟩
 have HL : Hid (layB most m x.id (portB x.toPortP) = (!vA && !vB && vC && vD) ∧ (vA = false → lookM m x.id = none)) := ⟨layB_of hA hBd hC hD, fun e => Option.isNone_iff_eq_none.1 (Option.isSome_eq_false_iff.1 (hA.trans e))⟩
 have HA : Hid (Ending.returned (.bool (lookM m x.id).isSome) = .returned (.bool vA)) := ret_bool hA
 have HC : Hid (Ending.returned (.bool (inB x.id 1 1000)) = .returned (.bool vC)) := ret_bool hC
 have HD : Hid (Ending.returned (.bool (portB x.toPortP)) = .returned (.bool vD)) := ret_bool hD
 clear hA hC hD
 refine tame_region (LaySPort w b m most x) (by kernel_rfl) (laySPort_of HF.out.drew (HI.out.below (Below.refl _ _).drew)) ?_
 iterate 3 (refine yl (v := ?_) ?_ ?_; rotate_left; (intro w0 hS0; obtain ⟨⟨q0, q1, q2, q3, q4, q5, q6, q7⟩, hH⟩ := hS0; go_simp; try with_reducible rfl); simp only [pt, sb, s0, s1])
 (refine cl (.int .i64 x.id) 297 #[.agg #[.int .i64 x.id, .bool x.out, .bool x.queue, .int .i64 x.max, .slice x.itemsA x.items.length x.itemsC]] ?_ ?_ ?_; (intro w0 hS0; obtain ⟨⟨q0, q1, q2, q3, q4, q5, q6, q7⟩, hH⟩ := hS0; go_simp; try with_reducible rfl); (intro w0 hS0; refine (numberPort_any x w0).mono ?_; rintro e w2 ⟨rfl, hb2⟩; exact ⟨rfl, laySPort_of (hS0.2.1.out.below hb2) (hS0.2.2.out.below hb2)⟩); simp only [pt, sb, s0, s1])
 (refine cl (.bool vA) 179 #[.agg #[.int .i64 most, .map (some b)], .int .i64 x.id] ?_ ?_ ?_; (intro w0 hS0; obtain ⟨⟨q0, q1, q2, q3, q4, q5, q6, q7⟩, hH⟩ := hS0; go_simp; try with_reducible rfl); (intro w0 hS0; refine (hasPort_any most b m x.id w0 hS0.2.1.out.mp HW.out.1).mono ?_; rintro e w2 ⟨rfl, hb2⟩; exact ⟨HA.out, laySPort_of (hS0.2.1.out.below hb2) (hS0.2.2.out.below hb2)⟩); simp only [pt, sb, s0, s1])
 (refine yl (v := ?_) ?_ ?_; rotate_left; (intro w0 hS0; obtain ⟨⟨q0, q1, q2, q3, q4, q5, q6, q7⟩, hH⟩ := hS0; go_simp; try with_reducible rfl); simp only [pt, sb, s0, s1])
 rcases vA.eq_false_or_eq_true with rfl | rfl
 focus iterate 6 (refine nl ?_; simp only [pt, sb, s0, s1])
 rotate_left
 focus iterate 6 (refine yl (v := ?_) ?_ ?_; rotate_left; (intro w0 hS0; obtain ⟨⟨q0, q1, q2, q3, q4, q5, q6, q7⟩, hH⟩ := hS0; go_simp; try with_reducible rfl); simp only [pt, sb, s0, s1])
 all_goals iterate 2 (refine yl (v := ?_) ?_ ?_; rotate_left; (intro w0 hS0; obtain ⟨⟨q0, q1, q2, q3, q4, q5, q6, q7⟩, hH⟩ := hS0; go_simp; try with_reducible rfl); simp only [pt, sb, s0, s1])
 rcases vB.eq_false_or_eq_true with rfl | rfl
 focus iterate 5 (refine nl ?_; simp only [pt, sb, s0, s1])
 rotate_left
 focus
  iterate 2 (refine yl (v := ?_) ?_ ?_; rotate_left; (intro w0 hS0; obtain ⟨⟨q0, q1, q2, q3, q4, q5, q6, q7⟩, hH⟩ := hS0; go_simp; try with_reducible rfl); simp only [pt, sb, s0, s1])
  (refine cl (.int .i64 x.id) 297 #[.agg #[.int .i64 x.id, .bool x.out, .bool x.queue, .int .i64 x.max, .slice x.itemsA x.items.length x.itemsC]] ?_ ?_ ?_; (intro w0 hS0; obtain ⟨⟨q0, q1, q2, q3, q4, q5, q6, q7⟩, hH⟩ := hS0; go_simp; try with_reducible rfl); (intro w0 hS0; refine (numberPort_any x w0).mono ?_; rintro e w2 ⟨rfl, hb2⟩; exact ⟨rfl, laySPort_of (hS0.2.1.out.below hb2) (hS0.2.2.out.below hb2)⟩); simp only [pt, sb, s0, s1])
  (refine cl (.bool vC) 164 #[.int .i64 x.id] ?_ ?_ ?_; (intro w0 hS0; obtain ⟨⟨q0, q1, q2, q3, q4, q5, q6, q7⟩, hH⟩ := hS0; go_simp; try with_reducible rfl); (intro w0 hS0; refine (isNumber_any x.id w0).mono ?_; rintro e w2 ⟨rfl, rfl⟩; exact ⟨HC.out, hS0⟩); simp only [pt, sb, s0, s1])
  (refine yl (v := ?_) ?_ ?_; rotate_left; (intro w0 hS0; obtain ⟨⟨q0, q1, q2, q3, q4, q5, q6, q7⟩, hH⟩ := hS0; go_simp; try with_reducible rfl); simp only [pt, sb, s0, s1])
 rotate_left
 focus iterate 5 (refine nl ?_; simp only [pt, sb, s0, s1])
 all_goals iterate 2 (refine yl (v := ?_) ?_ ?_; rotate_left; (intro w0 hS0; obtain ⟨⟨q0, q1, q2, q3, q4, q5, q6, q7⟩, hH⟩ := hS0; go_simp; try with_reducible rfl); simp only [pt, sb, s0, s1])
 rotate_right
 rcases vC.eq_false_or_eq_true with rfl | rfl
 focus
  iterate 2 (refine yl (v := ?_) ?_ ?_; rotate_left; (intro w0 hS0; obtain ⟨⟨q0, q1, q2, q3, q4, q5, q6, q7⟩, hH⟩ := hS0; go_simp; try with_reducible rfl); simp only [pt, sb, s0, s1])
  (refine cl (.bool vD) 298 #[.agg #[.int .i64 x.id, .bool x.out, .bool x.queue, .int .i64 x.max, .slice x.itemsA x.items.length x.itemsC]] ?_ ?_ ?_; (intro w0 hS0; obtain ⟨⟨q0, q1, q2, q3, q4, q5, q6, q7⟩, hH⟩ := hS0; go_simp; try with_reducible rfl); (intro w0 hS0; refine (rightPort_any x w0 hS0.2.2.out).mono ?_; rintro e w2 ⟨rfl, hb2⟩; exact ⟨HD.out, laySPort_of (hS0.2.1.out.below hb2) (hS0.2.2.out.below hb2)⟩); simp only [pt, sb, s0, s1])
  (refine yl (v := ?_) ?_ ?_; rotate_left; (intro w0 hS0; obtain ⟨⟨q0, q1, q2, q3, q4, q5, q6, q7⟩, hH⟩ := hS0; go_simp; try with_reducible rfl); simp only [pt, sb, s0, s1])
 rotate_left
 focus iterate 4 (refine nl ?_; simp only [pt, sb, s0, s1])
 rotate_left
 focus iterate 4 (refine nl ?_; simp only [pt, sb, s0, s1])
 rotate_left
 focus iterate 4 (refine nl ?_; simp only [pt, sb, s0, s1])
 rotate_left
 all_goals (refine yl (v := ?_) ?_ ?_; rotate_left; (intro w0 hS0; obtain ⟨⟨q0, q1, q2, q3, q4, q5, q6, q7⟩, hH⟩ := hS0; go_simp; try with_reducible rfl); simp only [pt, sb, s0, s1])
 all_goals refine tame_done (by kernel_rfl) ?_ _
 all_goals intro w1 hS1
 rcases vD.eq_false_or_eq_true with rfl | rfl
 rotate_left
 iterate 4
  go_wp2
  go_ret
  exact layEnds_no HL.out.1 hS1.2.1.out.bel
 go_wp2_with fail
 refine last_region (LaySPort w b m most x) 5 (by kernel_rfl) (laySPort_of hS1.2.1.out.drew (hS1.2.2.out.below (Below.refl _ _).drew)) ?_
 iterate 4 (refine ly 6 (v := ?_) (some _) rfl rfl (by kernel_rfl) (fun _ _ _ h => h) (does_yield (by kernel_rfl) ?_) ?_; rotate_left; (intro w0 hS0; obtain ⟨⟨q0, q1, q2, q3, q4, q5, q6, q7⟩, hH⟩ := hS0; go_simp; try with_reducible rfl); simp only [pt, sb, s0, s1])
 refine ly 6 (v := .int .i64 x.id) (some _) rfl rfl (by kernel_rfl) (fun _ _ _ h => h) (does_call (f := 297) (args := #[.agg #[.int .i64 x.id, .bool x.out, .bool x.queue, .int .i64 x.max, .slice x.itemsA x.items.length x.itemsC]]) (by kernel_rfl) ?_ ?_) ?_
 ·intro w0 hS0
  obtain ⟨⟨q0, q1, q2, q3, q4, q5, q6, q7⟩, hH⟩ := hS0
  go_simp
  try with_reducible rfl
 ·intro w0 hS0
  refine (numberPort_any x w0).mono ?_
  rintro e w2 ⟨rfl, hb2⟩
  exact ⟨rfl, laySPort_of (hS0.2.1.out.below hb2) (hS0.2.2.out.below hb2)⟩
 simp only [pt, sb, s0, s1]
 refine last_done rfl (by kernel_rfl) (by kernel_rfl) (by kernel_rfl) ?_
 intro w1 hS1
 obtain ⟨w2, hput, hend⟩ := hS1.2.1.out.put (by omega) Tryz.underlying123 HW.out.1 (HL.out.2 (by trivial)) HW.out.2.2 HW.out.2.1
 have HE : Hid (LayEnds w b m true x.id (portVs x) 61 (.returned (.bool true)) w2) := hend
 clear hend hS1
 go_simp
 go_wp2
 go_ret
 rw [HL.out.1]
 exact HE.out
end Go.Proofs.YtkbcplnlehdjfaaGreat

/- A shelf of a list of things of the kind Port. (Made by mkshelfof.py.) -/
namespace Go.Proofs.YtkbcplnlehdjfaaGreat
open Go.RowKit
attribute [local go_sem ↓] Go.wp_at_zero Go.wp_at_succ
/-- What holds at the head of each round. -/
def ShPortAt (w : World) (most : Int) (list : List PortD) (k : Nat) (wr : World) : Prop :=
 ∃ l : List (PortD × Nat), l.map (·.1) = list.take k ∧ ShIn portVs (fun x : PortD => x.id) 61 125 w wr most l ∧ thingsB (fun x : PortD => x.id) (fun x : PortD => portB x.toPortP) 0 (list.take k) = true ∧ (k : Int) ≤ max most 0
set_option maxRecDepth 100000 in
set_option maxHeartbeats 4000000 in
theorem shelfOfPort_any (a : Option Addr) (list : List PortD) (cap : Nat) (most : Int) (w : World) (hl : list.length ≤ 1048576) (h : portK.Lies w a list) (hf : ∀ x ∈ list, PortFit w x) (hw : ∀ x ∈ list, (Lit.int .i64 x.id).wf = true) :
  Calls Tryz.prog 152 #[.slice a list.length cap, .int .i64 most] w fun e w' => ShelfEnds portVs (fun x : PortD => x.id) 61 w most (thingsB (fun x : PortD => x.id) (fun x : PortD => portB x.toPortP) 0 list && decide ((list.length : Int) ≤ max most 0)) list e w' := by
 have hmk := run_makeMap (P := Tryz.prog) 123
 have hmn := meth_numberPort
 have H0 : Hid (ShIn portVs (fun x : PortD => x.id) 61 125 w (((w.alloc (.cells #[.int .i64 0, .map none] 125)).alloc (.map #[] 0)).alloc (.cells #[.int .i64 most, .map (some (w.heap.size + 1))] 125)) most []) := ShIn.start 125 w most
 have HL : Hid (portK.Lies w a list ∧ (∀ x ∈ list, PortFit w x) ∧ ∀ x ∈ list, (Lit.int .i64 x.id).wf = true) := ⟨h, hf, hw⟩
 clear h hf hw
 go_enter Tryz.func152, Tryz.ntmps152
 go_wp2_with fail
 go_loopw [7, 15] (fun last i wr => ∃ k : Nat, k ≤ list.length ∧ i = .int .i64 k ∧ last = .int .i64 (lastOf (fun x : PortD => x.id) 0 (list.take k)) ∧ Hid (ShPortAt w most list k wr)) (fun _ i _ => list.length - (intOf i).toNat)
 case atStart => exact ⟨0, Nat.zero_le _, rfl, rfl, ⟨[], by simp, H0.out, rfl, by simp; omega⟩⟩
 case round =>
  clear H0 hmk
  obtain ⟨k, hk, rfl, rfl, HA⟩ := hrel
  obtain ⟨l, hlm, hin, hth, hkm⟩ := HA.out
  have HT : Hid (l.map (·.1) = list.take k ∧ thingsB (fun x : PortD => x.id) (fun x : PortD => portB x.toPortP) 0 (list.take k) = true ∧ (k : Int) ≤ max most 0) := ⟨hlm, hth, hkm⟩
  have HI : Hid (ShIn portVs (fun x : PortD => x.id) 61 125 w wr most l) := hin
  clear HA hlm hin hth hkm
  by_cases hlt : k < list.length
  ·have i0 : (0 : Int) ≤ (k : Int) := by omega
   have i1 : (k : Int) < (list.length : Int) := by omega
   obtain ⟨x, hx⟩ : ∃ x, list[k]? = some x := ⟨_, List.getElem?_eq_getElem hlt⟩
   have hmem := List.mem_of_getElem? hx
   have HX : Hid (list[k]? = some x) := hx
   have HF : Hid (PortFit w x ∧ (Lit.int .i64 x.id).wf = true) := ⟨HL.out.2.1 x hmem, HL.out.2.2 x hmem⟩
   obtain ⟨gs, ha, hat⟩ := port_at (HL.out.1.below HI.out.bel) hx
   obtain ⟨c0, c1, c2, c3, c4⟩ := hat
   subst ha
   clear hx hmem
   go_wp2_with fail
   refine (numberPort_any x _).mono ?_
   rintro e w2 ⟨rfl, hb2⟩
   have HI2 : Hid (ShIn portVs (fun x : PortD => x.id) 61 125 w w2 most l) := (HI.out.below ((Below.refl _ wr).alloc (Nat.le_refl _) (.cells #[.int .i64 x.id, .bool x.out, .bool x.queue, .int .i64 x.max, .slice x.itemsA x.items.length x.itemsC] 61))).below hb2
   have HB : Hid (w2.heap[wr.heap.size]? = some (.cells (portVs x) 61 (0, 0))) := (hb2.block _ (by simp)).trans (heap_alloc_new _ _)
   have HZ : Hid (w.heap.size + 1 < wr.heap.size) := by show w.heap.size + 1 < wr.heap.size; have := (Array.getElem?_eq_some_iff.1 HI.out.var).1; omega
   clear hb2 HI c0 c1 c2 c3 c4
   obtain ⟨d0, d1, d2, d3, d4⟩ := port_cells HB.out
   obtain ⟨r0, r1, v0, v1, z0, z1⟩ := HI2.out.cells
   by_cases hle : x.id ≤ lastOf (fun x : PortD => x.id) 0 (list.take k)
   ·have HN : Hid ((thingsB (fun x : PortD => x.id) (fun x : PortD => portB x.toPortP) 0 list && decide ((list.length : Int) ≤ max most 0)) = false) := by
     show _ = false
     rw [things_no HX.out (fun hh => absurd hh.2.1 (by show ¬ lastOf (fun x : PortD => x.id) 0 (list.take k) < x.id; omega))]; rfl
    go_wp2
    refine bodyPost_ret (v := .tuple #[.agg #[.int .i64 0, .map none], .bool false]) (by simp [results, Tryz.results152, go_sem, *]) rfl ?_
    exact ⟨(HI2.out.away _ _).2, .inl ⟨HN.out, rfl⟩⟩
   have HLT : Hid (lastOf (fun x : PortD => x.id) 0 (list.take k) < x.id) := by show _ < _; omega
   have hkl : (keysOf (fun x : PortD => x.id) l).length ≤ 1048576 := by
    rw [keysOf_length]
    have := congrArg List.length HT.out.1
    simp only [List.length_map, List.length_take] at this
    omega
   go_wp2_with fail
   refine (layPort_any most (w.heap.size + 1) (keysOf (fun x : PortD => x.id) l) x w2 HI2.out.shelf.map HF.out.2 hkl (HF.out.1.below HI2.out.bel)).mono ?_
   rintro e w3 ⟨rfl, hno, hyes⟩
   cases hlay : layB most (keysOf (fun x : PortD => x.id) l) x.id (portB x.toPortP) with
   | false =>
    have HN : Hid ((thingsB (fun x : PortD => x.id) (fun x : PortD => portB x.toPortP) 0 list && decide ((list.length : Int) ≤ max most 0)) = false) := things_lay_no HX.out HT.out.1 HT.out.2.1 HLT.out hlay
    have HI3 : Hid (ShIn portVs (fun x : PortD => x.id) 61 125 w w3 most l) := HI2.out.below (hno hlay)
    clear hno hyes hlay HI2 r0 r1 v0 v1 z0 z1 d0 d1 d2 d3 d4 HB
    obtain ⟨r0, r1, v0, v1, z0, z1⟩ := HI3.out.cells
    go_wp2
    refine bodyPost_ret (v := .tuple #[.agg #[.int .i64 0, .map none], .bool false]) (by simp [results, Tryz.results152, go_sem, *]) rfl ?_
    exact ⟨(HI3.out.away _ _).2, .inl ⟨HN.out, rfl⟩⟩
   | true =>
    have HY : Hid (thingsB (fun x : PortD => x.id) (fun x : PortD => portB x.toPortP) 0 (list.take (k + 1)) = true ∧ ((k + 1 : Nat) : Int) ≤ max most 0) := things_lay_yes HX.out HT.out.1 HT.out.2.1 HLT.out hlay
    obtain ⟨g, hin4⟩ := HI2.out.lay (x := x) (e := .returned (.bool true)) (w' := w3) ⟨rfl, (fun h => by cases h), fun _ => hyes hlay⟩ (rises_last HT.out.1 HT.out.2.1 HLT.out)
    have HI4 : Hid (ShIn portVs (fun x : PortD => x.id) 61 125 w w3 most (l ++ [(x, g)])) := hin4
    have HB3 : Hid (w3.heap[wr.heap.size]? = some (.cells (portVs x) 61 (0, 0))) := by
     obtain ⟨g', _, _, _, hgr⟩ := hyes hlay
     exact (hgr.block _ (Array.getElem?_eq_some_iff.1 HB.out).1 (fun e => by have := Option.some.inj e; have := HZ.out; omega)).trans HB.out
    clear hno hyes hlay HI2 r0 r1 v0 v1 z0 z1 d0 d1 d2 d3 d4 HB hin4
    obtain ⟨d0, d1, d2, d3, d4⟩ := port_cells HB3.out
    go_wp2_with fail
    refine (numberPort_any x _).mono ?_
    rintro e w5 ⟨rfl, hb5⟩
    have HI5 : Hid (ShIn portVs (fun x : PortD => x.id) 61 125 w w5 most (l ++ [(x, g)])) := HI4.out.below hb5
    have HE : Hid (lastOf (fun x : PortD => x.id) 0 (list.take (k + 1)) = x.id) := lastOf_take HX.out 0
    clear hb5 HI4
    go_wp2
    go_roundw
    case rel => exact ⟨k + 1, by omega, by go_num, by rw [HE.out], ⟨l ++ [(x, g)], by rw [List.map_append, HT.out.1, take_up HX.out]; rfl, HI5.out, HY.out.1, HY.out.2⟩⟩
    case measure => simp [intOf]; omega
  ·have i1 : ¬ (k : Int) < (list.length : Int) := by omega
   have HK : Hid (list.take k = list ∧ ((list.length : Int) ≤ max most 0)) := ⟨List.take_of_length_le (by omega), by have := HT.out.2.2; omega⟩
   have HY : Hid ((thingsB (fun x : PortD => x.id) (fun x : PortD => portB x.toPortP) 0 list && decide ((list.length : Int) ≤ max most 0)) = true) := by
    show _ = true
    have h1 := HT.out.2.1
    rw [HK.out.1] at h1
    rw [h1, decide_eq_true HK.out.2]; rfl
   obtain ⟨r0, r1, v0, v1, z0, z1⟩ := HI.out.cells
   go_wp2
   refine bodyPost_ret (v := .tuple #[.agg #[.int .i64 most, .map (some (w.heap.size + 1))], .bool true]) (by simp [results, Tryz.results152, go_sem, *]) rfl ?_
   exact ⟨(HI.out.away _ _).2, .inr ⟨HY.out, w.heap.size + 1, l, rfl, by rw [HT.out.1, HK.out.1], (HI.out.away _ _).1⟩⟩
end Go.Proofs.YtkbcplnlehdjfaaGreat
