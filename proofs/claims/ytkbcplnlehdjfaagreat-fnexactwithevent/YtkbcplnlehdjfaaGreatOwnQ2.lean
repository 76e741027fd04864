/- What the proof leans on, part 2: SoEvent, LyBoard, SoBoard, LyBuffer, SoBuffer, LyPort, SoPort, OpenW, PSpec2, PSpec3, PartOwn, MkB, MkN, MkText. -/
import Derived.Deep.QuietTactic
import Derived.BigQuiet
import Derived.Lib.ItoaNum
import Derived.Laws.BytesString
import Derived.Test.YtkbcplnlehdjfaaGreatOwnQ0
import Derived.Test.YtkbcplnlehdjfaaGreatOwnQ1

namespace Go.Proofs.YtkbcplnlehdjfaaGreat
open Go.RowKit
attribute [local go_sem ↓] Go.wp_at_zero Go.wp_at_succ

/-- What holds at the head of each round. -/
def ShEventAt (w : World) (most : Int) (list : List EventD) (k : Nat) (wr : World) : Prop :=
 ∃ l : List (EventD × Nat), l.map (·.1) = list.take k ∧ ShIn eventVs (fun x : EventD => x.id) 138 116 w wr most l ∧ thingsB (fun x : EventD => x.id) (fun x : EventD => eventB x) 0 (list.take k) = true ∧ (k : Int) ≤ max most 0

set_option maxRecDepth 100000 in
set_option maxHeartbeats 4000000 in
theorem shelfOfEvent_any (a : Option Addr) (list : List EventD) (cap : Nat) (most : Int) (w : World) (hl : list.length ≤ 1048576) (h : eventK.Lies w a list) (hf : ∀ x ∈ list, EventFit w x) (hw : ∀ x ∈ list, (Lit.int .i64 x.id).wf = true) :
  Calls Tryz.prog 149 #[.slice a list.length cap, .int .i64 most] w fun e w' => ShelfEnds eventVs (fun x : EventD => x.id) 138 w most (thingsB (fun x : EventD => x.id) (fun x : EventD => eventB x) 0 list && decide ((list.length : Int) ≤ max most 0)) list e w' := by
 have hmk := run_makeMap (P := Tryz.prog) 114
 have hmn := meth_numberEvent
 have H0 : Hid (ShIn eventVs (fun x : EventD => x.id) 138 116 w (((w.alloc (.cells #[.int .i64 0, .map none] 116)).alloc (.map #[] 0)).alloc (.cells #[.int .i64 most, .map (some (w.heap.size + 1))] 116)) most []) := ShIn.start 116 w most
 have HL : Hid (eventK.Lies w a list ∧ (∀ x ∈ list, EventFit w x) ∧ ∀ x ∈ list, (Lit.int .i64 x.id).wf = true) := ⟨h, hf, hw⟩
 clear h hf hw
 go_enter Tryz.func149, Tryz.ntmps149
 go_wp2_with fail
 go_loopw [7, 15] (fun last i wr => ∃ k : Nat, k ≤ list.length ∧ i = .int .i64 k ∧ last = .int .i64 (lastOf (fun x : EventD => x.id) 0 (list.take k)) ∧ Hid (ShEventAt w most list k wr)) (fun _ i _ => list.length - (intOf i).toNat)
 case atStart => exact ⟨0, Nat.zero_le _, rfl, rfl, ⟨[], by simp, H0.out, rfl, by simp; omega⟩⟩
 case round =>
  clear H0 hmk
  obtain ⟨k, hk, rfl, rfl, HA⟩ := hrel
  obtain ⟨l, hlm, hin, hth, hkm⟩ := HA.out
  have HT : Hid (l.map (·.1) = list.take k ∧ thingsB (fun x : EventD => x.id) (fun x : EventD => eventB x) 0 (list.take k) = true ∧ (k : Int) ≤ max most 0) := ⟨hlm, hth, hkm⟩
  have HI : Hid (ShIn eventVs (fun x : EventD => x.id) 138 116 w wr most l) := hin
  clear HA hlm hin hth hkm
  by_cases hlt : k < list.length
  ·have i0 : (0 : Int) ≤ (k : Int) := by omega
   have i1 : (k : Int) < (list.length : Int) := by omega
   obtain ⟨x, hx⟩ : ∃ x, list[k]? = some x := ⟨_, List.getElem?_eq_getElem hlt⟩
   have hmem := List.mem_of_getElem? hx
   have HX : Hid (list[k]? = some x) := hx
   have HF : Hid (EventFit w x ∧ (Lit.int .i64 x.id).wf = true) := ⟨HL.out.2.1 x hmem, HL.out.2.2 x hmem⟩
   obtain ⟨gs, ha, hat⟩ := event_at (HL.out.1.below HI.out.bel) hx
   obtain ⟨c0, c1⟩ := hat
   subst ha
   clear hx hmem
   go_wp2_with fail
   refine (numberEvent_any x _).mono ?_
   rintro e w2 ⟨rfl, hb2⟩
   have HI2 : Hid (ShIn eventVs (fun x : EventD => x.id) 138 116 w w2 most l) := (HI.out.below ((Below.refl _ wr).alloc (Nat.le_refl _) (.cells #[.int .i64 x.id, .bool x.up] 138))).below hb2
   have HB : Hid (w2.heap[wr.heap.size]? = some (.cells (eventVs x) 138 (0, 0))) := (hb2.block _ (by simp)).trans (heap_alloc_new _ _)
   have HZ : Hid (w.heap.size + 1 < wr.heap.size) := by show w.heap.size + 1 < wr.heap.size; have := (Array.getElem?_eq_some_iff.1 HI.out.var).1; omega
   clear hb2 HI c0 c1
   obtain ⟨d0, d1⟩ := event_cells HB.out
   obtain ⟨r0, r1, v0, v1, z0, z1⟩ := HI2.out.cells
   by_cases hle : x.id ≤ lastOf (fun x : EventD => x.id) 0 (list.take k)
   ·have HN : Hid ((thingsB (fun x : EventD => x.id) (fun x : EventD => eventB x) 0 list && decide ((list.length : Int) ≤ max most 0)) = false) := by
     show _ = false
     rw [things_no HX.out (fun hh => absurd hh.2.1 (by show ¬ lastOf (fun x : EventD => x.id) 0 (list.take k) < x.id; omega))]; rfl
    go_wp2
    refine bodyPost_ret (v := .tuple #[.agg #[.int .i64 0, .map none], .bool false]) (by simp [results, Tryz.results149, go_sem, *]) rfl ?_
    exact ⟨(HI2.out.away _ _).2, .inl ⟨HN.out, rfl⟩⟩
   have HLT : Hid (lastOf (fun x : EventD => x.id) 0 (list.take k) < x.id) := by show _ < _; omega
   have hkl : (keysOf (fun x : EventD => x.id) l).length ≤ 1048576 := by
    rw [keysOf_length]
    have := congrArg List.length HT.out.1
    simp only [List.length_map, List.length_take] at this
    omega
   go_wp2_with fail
   refine (layEvent_any most (w.heap.size + 1) (keysOf (fun x : EventD => x.id) l) x w2 HI2.out.shelf.map HF.out.2 hkl (HF.out.1.below HI2.out.bel)).mono ?_
   rintro e w3 ⟨rfl, hno, hyes⟩
   cases hlay : layB most (keysOf (fun x : EventD => x.id) l) x.id (eventB x) with
   | false =>
    have HN : Hid ((thingsB (fun x : EventD => x.id) (fun x : EventD => eventB x) 0 list && decide ((list.length : Int) ≤ max most 0)) = false) := things_lay_no HX.out HT.out.1 HT.out.2.1 HLT.out hlay
    have HI3 : Hid (ShIn eventVs (fun x : EventD => x.id) 138 116 w w3 most l) := HI2.out.below (hno hlay)
    clear hno hyes hlay HI2 r0 r1 v0 v1 z0 z1 d0 d1 HB
    obtain ⟨r0, r1, v0, v1, z0, z1⟩ := HI3.out.cells
    go_wp2
    refine bodyPost_ret (v := .tuple #[.agg #[.int .i64 0, .map none], .bool false]) (by simp [results, Tryz.results149, go_sem, *]) rfl ?_
    exact ⟨(HI3.out.away _ _).2, .inl ⟨HN.out, rfl⟩⟩
   | true =>
    have HY : Hid (thingsB (fun x : EventD => x.id) (fun x : EventD => eventB x) 0 (list.take (k + 1)) = true ∧ ((k + 1 : Nat) : Int) ≤ max most 0) := things_lay_yes HX.out HT.out.1 HT.out.2.1 HLT.out hlay
    obtain ⟨g, hin4⟩ := HI2.out.lay (x := x) (e := .returned (.bool true)) (w' := w3) ⟨rfl, (fun h => by cases h), fun _ => hyes hlay⟩ (rises_last HT.out.1 HT.out.2.1 HLT.out)
    have HI4 : Hid (ShIn eventVs (fun x : EventD => x.id) 138 116 w w3 most (l ++ [(x, g)])) := hin4
    have HB3 : Hid (w3.heap[wr.heap.size]? = some (.cells (eventVs x) 138 (0, 0))) := by
     obtain ⟨g', _, _, _, hgr⟩ := hyes hlay
     exact (hgr.block _ (Array.getElem?_eq_some_iff.1 HB.out).1 (fun e => by have := Option.some.inj e; have := HZ.out; omega)).trans HB.out
    clear hno hyes hlay HI2 r0 r1 v0 v1 z0 z1 d0 d1 HB hin4
    obtain ⟨d0, d1⟩ := event_cells HB3.out
    go_wp2_with fail
    refine (numberEvent_any x _).mono ?_
    rintro e w5 ⟨rfl, hb5⟩
    have HI5 : Hid (ShIn eventVs (fun x : EventD => x.id) 138 116 w w5 most (l ++ [(x, g)])) := HI4.out.below hb5
    have HE : Hid (lastOf (fun x : EventD => x.id) 0 (list.take (k + 1)) = x.id) := lastOf_take HX.out 0
    clear hb5 HI4
    go_wp2
    go_roundw
    case rel => exact ⟨k + 1, by omega, by go_num, by rw [HE.out], ⟨l ++ [(x, g)], by rw [List.map_append, HT.out.1, take_up HX.out]; rfl, HI5.out, HY.out.1, HY.out.2⟩⟩
    case measure => simp [intOf]; omega
  ·have i1 : ¬ (k : Int) < (list.length : Int) := by omega
   have HK : Hid (list.take k = list ∧ ((list.length : Int) ≤ max most 0)) := ⟨List.take_of_length_le (by omega), by have := HT.out.2.2; omega⟩
   have HY : Hid ((thingsB (fun x : EventD => x.id) (fun x : EventD => eventB x) 0 list && decide ((list.length : Int) ≤ max most 0)) = true) := by
    show _ = true
    have h1 := HT.out.2.1
    rw [HK.out.1] at h1
    rw [h1, decide_eq_true HK.out.2]; rfl
   obtain ⟨r0, r1, v0, v1, z0, z1⟩ := HI.out.cells
   go_wp2
   refine bodyPost_ret (v := .tuple #[.agg #[.int .i64 most, .map (some (w.heap.size + 1))], .bool true]) (by simp [results, Tryz.results149, go_sem, *]) rfl ?_
   exact ⟨(HI.out.away _ _).2, .inr ⟨HY.out, w.heap.size + 1, l, rfl, by rw [HT.out.1, HK.out.1], (HI.out.away _ _).1⟩⟩

end Go.Proofs.YtkbcplnlehdjfaaGreat

/- Laying a thing of the kind Board into its shelf. (Made by mkshelf.py.) -/
namespace Go.Proofs.YtkbcplnlehdjfaaGreat
open Go.RowKit
attribute [local go_sem ↓] Go.wp_at_zero Go.wp_at_succ

/-- What every order of laying in keeps. -/
def LaySBoard (w : World) (b : Nat) (m : MapL) (most : Int) (x : BoardD) (w' : World) : Prop := (w'.cell? ⟨w.heap.size, 0, none⟩ = some (.int .i64 most) ∧ w'.cell? ⟨w.heap.size, 1, none⟩ = some (.map (some b)) ∧ (∀ ty, (Builtin.len_ #[117] ty #[.map (some b)]).run Tryz.prog w' = .ok (.int .i64 (m.length : Int)) w') ∧ w'.cell? ⟨w.heap.size + 1, 0, none⟩ = some (.int .i64 x.id) ∧ w'.cell? ⟨w.heap.size + 1, 1, none⟩ = some (.bool x.shown) ∧ w'.cell? ⟨w.heap.size + 1, 2, none⟩ = some (.string x.text)) ∧ Hid (LayIn w w' w.heap.size (w.heap.size + 1) b m most (boardVs x) 141 119) ∧ Hid (BoardFit w' x)
theorem laySBoard_of {w w' : World} {b : Nat} {m : MapL} {most : Int} {x : BoardD} (h : LayIn w w' w.heap.size (w.heap.size + 1) b m most (boardVs x) 141 119) (hf : BoardFit w' x) : LaySBoard w b m most x w' :=
 ⟨⟨h.cells.1, h.cells.2, fun ty => h.mp.len Tryz.underlying117 ty, board_cells h.bx⟩, h, hf⟩
set_option maxRecDepth 100000 in
set_option maxHeartbeats 16000000 in
theorem layBoard_any (most : Int) (b : Nat) (m : MapL) (x : BoardD) (w : World) (h : MapIs w b m) (hw : (Lit.int .i64 x.id).wf = true) (hm : m.length ≤ 1048576) (hf : BoardFit w x) :
  Calls Tryz.prog 91 #[.agg #[.int .i64 most, .map (some b)], .agg (boardVs x)] w fun e w' => LayEnds w b m (layB most m x.id (boardB x)) x.id (boardVs x) 141 e w' := by
 have HF : Hid (LayIn w ((w.alloc (.cells #[.int .i64 most, .map (some b)] 119)).alloc (.cells (boardVs x) 141)) w.heap.size (w.heap.size + 1) b m most (boardVs x) 141 119) := LayIn.start w h most _ _ _
 have HW : Hid ((Lit.int .i64 x.id).wf = true ∧ ¬ w.heap.size + 1 = b ∧ m.length ≤ 1048576) := ⟨hw, by have := h.lt; omega, hm⟩
 have HI : Hid (BoardFit ((w.alloc (.cells #[.int .i64 most, .map (some b)] 119)).alloc (.cells (boardVs x) 141)) x) := hf.below ((((Below.refl _ w).alloc (Nat.le_refl _) _)).alloc (by simp) _)
 have hmn := meth_numberBoard
 have hmr := meth_rightBoard
 obtain ⟨s0, s1⟩ := HF.out.cells
 obtain ⟨c0, c1, c2⟩ := board_cells HF.out.bx
 clear h hw hf hm
 unfold boardVs at *
 go_enter Tryz.func91, Tryz.ntmps91
 go_wp2_with fail
 clear s0 s1 c0 c1 c2
 obtain ⟨vA, hA⟩ : ∃ v, (lookM m x.id).isSome = v := ⟨_, rfl⟩
 obtain ⟨vB, hBd⟩ : ∃ v, decide (most ≤ (m.length : Int)) = v := ⟨_, rfl⟩
 obtain ⟨vC, hC⟩ : ∃ v, inB x.id 1 1000 = v := ⟨_, rfl⟩
 obtain ⟨vD, hD⟩ : ∃ v, boardB x = v := ⟨_, rfl⟩
 have HL : Hid (layB most m x.id (boardB x) = (!vA && !vB && vC && vD) ∧ (vA = false → lookM m x.id = none)) := ⟨layB_of hA hBd hC hD, fun e => Option.isNone_iff_eq_none.1 (Option.isSome_eq_false_iff.1 (hA.trans e))⟩
 have HA : Hid (Ending.returned (.bool (lookM m x.id).isSome) = .returned (.bool vA)) := ret_bool hA
 have HC : Hid (Ending.returned (.bool (inB x.id 1 1000)) = .returned (.bool vC)) := ret_bool hC
 have HD : Hid (Ending.returned (.bool (boardB x)) = .returned (.bool vD)) := ret_bool hD
 clear hA hC hD
 refine tame_region (LaySBoard w b m most x) (by kernel_rfl) (laySBoard_of HF.out.drew (HI.out.below (Below.refl _ _).drew)) ?_
 iterate 3 (refine yl (v := ?_) ?_ ?_; rotate_left; (intro w0 hS0; obtain ⟨⟨q0, q1, q2, q3, q4, q5⟩, hH⟩ := hS0; go_simp; try with_reducible rfl); simp only [pt, sb, s0, s1])
 (refine cl (.int .i64 x.id) 310 #[.agg #[.int .i64 x.id, .bool x.shown, .string x.text]] ?_ ?_ ?_; (intro w0 hS0; obtain ⟨⟨q0, q1, q2, q3, q4, q5⟩, hH⟩ := hS0; go_simp; try with_reducible rfl); (intro w0 hS0; refine (numberBoard_any x w0).mono ?_; rintro e w2 ⟨rfl, hb2⟩; exact ⟨rfl, laySBoard_of (hS0.2.1.out.below hb2) (hS0.2.2.out.below hb2)⟩); simp only [pt, sb, s0, s1])
 (refine cl (.bool vA) 177 #[.agg #[.int .i64 most, .map (some b)], .int .i64 x.id] ?_ ?_ ?_; (intro w0 hS0; obtain ⟨⟨q0, q1, q2, q3, q4, q5⟩, hH⟩ := hS0; go_simp; try with_reducible rfl); (intro w0 hS0; refine (hasBoard_any most b m x.id w0 hS0.2.1.out.mp HW.out.1).mono ?_; rintro e w2 ⟨rfl, hb2⟩; exact ⟨HA.out, laySBoard_of (hS0.2.1.out.below hb2) (hS0.2.2.out.below hb2)⟩); simp only [pt, sb, s0, s1])
 (refine yl (v := ?_) ?_ ?_; rotate_left; (intro w0 hS0; obtain ⟨⟨q0, q1, q2, q3, q4, q5⟩, hH⟩ := hS0; go_simp; try with_reducible rfl); simp only [pt, sb, s0, s1])
 rcases vA.eq_false_or_eq_true with rfl | rfl
 focus iterate 6 (refine nl ?_; simp only [pt, sb, s0, s1])
 rotate_left
 focus iterate 6 (refine yl (v := ?_) ?_ ?_; rotate_left; (intro w0 hS0; obtain ⟨⟨q0, q1, q2, q3, q4, q5⟩, hH⟩ := hS0; go_simp; try with_reducible rfl); simp only [pt, sb, s0, s1])
 all_goals iterate 2 (refine yl (v := ?_) ?_ ?_; rotate_left; (intro w0 hS0; obtain ⟨⟨q0, q1, q2, q3, q4, q5⟩, hH⟩ := hS0; go_simp; try with_reducible rfl); simp only [pt, sb, s0, s1])
 rcases vB.eq_false_or_eq_true with rfl | rfl
 focus iterate 5 (refine nl ?_; simp only [pt, sb, s0, s1])
 rotate_left
 focus
  iterate 2 (refine yl (v := ?_) ?_ ?_; rotate_left; (intro w0 hS0; obtain ⟨⟨q0, q1, q2, q3, q4, q5⟩, hH⟩ := hS0; go_simp; try with_reducible rfl); simp only [pt, sb, s0, s1])
  (refine cl (.int .i64 x.id) 310 #[.agg #[.int .i64 x.id, .bool x.shown, .string x.text]] ?_ ?_ ?_; (intro w0 hS0; obtain ⟨⟨q0, q1, q2, q3, q4, q5⟩, hH⟩ := hS0; go_simp; try with_reducible rfl); (intro w0 hS0; refine (numberBoard_any x w0).mono ?_; rintro e w2 ⟨rfl, hb2⟩; exact ⟨rfl, laySBoard_of (hS0.2.1.out.below hb2) (hS0.2.2.out.below hb2)⟩); simp only [pt, sb, s0, s1])
  (refine cl (.bool vC) 164 #[.int .i64 x.id] ?_ ?_ ?_; (intro w0 hS0; obtain ⟨⟨q0, q1, q2, q3, q4, q5⟩, hH⟩ := hS0; go_simp; try with_reducible rfl); (intro w0 hS0; refine (isNumber_any x.id w0).mono ?_; rintro e w2 ⟨rfl, rfl⟩; exact ⟨HC.out, hS0⟩); simp only [pt, sb, s0, s1])
  (refine yl (v := ?_) ?_ ?_; rotate_left; (intro w0 hS0; obtain ⟨⟨q0, q1, q2, q3, q4, q5⟩, hH⟩ := hS0; go_simp; try with_reducible rfl); simp only [pt, sb, s0, s1])
 rotate_left
 focus iterate 5 (refine nl ?_; simp only [pt, sb, s0, s1])
 all_goals iterate 2 (refine yl (v := ?_) ?_ ?_; rotate_left; (intro w0 hS0; obtain ⟨⟨q0, q1, q2, q3, q4, q5⟩, hH⟩ := hS0; go_simp; try with_reducible rfl); simp only [pt, sb, s0, s1])
 rotate_right
 rcases vC.eq_false_or_eq_true with rfl | rfl
 focus
  iterate 2 (refine yl (v := ?_) ?_ ?_; rotate_left; (intro w0 hS0; obtain ⟨⟨q0, q1, q2, q3, q4, q5⟩, hH⟩ := hS0; go_simp; try with_reducible rfl); simp only [pt, sb, s0, s1])
  (refine cl (.bool vD) 311 #[.agg #[.int .i64 x.id, .bool x.shown, .string x.text]] ?_ ?_ ?_; (intro w0 hS0; obtain ⟨⟨q0, q1, q2, q3, q4, q5⟩, hH⟩ := hS0; go_simp; try with_reducible rfl); (intro w0 hS0; refine (rightBoard_any x w0 hS0.2.2.out).mono ?_; rintro e w2 ⟨rfl, hb2⟩; exact ⟨HD.out, laySBoard_of (hS0.2.1.out.below hb2) (hS0.2.2.out.below hb2)⟩); simp only [pt, sb, s0, s1])
  (refine yl (v := ?_) ?_ ?_; rotate_left; (intro w0 hS0; obtain ⟨⟨q0, q1, q2, q3, q4, q5⟩, hH⟩ := hS0; go_simp; try with_reducible rfl); simp only [pt, sb, s0, s1])
 rotate_left
 focus iterate 4 (refine nl ?_; simp only [pt, sb, s0, s1])
 rotate_left
 focus iterate 4 (refine nl ?_; simp only [pt, sb, s0, s1])
 rotate_left
 focus iterate 4 (refine nl ?_; simp only [pt, sb, s0, s1])
 rotate_left
 all_goals (refine yl (v := ?_) ?_ ?_; rotate_left; (intro w0 hS0; obtain ⟨⟨q0, q1, q2, q3, q4, q5⟩, hH⟩ := hS0; go_simp; try with_reducible rfl); simp only [pt, sb, s0, s1])
 all_goals refine tame_done (by kernel_rfl) ?_ _
 all_goals intro w1 hS1
 rcases vD.eq_false_or_eq_true with rfl | rfl
 rotate_left
 iterate 4
  go_wp2
  go_ret
  exact layEnds_no HL.out.1 hS1.2.1.out.bel
 go_wp2_with fail
 refine last_region (LaySBoard w b m most x) 5 (by kernel_rfl) (laySBoard_of hS1.2.1.out.drew (hS1.2.2.out.below (Below.refl _ _).drew)) ?_
 iterate 4 (refine ly 6 (v := ?_) (some _) rfl rfl (by kernel_rfl) (fun _ _ _ h => h) (does_yield (by kernel_rfl) ?_) ?_; rotate_left; (intro w0 hS0; obtain ⟨⟨q0, q1, q2, q3, q4, q5⟩, hH⟩ := hS0; go_simp; try with_reducible rfl); simp only [pt, sb, s0, s1])
 refine ly 6 (v := .int .i64 x.id) (some _) rfl rfl (by kernel_rfl) (fun _ _ _ h => h) (does_call (f := 310) (args := #[.agg #[.int .i64 x.id, .bool x.shown, .string x.text]]) (by kernel_rfl) ?_ ?_) ?_
 ·intro w0 hS0
  obtain ⟨⟨q0, q1, q2, q3, q4, q5⟩, hH⟩ := hS0
  go_simp
  try with_reducible rfl
 ·intro w0 hS0
  refine (numberBoard_any x w0).mono ?_
  rintro e w2 ⟨rfl, hb2⟩
  exact ⟨rfl, laySBoard_of (hS0.2.1.out.below hb2) (hS0.2.2.out.below hb2)⟩
 simp only [pt, sb, s0, s1]
 refine last_done rfl (by kernel_rfl) (by kernel_rfl) (by kernel_rfl) ?_
 intro w1 hS1
 obtain ⟨w2, hput, hend⟩ := hS1.2.1.out.put (by omega) Tryz.underlying117 HW.out.1 (HL.out.2 (by trivial)) HW.out.2.2 HW.out.2.1
 have HE : Hid (LayEnds w b m true x.id (boardVs x) 141 (.returned (.bool true)) w2) := hend
 clear hend hS1
 go_simp
 go_wp2
 go_ret
 rw [HL.out.1]
 exact HE.out

end Go.Proofs.YtkbcplnlehdjfaaGreat

/- A shelf of a list of things of the kind Board. (Made by mkshelfof.py.) -/
namespace Go.Proofs.YtkbcplnlehdjfaaGreat
open Go.RowKit
attribute [local go_sem ↓] Go.wp_at_zero Go.wp_at_succ

/-- What holds at the head of each round. -/
def ShBoardAt (w : World) (most : Int) (list : List BoardD) (k : Nat) (wr : World) : Prop :=
 ∃ l : List (BoardD × Nat), l.map (·.1) = list.take k ∧ ShIn boardVs (fun x : BoardD => x.id) 141 119 w wr most l ∧ thingsB (fun x : BoardD => x.id) (fun x : BoardD => boardB x) 0 (list.take k) = true ∧ (k : Int) ≤ max most 0

set_option maxRecDepth 100000 in
set_option maxHeartbeats 4000000 in
theorem shelfOfBoard_any (a : Option Addr) (list : List BoardD) (cap : Nat) (most : Int) (w : World) (hl : list.length ≤ 1048576) (h : boardK.Lies w a list) (hf : ∀ x ∈ list, BoardFit w x) (hw : ∀ x ∈ list, (Lit.int .i64 x.id).wf = true) :
  Calls Tryz.prog 150 #[.slice a list.length cap, .int .i64 most] w fun e w' => ShelfEnds boardVs (fun x : BoardD => x.id) 141 w most (thingsB (fun x : BoardD => x.id) (fun x : BoardD => boardB x) 0 list && decide ((list.length : Int) ≤ max most 0)) list e w' := by
 have hmk := run_makeMap (P := Tryz.prog) 117
 have hmn := meth_numberBoard
 have H0 : Hid (ShIn boardVs (fun x : BoardD => x.id) 141 119 w (((w.alloc (.cells #[.int .i64 0, .map none] 119)).alloc (.map #[] 0)).alloc (.cells #[.int .i64 most, .map (some (w.heap.size + 1))] 119)) most []) := ShIn.start 119 w most
 have HL : Hid (boardK.Lies w a list ∧ (∀ x ∈ list, BoardFit w x) ∧ ∀ x ∈ list, (Lit.int .i64 x.id).wf = true) := ⟨h, hf, hw⟩
 clear h hf hw
 go_enter Tryz.func150, Tryz.ntmps150
 go_wp2_with fail
 go_loopw [7, 15] (fun last i wr => ∃ k : Nat, k ≤ list.length ∧ i = .int .i64 k ∧ last = .int .i64 (lastOf (fun x : BoardD => x.id) 0 (list.take k)) ∧ Hid (ShBoardAt w most list k wr)) (fun _ i _ => list.length - (intOf i).toNat)
 case atStart => exact ⟨0, Nat.zero_le _, rfl, rfl, ⟨[], by simp, H0.out, rfl, by simp; omega⟩⟩
 case round =>
  clear H0 hmk
  obtain ⟨k, hk, rfl, rfl, HA⟩ := hrel
  obtain ⟨l, hlm, hin, hth, hkm⟩ := HA.out
  have HT : Hid (l.map (·.1) = list.take k ∧ thingsB (fun x : BoardD => x.id) (fun x : BoardD => boardB x) 0 (list.take k) = true ∧ (k : Int) ≤ max most 0) := ⟨hlm, hth, hkm⟩
  have HI : Hid (ShIn boardVs (fun x : BoardD => x.id) 141 119 w wr most l) := hin
  clear HA hlm hin hth hkm
  by_cases hlt : k < list.length
  ·have i0 : (0 : Int) ≤ (k : Int) := by omega
   have i1 : (k : Int) < (list.length : Int) := by omega
   obtain ⟨x, hx⟩ : ∃ x, list[k]? = some x := ⟨_, List.getElem?_eq_getElem hlt⟩
   have hmem := List.mem_of_getElem? hx
   have HX : Hid (list[k]? = some x) := hx
   have HF : Hid (BoardFit w x ∧ (Lit.int .i64 x.id).wf = true) := ⟨HL.out.2.1 x hmem, HL.out.2.2 x hmem⟩
   obtain ⟨gs, ha, hat⟩ := board_at (HL.out.1.below HI.out.bel) hx
   obtain ⟨c0, c1, c2⟩ := hat
   subst ha
   clear hx hmem
   go_wp2_with fail
   refine (numberBoard_any x _).mono ?_
   rintro e w2 ⟨rfl, hb2⟩
   have HI2 : Hid (ShIn boardVs (fun x : BoardD => x.id) 141 119 w w2 most l) := (HI.out.below ((Below.refl _ wr).alloc (Nat.le_refl _) (.cells #[.int .i64 x.id, .bool x.shown, .string x.text] 141))).below hb2
   have HB : Hid (w2.heap[wr.heap.size]? = some (.cells (boardVs x) 141 (0, 0))) := (hb2.block _ (by simp)).trans (heap_alloc_new _ _)
   have HZ : Hid (w.heap.size + 1 < wr.heap.size) := by show w.heap.size + 1 < wr.heap.size; have := (Array.getElem?_eq_some_iff.1 HI.out.var).1; omega
   clear hb2 HI c0 c1 c2
   obtain ⟨d0, d1, d2⟩ := board_cells HB.out
   obtain ⟨r0, r1, v0, v1, z0, z1⟩ := HI2.out.cells
   by_cases hle : x.id ≤ lastOf (fun x : BoardD => x.id) 0 (list.take k)
   ·have HN : Hid ((thingsB (fun x : BoardD => x.id) (fun x : BoardD => boardB x) 0 list && decide ((list.length : Int) ≤ max most 0)) = false) := by
     show _ = false
     rw [things_no HX.out (fun hh => absurd hh.2.1 (by show ¬ lastOf (fun x : BoardD => x.id) 0 (list.take k) < x.id; omega))]; rfl
    go_wp2
    refine bodyPost_ret (v := .tuple #[.agg #[.int .i64 0, .map none], .bool false]) (by simp [results, Tryz.results150, go_sem, *]) rfl ?_
    exact ⟨(HI2.out.away _ _).2, .inl ⟨HN.out, rfl⟩⟩
   have HLT : Hid (lastOf (fun x : BoardD => x.id) 0 (list.take k) < x.id) := by show _ < _; omega
   have hkl : (keysOf (fun x : BoardD => x.id) l).length ≤ 1048576 := by
    rw [keysOf_length]
    have := congrArg List.length HT.out.1
    simp only [List.length_map, List.length_take] at this
    omega
   go_wp2_with fail
   refine (layBoard_any most (w.heap.size + 1) (keysOf (fun x : BoardD => x.id) l) x w2 HI2.out.shelf.map HF.out.2 hkl (HF.out.1.below HI2.out.bel)).mono ?_
   rintro e w3 ⟨rfl, hno, hyes⟩
   cases hlay : layB most (keysOf (fun x : BoardD => x.id) l) x.id (boardB x) with
   | false =>
    have HN : Hid ((thingsB (fun x : BoardD => x.id) (fun x : BoardD => boardB x) 0 list && decide ((list.length : Int) ≤ max most 0)) = false) := things_lay_no HX.out HT.out.1 HT.out.2.1 HLT.out hlay
    have HI3 : Hid (ShIn boardVs (fun x : BoardD => x.id) 141 119 w w3 most l) := HI2.out.below (hno hlay)
    clear hno hyes hlay HI2 r0 r1 v0 v1 z0 z1 d0 d1 d2 HB
    obtain ⟨r0, r1, v0, v1, z0, z1⟩ := HI3.out.cells
    go_wp2
    refine bodyPost_ret (v := .tuple #[.agg #[.int .i64 0, .map none], .bool false]) (by simp [results, Tryz.results150, go_sem, *]) rfl ?_
    exact ⟨(HI3.out.away _ _).2, .inl ⟨HN.out, rfl⟩⟩
   | true =>
    have HY : Hid (thingsB (fun x : BoardD => x.id) (fun x : BoardD => boardB x) 0 (list.take (k + 1)) = true ∧ ((k + 1 : Nat) : Int) ≤ max most 0) := things_lay_yes HX.out HT.out.1 HT.out.2.1 HLT.out hlay
    obtain ⟨g, hin4⟩ := HI2.out.lay (x := x) (e := .returned (.bool true)) (w' := w3) ⟨rfl, (fun h => by cases h), fun _ => hyes hlay⟩ (rises_last HT.out.1 HT.out.2.1 HLT.out)
    have HI4 : Hid (ShIn boardVs (fun x : BoardD => x.id) 141 119 w w3 most (l ++ [(x, g)])) := hin4
    have HB3 : Hid (w3.heap[wr.heap.size]? = some (.cells (boardVs x) 141 (0, 0))) := by
     obtain ⟨g', _, _, _, hgr⟩ := hyes hlay
     exact (hgr.block _ (Array.getElem?_eq_some_iff.1 HB.out).1 (fun e => by have := Option.some.inj e; have := HZ.out; omega)).trans HB.out
    clear hno hyes hlay HI2 r0 r1 v0 v1 z0 z1 d0 d1 d2 HB hin4
    obtain ⟨d0, d1, d2⟩ := board_cells HB3.out
    go_wp2_with fail
    refine (numberBoard_any x _).mono ?_
    rintro e w5 ⟨rfl, hb5⟩
    have HI5 : Hid (ShIn boardVs (fun x : BoardD => x.id) 141 119 w w5 most (l ++ [(x, g)])) := HI4.out.below hb5
    have HE : Hid (lastOf (fun x : BoardD => x.id) 0 (list.take (k + 1)) = x.id) := lastOf_take HX.out 0
    clear hb5 HI4
    go_wp2
    go_roundw
    case rel => exact ⟨k + 1, by omega, by go_num, by rw [HE.out], ⟨l ++ [(x, g)], by rw [List.map_append, HT.out.1, take_up HX.out]; rfl, HI5.out, HY.out.1, HY.out.2⟩⟩
    case measure => simp [intOf]; omega
  ·have i1 : ¬ (k : Int) < (list.length : Int) := by omega
   have HK : Hid (list.take k = list ∧ ((list.length : Int) ≤ max most 0)) := ⟨List.take_of_length_le (by omega), by have := HT.out.2.2; omega⟩
   have HY : Hid ((thingsB (fun x : BoardD => x.id) (fun x : BoardD => boardB x) 0 list && decide ((list.length : Int) ≤ max most 0)) = true) := by
    show _ = true
    have h1 := HT.out.2.1
    rw [HK.out.1] at h1
    rw [h1, decide_eq_true HK.out.2]; rfl
   obtain ⟨r0, r1, v0, v1, z0, z1⟩ := HI.out.cells
   go_wp2
   refine bodyPost_ret (v := .tuple #[.agg #[.int .i64 most, .map (some (w.heap.size + 1))], .bool true]) (by simp [results, Tryz.results150, go_sem, *]) rfl ?_
   exact ⟨(HI.out.away _ _).2, .inr ⟨HY.out, w.heap.size + 1, l, rfl, by rw [HT.out.1, HK.out.1], (HI.out.away _ _).1⟩⟩

end Go.Proofs.YtkbcplnlehdjfaaGreat

/- Laying a thing of the kind Buffer into its shelf. (Made by mkshelf.py.) -/
namespace Go.Proofs.YtkbcplnlehdjfaaGreat
open Go.RowKit
attribute [local go_sem ↓] Go.wp_at_zero Go.wp_at_succ

/-- What every order of laying in keeps. -/
def LaySBuffer (w : World) (b : Nat) (m : MapL) (most : Int) (x : BufferD) (w' : World) : Prop := (w'.cell? ⟨w.heap.size, 0, none⟩ = some (.int .i64 most) ∧ w'.cell? ⟨w.heap.size, 1, none⟩ = some (.map (some b)) ∧ (∀ ty, (Builtin.len_ #[120] ty #[.map (some b)]).run Tryz.prog w' = .ok (.int .i64 (m.length : Int)) w') ∧ w'.cell? ⟨w.heap.size + 1, 0, none⟩ = some (.int .i64 x.id) ∧ w'.cell? ⟨w.heap.size + 1, 1, none⟩ = some (.int .i64 x.max) ∧ w'.cell? ⟨w.heap.size + 1, 2, none⟩ = some (.slice x.itemsA x.items.length x.itemsC)) ∧ Hid (LayIn w w' w.heap.size (w.heap.size + 1) b m most (bufferVs x) 144 122) ∧ Hid (BufferFit w' x)
theorem laySBuffer_of {w w' : World} {b : Nat} {m : MapL} {most : Int} {x : BufferD} (h : LayIn w w' w.heap.size (w.heap.size + 1) b m most (bufferVs x) 144 122) (hf : BufferFit w' x) : LaySBuffer w b m most x w' :=
 ⟨⟨h.cells.1, h.cells.2, fun ty => h.mp.len Tryz.underlying120 ty, buffer_cells h.bx⟩, h, hf⟩
set_option maxRecDepth 100000 in
set_option maxHeartbeats 16000000 in
theorem layBuffer_any (most : Int) (b : Nat) (m : MapL) (x : BufferD) (w : World) (h : MapIs w b m) (hw : (Lit.int .i64 x.id).wf = true) (hm : m.length ≤ 1048576) (hf : BufferFit w x) :
  Calls Tryz.prog 92 #[.agg #[.int .i64 most, .map (some b)], .agg (bufferVs x)] w fun e w' => LayEnds w b m (layB most m x.id (bufferB x.toBufferP)) x.id (bufferVs x) 144 e w' := by
 have HF : Hid (LayIn w ((w.alloc (.cells #[.int .i64 most, .map (some b)] 122)).alloc (.cells (bufferVs x) 144)) w.heap.size (w.heap.size + 1) b m most (bufferVs x) 144 122) := LayIn.start w h most _ _ _
 have HW : Hid ((Lit.int .i64 x.id).wf = true ∧ ¬ w.heap.size + 1 = b ∧ m.length ≤ 1048576) := ⟨hw, by have := h.lt; omega, hm⟩
 have HI : Hid (BufferFit ((w.alloc (.cells #[.int .i64 most, .map (some b)] 122)).alloc (.cells (bufferVs x) 144)) x) := hf.below ((((Below.refl _ w).alloc (Nat.le_refl _) _)).alloc (by simp) _)
 have hmn := meth_numberBuffer
 have hmr := meth_rightBuffer
 obtain ⟨s0, s1⟩ := HF.out.cells
 obtain ⟨c0, c1, c2⟩ := buffer_cells HF.out.bx
 clear h hw hf hm
 unfold bufferVs at *
 go_enter Tryz.func92, Tryz.ntmps92
 go_wp2_with fail
 clear s0 s1 c0 c1 c2
 obtain ⟨vA, hA⟩ : ∃ v, (lookM m x.id).isSome = v := ⟨_, rfl⟩
 obtain ⟨vB, hBd⟩ : ∃ v, decide (most ≤ (m.length : Int)) = v := ⟨_, rfl⟩
 obtain ⟨vC, hC⟩ : ∃ v, inB x.id 1 1000 = v := ⟨_, rfl⟩
 obtain ⟨vD, hD⟩ : ∃ v, bufferB x.toBufferP = v := ⟨_, rfl⟩
 have HL : Hid (layB most m x.id (bufferB x.toBufferP) = (!vA && !vB && vC && vD) ∧ (vA = false → lookM m x.id = none)) := ⟨layB_of hA hBd hC hD, fun e => Option.isNone_iff_eq_none.1 (Option.isSome_eq_false_iff.1 (hA.trans e))⟩
 have HA : Hid (Ending.returned (.bool (lookM m x.id).isSome) = .returned (.bool vA)) := ret_bool hA
 have HC : Hid (Ending.returned (.bool (inB x.id 1 1000)) = .returned (.bool vC)) := ret_bool hC
 have HD : Hid (Ending.returned (.bool (bufferB x.toBufferP)) = .returned (.bool vD)) := ret_bool hD
 clear hA hC hD
 refine tame_region (LaySBuffer w b m most x) (by kernel_rfl) (laySBuffer_of HF.out.drew (HI.out.below (Below.refl _ _).drew)) ?_
 iterate 3 (refine yl (v := ?_) ?_ ?_; rotate_left; (intro w0 hS0; obtain ⟨⟨q0, q1, q2, q3, q4, q5⟩, hH⟩ := hS0; go_simp; try with_reducible rfl); simp only [pt, sb, s0, s1])
 (refine cl (.int .i64 x.id) 313 #[.agg #[.int .i64 x.id, .int .i64 x.max, .slice x.itemsA x.items.length x.itemsC]] ?_ ?_ ?_; (intro w0 hS0; obtain ⟨⟨q0, q1, q2, q3, q4, q5⟩, hH⟩ := hS0; go_simp; try with_reducible rfl); (intro w0 hS0; refine (numberBuffer_any x w0).mono ?_; rintro e w2 ⟨rfl, hb2⟩; exact ⟨rfl, laySBuffer_of (hS0.2.1.out.below hb2) (hS0.2.2.out.below hb2)⟩); simp only [pt, sb, s0, s1])
 (refine cl (.bool vA) 178 #[.agg #[.int .i64 most, .map (some b)], .int .i64 x.id] ?_ ?_ ?_; (intro w0 hS0; obtain ⟨⟨q0, q1, q2, q3, q4, q5⟩, hH⟩ := hS0; go_simp; try with_reducible rfl); (intro w0 hS0; refine (hasBuffer_any most b m x.id w0 hS0.2.1.out.mp HW.out.1).mono ?_; rintro e w2 ⟨rfl, hb2⟩; exact ⟨HA.out, laySBuffer_of (hS0.2.1.out.below hb2) (hS0.2.2.out.below hb2)⟩); simp only [pt, sb, s0, s1])
 (refine yl (v := ?_) ?_ ?_; rotate_left; (intro w0 hS0; obtain ⟨⟨q0, q1, q2, q3, q4, q5⟩, hH⟩ := hS0; go_simp; try with_reducible rfl); simp only [pt, sb, s0, s1])
 rcases vA.eq_false_or_eq_true with rfl | rfl
 focus iterate 6 (refine nl ?_; simp only [pt, sb, s0, s1])
 rotate_left
 focus iterate 6 (refine yl (v := ?_) ?_ ?_; rotate_left; (intro w0 hS0; obtain ⟨⟨q0, q1, q2, q3, q4, q5⟩, hH⟩ := hS0; go_simp; try with_reducible rfl); simp only [pt, sb, s0, s1])
 all_goals iterate 2 (refine yl (v := ?_) ?_ ?_; rotate_left; (intro w0 hS0; obtain ⟨⟨q0, q1, q2, q3, q4, q5⟩, hH⟩ := hS0; go_simp; try with_reducible rfl); simp only [pt, sb, s0, s1])
 rcases vB.eq_false_or_eq_true with rfl | rfl
 focus iterate 5 (refine nl ?_; simp only [pt, sb, s0, s1])
 rotate_left
 focus
  iterate 2 (refine yl (v := ?_) ?_ ?_; rotate_left; (intro w0 hS0; obtain ⟨⟨q0, q1, q2, q3, q4, q5⟩, hH⟩ := hS0; go_simp; try with_reducible rfl); simp only [pt, sb, s0, s1])
  (refine cl (.int .i64 x.id) 313 #[.agg #[.int .i64 x.id, .int .i64 x.max, .slice x.itemsA x.items.length x.itemsC]] ?_ ?_ ?_; (intro w0 hS0; obtain ⟨⟨q0, q1, q2, q3, q4, q5⟩, hH⟩ := hS0; go_simp; try with_reducible rfl); (intro w0 hS0; refine (numberBuffer_any x w0).mono ?_; rintro e w2 ⟨rfl, hb2⟩; exact ⟨rfl, laySBuffer_of (hS0.2.1.out.below hb2) (hS0.2.2.out.below hb2)⟩); simp only [pt, sb, s0, s1])
  (refine cl (.bool vC) 164 #[.int .i64 x.id] ?_ ?_ ?_; (intro w0 hS0; obtain ⟨⟨q0, q1, q2, q3, q4, q5⟩, hH⟩ := hS0; go_simp; try with_reducible rfl); (intro w0 hS0; refine (isNumber_any x.id w0).mono ?_; rintro e w2 ⟨rfl, rfl⟩; exact ⟨HC.out, hS0⟩); simp only [pt, sb, s0, s1])
  (refine yl (v := ?_) ?_ ?_; rotate_left; (intro w0 hS0; obtain ⟨⟨q0, q1, q2, q3, q4, q5⟩, hH⟩ := hS0; go_simp; try with_reducible rfl); simp only [pt, sb, s0, s1])
 rotate_left
 focus iterate 5 (refine nl ?_; simp only [pt, sb, s0, s1])
 all_goals iterate 2 (refine yl (v := ?_) ?_ ?_; rotate_left; (intro w0 hS0; obtain ⟨⟨q0, q1, q2, q3, q4, q5⟩, hH⟩ := hS0; go_simp; try with_reducible rfl); simp only [pt, sb, s0, s1])
 rotate_right
 rcases vC.eq_false_or_eq_true with rfl | rfl
 focus
  iterate 2 (refine yl (v := ?_) ?_ ?_; rotate_left; (intro w0 hS0; obtain ⟨⟨q0, q1, q2, q3, q4, q5⟩, hH⟩ := hS0; go_simp; try with_reducible rfl); simp only [pt, sb, s0, s1])
  (refine cl (.bool vD) 314 #[.agg #[.int .i64 x.id, .int .i64 x.max, .slice x.itemsA x.items.length x.itemsC]] ?_ ?_ ?_; (intro w0 hS0; obtain ⟨⟨q0, q1, q2, q3, q4, q5⟩, hH⟩ := hS0; go_simp; try with_reducible rfl); (intro w0 hS0; refine (rightBuffer_any x w0 hS0.2.2.out).mono ?_; rintro e w2 ⟨rfl, hb2⟩; exact ⟨HD.out, laySBuffer_of (hS0.2.1.out.below hb2) (hS0.2.2.out.below hb2)⟩); simp only [pt, sb, s0, s1])
  (refine yl (v := ?_) ?_ ?_; rotate_left; (intro w0 hS0; obtain ⟨⟨q0, q1, q2, q3, q4, q5⟩, hH⟩ := hS0; go_simp; try with_reducible rfl); simp only [pt, sb, s0, s1])
 rotate_left
 focus iterate 4 (refine nl ?_; simp only [pt, sb, s0, s1])
 rotate_left
 focus iterate 4 (refine nl ?_; simp only [pt, sb, s0, s1])
 rotate_left
 focus iterate 4 (refine nl ?_; simp only [pt, sb, s0, s1])
 rotate_left
 all_goals (refine yl (v := ?_) ?_ ?_; rotate_left; (intro w0 hS0; obtain ⟨⟨q0, q1, q2, q3, q4, q5⟩, hH⟩ := hS0; go_simp; try with_reducible rfl); simp only [pt, sb, s0, s1])
 all_goals refine tame_done (by kernel_rfl) ?_ _
 all_goals intro w1 hS1
 rcases vD.eq_false_or_eq_true with rfl | rfl
 rotate_left
 iterate 4
  go_wp2
  go_ret
  exact layEnds_no HL.out.1 hS1.2.1.out.bel
 go_wp2_with fail
 refine last_region (LaySBuffer w b m most x) 5 (by kernel_rfl) (laySBuffer_of hS1.2.1.out.drew (hS1.2.2.out.below (Below.refl _ _).drew)) ?_
 iterate 4 (refine ly 6 (v := ?_) (some _) rfl rfl (by kernel_rfl) (fun _ _ _ h => h) (does_yield (by kernel_rfl) ?_) ?_; rotate_left; (intro w0 hS0; obtain ⟨⟨q0, q1, q2, q3, q4, q5⟩, hH⟩ := hS0; go_simp; try with_reducible rfl); simp only [pt, sb, s0, s1])
 refine ly 6 (v := .int .i64 x.id) (some _) rfl rfl (by kernel_rfl) (fun _ _ _ h => h) (does_call (f := 313) (args := #[.agg #[.int .i64 x.id, .int .i64 x.max, .slice x.itemsA x.items.length x.itemsC]]) (by kernel_rfl) ?_ ?_) ?_
 ·intro w0 hS0
  obtain ⟨⟨q0, q1, q2, q3, q4, q5⟩, hH⟩ := hS0
  go_simp
  try with_reducible rfl
 ·intro w0 hS0
  refine (numberBuffer_any x w0).mono ?_
  rintro e w2 ⟨rfl, hb2⟩
  exact ⟨rfl, laySBuffer_of (hS0.2.1.out.below hb2) (hS0.2.2.out.below hb2)⟩
 simp only [pt, sb, s0, s1]
 refine last_done rfl (by kernel_rfl) (by kernel_rfl) (by kernel_rfl) ?_
 intro w1 hS1
 obtain ⟨w2, hput, hend⟩ := hS1.2.1.out.put (by omega) Tryz.underlying120 HW.out.1 (HL.out.2 (by trivial)) HW.out.2.2 HW.out.2.1
 have HE : Hid (LayEnds w b m true x.id (bufferVs x) 144 (.returned (.bool true)) w2) := hend
 clear hend hS1
 go_simp
 go_wp2
 go_ret
 rw [HL.out.1]
 exact HE.out

end Go.Proofs.YtkbcplnlehdjfaaGreat

/- A shelf of a list of things of the kind Buffer. (Made by mkshelfof.py.) -/
namespace Go.Proofs.YtkbcplnlehdjfaaGreat
open Go.RowKit
attribute [local go_sem ↓] Go.wp_at_zero Go.wp_at_succ

/-- What holds at the head of each round. -/
def ShBufferAt (w : World) (most : Int) (list : List BufferD) (k : Nat) (wr : World) : Prop :=
 ∃ l : List (BufferD × Nat), l.map (·.1) = list.take k ∧ ShIn bufferVs (fun x : BufferD => x.id) 144 122 w wr most l ∧ thingsB (fun x : BufferD => x.id) (fun x : BufferD => bufferB x.toBufferP) 0 (list.take k) = true ∧ (k : Int) ≤ max most 0

set_option maxRecDepth 100000 in
set_option maxHeartbeats 4000000 in
theorem shelfOfBuffer_any (a : Option Addr) (list : List BufferD) (cap : Nat) (most : Int) (w : World) (hl : list.length ≤ 1048576) (h : bufferK.Lies w a list) (hf : ∀ x ∈ list, BufferFit w x) (hw : ∀ x ∈ list, (Lit.int .i64 x.id).wf = true) :
  Calls Tryz.prog 151 #[.slice a list.length cap, .int .i64 most] w fun e w' => ShelfEnds bufferVs (fun x : BufferD => x.id) 144 w most (thingsB (fun x : BufferD => x.id) (fun x : BufferD => bufferB x.toBufferP) 0 list && decide ((list.length : Int) ≤ max most 0)) list e w' := by
 have hmk := run_makeMap (P := Tryz.prog) 120
 have hmn := meth_numberBuffer
 have H0 : Hid (ShIn bufferVs (fun x : BufferD => x.id) 144 122 w (((w.alloc (.cells #[.int .i64 0, .map none] 122)).alloc (.map #[] 0)).alloc (.cells #[.int .i64 most, .map (some (w.heap.size + 1))] 122)) most []) := ShIn.start 122 w most
 have HL : Hid (bufferK.Lies w a list ∧ (∀ x ∈ list, BufferFit w x) ∧ ∀ x ∈ list, (Lit.int .i64 x.id).wf = true) := ⟨h, hf, hw⟩
 clear h hf hw
 go_enter Tryz.func151, Tryz.ntmps151
 go_wp2_with fail
 go_loopw [7, 15] (fun last i wr => ∃ k : Nat, k ≤ list.length ∧ i = .int .i64 k ∧ last = .int .i64 (lastOf (fun x : BufferD => x.id) 0 (list.take k)) ∧ Hid (ShBufferAt w most list k wr)) (fun _ i _ => list.length - (intOf i).toNat)
 case atStart => exact ⟨0, Nat.zero_le _, rfl, rfl, ⟨[], by simp, H0.out, rfl, by simp; omega⟩⟩
 case round =>
  clear H0 hmk
  obtain ⟨k, hk, rfl, rfl, HA⟩ := hrel
  obtain ⟨l, hlm, hin, hth, hkm⟩ := HA.out
  have HT : Hid (l.map (·.1) = list.take k ∧ thingsB (fun x : BufferD => x.id) (fun x : BufferD => bufferB x.toBufferP) 0 (list.take k) = true ∧ (k : Int) ≤ max most 0) := ⟨hlm, hth, hkm⟩
  have HI : Hid (ShIn bufferVs (fun x : BufferD => x.id) 144 122 w wr most l) := hin
  clear HA hlm hin hth hkm
  by_cases hlt : k < list.length
  ·have i0 : (0 : Int) ≤ (k : Int) := by omega
   have i1 : (k : Int) < (list.length : Int) := by omega
   obtain ⟨x, hx⟩ : ∃ x, list[k]? = some x := ⟨_, List.getElem?_eq_getElem hlt⟩
   have hmem := List.mem_of_getElem? hx
   have HX : Hid (list[k]? = some x) := hx
   have HF : Hid (BufferFit w x ∧ (Lit.int .i64 x.id).wf = true) := ⟨HL.out.2.1 x hmem, HL.out.2.2 x hmem⟩
   obtain ⟨gs, ha, hat⟩ := buffer_at (HL.out.1.below HI.out.bel) hx
   obtain ⟨c0, c1, c2⟩ := hat
   subst ha
   clear hx hmem
   go_wp2_with fail
   refine (numberBuffer_any x _).mono ?_
   rintro e w2 ⟨rfl, hb2⟩
   have HI2 : Hid (ShIn bufferVs (fun x : BufferD => x.id) 144 122 w w2 most l) := (HI.out.below ((Below.refl _ wr).alloc (Nat.le_refl _) (.cells #[.int .i64 x.id, .int .i64 x.max, .slice x.itemsA x.items.length x.itemsC] 144))).below hb2
   have HB : Hid (w2.heap[wr.heap.size]? = some (.cells (bufferVs x) 144 (0, 0))) := (hb2.block _ (by simp)).trans (heap_alloc_new _ _)
   have HZ : Hid (w.heap.size + 1 < wr.heap.size) := by show w.heap.size + 1 < wr.heap.size; have := (Array.getElem?_eq_some_iff.1 HI.out.var).1; omega
   clear hb2 HI c0 c1 c2
   obtain ⟨d0, d1, d2⟩ := buffer_cells HB.out
   obtain ⟨r0, r1, v0, v1, z0, z1⟩ := HI2.out.cells
   by_cases hle : x.id ≤ lastOf (fun x : BufferD => x.id) 0 (list.take k)
   ·have HN : Hid ((thingsB (fun x : BufferD => x.id) (fun x : BufferD => bufferB x.toBufferP) 0 list && decide ((list.length : Int) ≤ max most 0)) = false) := by
     show _ = false
     rw [things_no HX.out (fun hh => absurd hh.2.1 (by show ¬ lastOf (fun x : BufferD => x.id) 0 (list.take k) < x.id; omega))]; rfl
    go_wp2
    refine bodyPost_ret (v := .tuple #[.agg #[.int .i64 0, .map none], .bool false]) (by simp [results, Tryz.results151, go_sem, *]) rfl ?_
    exact ⟨(HI2.out.away _ _).2, .inl ⟨HN.out, rfl⟩⟩
   have HLT : Hid (lastOf (fun x : BufferD => x.id) 0 (list.take k) < x.id) := by show _ < _; omega
   have hkl : (keysOf (fun x : BufferD => x.id) l).length ≤ 1048576 := by
    rw [keysOf_length]
    have := congrArg List.length HT.out.1
    simp only [List.length_map, List.length_take] at this
    omega
   go_wp2_with fail
   refine (layBuffer_any most (w.heap.size + 1) (keysOf (fun x : BufferD => x.id) l) x w2 HI2.out.shelf.map HF.out.2 hkl (HF.out.1.below HI2.out.bel)).mono ?_
   rintro e w3 ⟨rfl, hno, hyes⟩
   cases hlay : layB most (keysOf (fun x : BufferD => x.id) l) x.id (bufferB x.toBufferP) with
   | false =>
    have HN : Hid ((thingsB (fun x : BufferD => x.id) (fun x : BufferD => bufferB x.toBufferP) 0 list && decide ((list.length : Int) ≤ max most 0)) = false) := things_lay_no HX.out HT.out.1 HT.out.2.1 HLT.out hlay
    have HI3 : Hid (ShIn bufferVs (fun x : BufferD => x.id) 144 122 w w3 most l) := HI2.out.below (hno hlay)
    clear hno hyes hlay HI2 r0 r1 v0 v1 z0 z1 d0 d1 d2 HB
    obtain ⟨r0, r1, v0, v1, z0, z1⟩ := HI3.out.cells
    go_wp2
    refine bodyPost_ret (v := .tuple #[.agg #[.int .i64 0, .map none], .bool false]) (by simp [results, Tryz.results151, go_sem, *]) rfl ?_
    exact ⟨(HI3.out.away _ _).2, .inl ⟨HN.out, rfl⟩⟩
   | true =>
    have HY : Hid (thingsB (fun x : BufferD => x.id) (fun x : BufferD => bufferB x.toBufferP) 0 (list.take (k + 1)) = true ∧ ((k + 1 : Nat) : Int) ≤ max most 0) := things_lay_yes HX.out HT.out.1 HT.out.2.1 HLT.out hlay
    obtain ⟨g, hin4⟩ := HI2.out.lay (x := x) (e := .returned (.bool true)) (w' := w3) ⟨rfl, (fun h => by cases h), fun _ => hyes hlay⟩ (rises_last HT.out.1 HT.out.2.1 HLT.out)
    have HI4 : Hid (ShIn bufferVs (fun x : BufferD => x.id) 144 122 w w3 most (l ++ [(x, g)])) := hin4
    have HB3 : Hid (w3.heap[wr.heap.size]? = some (.cells (bufferVs x) 144 (0, 0))) := by
     obtain ⟨g', _, _, _, hgr⟩ := hyes hlay
     exact (hgr.block _ (Array.getElem?_eq_some_iff.1 HB.out).1 (fun e => by have := Option.some.inj e; have := HZ.out; omega)).trans HB.out
    clear hno hyes hlay HI2 r0 r1 v0 v1 z0 z1 d0 d1 d2 HB hin4
    obtain ⟨d0, d1, d2⟩ := buffer_cells HB3.out
    go_wp2_with fail
    refine (numberBuffer_any x _).mono ?_
    rintro e w5 ⟨rfl, hb5⟩
    have HI5 : Hid (ShIn bufferVs (fun x : BufferD => x.id) 144 122 w w5 most (l ++ [(x, g)])) := HI4.out.below hb5
    have HE : Hid (lastOf (fun x : BufferD => x.id) 0 (list.take (k + 1)) = x.id) := lastOf_take HX.out 0
    clear hb5 HI4
    go_wp2
    go_roundw
    case rel => exact ⟨k + 1, by omega, by go_num, by rw [HE.out], ⟨l ++ [(x, g)], by rw [List.map_append, HT.out.1, take_up HX.out]; rfl, HI5.out, HY.out.1, HY.out.2⟩⟩
    case measure => simp [intOf]; omega
  ·have i1 : ¬ (k : Int) < (list.length : Int) := by omega
   have HK : Hid (list.take k = list ∧ ((list.length : Int) ≤ max most 0)) := ⟨List.take_of_length_le (by omega), by have := HT.out.2.2; omega⟩
   have HY : Hid ((thingsB (fun x : BufferD => x.id) (fun x : BufferD => bufferB x.toBufferP) 0 list && decide ((list.length : Int) ≤ max most 0)) = true) := by
    show _ = true
    have h1 := HT.out.2.1
    rw [HK.out.1] at h1
    rw [h1, decide_eq_true HK.out.2]; rfl
   obtain ⟨r0, r1, v0, v1, z0, z1⟩ := HI.out.cells
   go_wp2
   refine bodyPost_ret (v := .tuple #[.agg #[.int .i64 most, .map (some (w.heap.size + 1))], .bool true]) (by simp [results, Tryz.results151, go_sem, *]) rfl ?_
   exact ⟨(HI.out.away _ _).2, .inr ⟨HY.out, w.heap.size + 1, l, rfl, by rw [HT.out.1, HK.out.1], (HI.out.away _ _).1⟩⟩

end Go.Proofs.YtkbcplnlehdjfaaGreat

/- Laying a thing of the kind Port into its shelf. (Made by mkshelf.py.) -/
namespace Go.Proofs.YtkbcplnlehdjfaaGreat
open Go.RowKit
attribute [local go_sem ↓] Go.wp_at_zero Go.wp_at_succ

/-- What every order of laying in keeps. -/
def LaySPort (w : World) (b : Nat) (m : MapL) (most : Int) (x : PortD) (w' : World) : Prop := (w'.cell? ⟨w.heap.size, 0, none⟩ = some (.int .i64 most) ∧ w'.cell? ⟨w.heap.size, 1, none⟩ = some (.map (some b)) ∧ (∀ ty, (Builtin.len_ #[123] ty #[.map (some b)]).run Tryz.prog w' = .ok (.int .i64 (m.length : Int)) w') ∧ w'.cell? ⟨w.heap.size + 1, 0, none⟩ = some (.int .i64 x.id) ∧ w'.cell? ⟨w.heap.size + 1, 1, none⟩ = some (.bool x.out) ∧ w'.cell? ⟨w.heap.size + 1, 2, none⟩ = some (.bool x.queue) ∧ w'.cell? ⟨w.heap.size + 1, 3, none⟩ = some (.int .i64 x.max) ∧ w'.cell? ⟨w.heap.size + 1, 4, none⟩ = some (.slice x.itemsA x.items.length x.itemsC)) ∧ Hid (LayIn w w' w.heap.size (w.heap.size + 1) b m most (portVs x) 61 125) ∧ Hid (PortFit w' x)
theorem laySPort_of {w w' : World} {b : Nat} {m : MapL} {most : Int} {x : PortD} (h : LayIn w w' w.heap.size (w.heap.size + 1) b m most (portVs x) 61 125) (hf : PortFit w' x) : LaySPort w b m most x w' :=
 ⟨⟨h.cells.1, h.cells.2, fun ty => h.mp.len Tryz.underlying123 ty, port_cells h.bx⟩, h, hf⟩
set_option maxRecDepth 100000 in
set_option maxHeartbeats 16000000 in
theorem layPort_any (most : Int) (b : Nat) (m : MapL) (x : PortD) (w : World) (h : MapIs w b m) (hw : (Lit.int .i64 x.id).wf = true) (hm : m.length ≤ 1048576) (hf : PortFit w x) :
  Calls Tryz.prog 94 #[.agg #[.int .i64 most, .map (some b)], .agg (portVs x)] w fun e w' => LayEnds w b m (layB most m x.id (portB x.toPortP)) x.id (portVs x) 61 e w' := by
 have HF : Hid (LayIn w ((w.alloc (.cells #[.int .i64 most, .map (some b)] 125)).alloc (.cells (portVs x) 61)) w.heap.size (w.heap.size + 1) b m most (portVs x) 61 125) := LayIn.start w h most _ _ _
 have HW : Hid ((Lit.int .i64 x.id).wf = true ∧ ¬ w.heap.size + 1 = b ∧ m.length ≤ 1048576) := ⟨hw, by have := h.lt; omega, hm⟩
 have HI : Hid (PortFit ((w.alloc (.cells #[.int .i64 most, .map (some b)] 125)).alloc (.cells (portVs x) 61)) x) := hf.below ((((Below.refl _ w).alloc (Nat.le_refl _) _)).alloc (by simp) _)
 have hmn := meth_numberPort
 have hmr := meth_rightPort
 obtain ⟨s0, s1⟩ := HF.out.cells
 obtain ⟨c0, c1, c2, c3, c4⟩ := port_cells HF.out.bx
 clear h hw hf hm
 unfold portVs at *
 go_enter Tryz.func94, Tryz.ntmps94
 go_wp2_with fail
 clear s0 s1 c0 c1 c2 c3 c4
 obtain ⟨vA, hA⟩ : ∃ v, (lookM m x.id).isSome = v := ⟨_, rfl⟩
 obtain ⟨vB, hBd⟩ : ∃ v, decide (most ≤ (m.length : Int)) = v := ⟨_, rfl⟩
 obtain ⟨vC, hC⟩ : ∃ v, inB x.id 1 1000 = v := ⟨_, rfl⟩
 obtain ⟨vD, hD⟩ : ∃ v, portB x.toPortP = v := ⟨_, rfl⟩
 have HL : Hid (layB most m x.id (portB x.toPortP) = (!vA && !vB && vC && vD) ∧ (vA = false → lookM m x.id = none)) := ⟨layB_of hA hBd hC hD, fun e => Option.isNone_iff_eq_none.1 (Option.isSome_eq_false_iff.1 (hA.trans e))⟩
 have HA : Hid (Ending.returned (.bool (lookM m x.id).isSome) = .returned (.bool vA)) := ret_bool hA
 have HC : Hid (Ending.returned (.bool (inB x.id 1 1000)) = .returned (.bool vC)) := ret_bool hC
 have HD : Hid (Ending.returned (.bool (portB x.toPortP)) = .returned (.bool vD)) := ret_bool hD
 clear hA hC hD
 refine tame_region (LaySPort w b m most x) (by kernel_rfl) (laySPort_of HF.out.drew (HI.out.below (Below.refl _ _).drew)) ?_
 iterate 3 (refine yl (v := ?_) ?_ ?_; rotate_left; (intro w0 hS0; obtain ⟨⟨q0, q1, q2, q3, q4, q5, q6, q7⟩, hH⟩ := hS0; go_simp; try with_reducible rfl); simp only [pt, sb, s0, s1])
 (refine cl (.int .i64 x.id) 297 #[.agg #[.int .i64 x.id, .bool x.out, .bool x.queue, .int .i64 x.max, .slice x.itemsA x.items.length x.itemsC]] ?_ ?_ ?_; (intro w0 hS0; obtain ⟨⟨q0, q1, q2, q3, q4, q5, q6, q7⟩, hH⟩ := hS0; go_simp; try with_reducible rfl); (intro w0 hS0; refine (numberPort_any x w0).mono ?_; rintro e w2 ⟨rfl, hb2⟩; exact ⟨rfl, laySPort_of (hS0.2.1.out.below hb2) (hS0.2.2.out.below hb2)⟩); simp only [pt, sb, s0, s1])
 (refine cl (.bool vA) 179 #[.agg #[.int .i64 most, .map (some b)], .int .i64 x.id] ?_ ?_ ?_; (intro w0 hS0; obtain ⟨⟨q0, q1, q2, q3, q4, q5, q6, q7⟩, hH⟩ := hS0; go_simp; try with_reducible rfl); (intro w0 hS0; refine (hasPort_any most b m x.id w0 hS0.2.1.out.mp HW.out.1).mono ?_; rintro e w2 ⟨rfl, hb2⟩; exact ⟨HA.out, laySPort_of (hS0.2.1.out.below hb2) (hS0.2.2.out.below hb2)⟩); simp only [pt, sb, s0, s1])
 (refine yl (v := ?_) ?_ ?_; rotate_left; (intro w0 hS0; obtain ⟨⟨q0, q1, q2, q3, q4, q5, q6, q7⟩, hH⟩ := hS0; go_simp; try with_reducible rfl); simp only [pt, sb, s0, s1])
 rcases vA.eq_false_or_eq_true with rfl | rfl
 focus iterate 6 (refine nl ?_; simp only [pt, sb, s0, s1])
 rotate_left
 focus iterate 6 (refine yl (v := ?_) ?_ ?_; rotate_left; (intro w0 hS0; obtain ⟨⟨q0, q1, q2, q3, q4, q5, q6, q7⟩, hH⟩ := hS0; go_simp; try with_reducible rfl); simp only [pt, sb, s0, s1])
 all_goals iterate 2 (refine yl (v := ?_) ?_ ?_; rotate_left; (intro w0 hS0; obtain ⟨⟨q0, q1, q2, q3, q4, q5, q6, q7⟩, hH⟩ := hS0; go_simp; try with_reducible rfl); simp only [pt, sb, s0, s1])
 rcases vB.eq_false_or_eq_true with rfl | rfl
 focus iterate 5 (refine nl ?_; simp only [pt, sb, s0, s1])
 rotate_left
 focus
  iterate 2 (refine yl (v := ?_) ?_ ?_; rotate_left; (intro w0 hS0; obtain ⟨⟨q0, q1, q2, q3, q4, q5, q6, q7⟩, hH⟩ := hS0; go_simp; try with_reducible rfl); simp only [pt, sb, s0, s1])
  (refine cl (.int .i64 x.id) 297 #[.agg #[.int .i64 x.id, .bool x.out, .bool x.queue, .int .i64 x.max, .slice x.itemsA x.items.length x.itemsC]] ?_ ?_ ?_; (intro w0 hS0; obtain ⟨⟨q0, q1, q2, q3, q4, q5, q6, q7⟩, hH⟩ := hS0; go_simp; try with_reducible rfl); (intro w0 hS0; refine (numberPort_any x w0).mono ?_; rintro e w2 ⟨rfl, hb2⟩; exact ⟨rfl, laySPort_of (hS0.2.1.out.below hb2) (hS0.2.2.out.below hb2)⟩); simp only [pt, sb, s0, s1])
  (refine cl (.bool vC) 164 #[.int .i64 x.id] ?_ ?_ ?_; (intro w0 hS0; obtain ⟨⟨q0, q1, q2, q3, q4, q5, q6, q7⟩, hH⟩ := hS0; go_simp; try with_reducible rfl); (intro w0 hS0; refine (isNumber_any x.id w0).mono ?_; rintro e w2 ⟨rfl, rfl⟩; exact ⟨HC.out, hS0⟩); simp only [pt, sb, s0, s1])
  (refine yl (v := ?_) ?_ ?_; rotate_left; (intro w0 hS0; obtain ⟨⟨q0, q1, q2, q3, q4, q5, q6, q7⟩, hH⟩ := hS0; go_simp; try with_reducible rfl); simp only [pt, sb, s0, s1])
 rotate_left
 focus iterate 5 (refine nl ?_; simp only [pt, sb, s0, s1])
 all_goals iterate 2 (refine yl (v := ?_) ?_ ?_; rotate_left; (intro w0 hS0; obtain ⟨⟨q0, q1, q2, q3, q4, q5, q6, q7⟩, hH⟩ := hS0; go_simp; try with_reducible rfl); simp only [pt, sb, s0, s1])
 rotate_right
 rcases vC.eq_false_or_eq_true with rfl | rfl
 focus
  iterate 2 (refine yl (v := ?_) ?_ ?_; rotate_left; (intro w0 hS0; obtain ⟨⟨q0, q1, q2, q3, q4, q5, q6, q7⟩, hH⟩ := hS0; go_simp; try with_reducible rfl); simp only [pt, sb, s0, s1])
  (refine cl (.bool vD) 298 #[.agg #[.int .i64 x.id, .bool x.out, .bool x.queue, .int .i64 x.max, .slice x.itemsA x.items.length x.itemsC]] ?_ ?_ ?_; (intro w0 hS0; obtain ⟨⟨q0, q1, q2, q3, q4, q5, q6, q7⟩, hH⟩ := hS0; go_simp; try with_reducible rfl); (intro w0 hS0; refine (rightPort_any x w0 hS0.2.2.out).mono ?_; rintro e w2 ⟨rfl, hb2⟩; exact ⟨HD.out, laySPort_of (hS0.2.1.out.below hb2) (hS0.2.2.out.below hb2)⟩); simp only [pt, sb, s0, s1])
  (refine yl (v := ?_) ?_ ?_; rotate_left; (intro w0 hS0; obtain ⟨⟨q0, q1, q2, q3, q4, q5, q6, q7⟩, hH⟩ := hS0; go_simp; try with_reducible rfl); simp only [pt, sb, s0, s1])
 rotate_left
 focus iterate 4 (refine nl ?_; simp only [pt, sb, s0, s1])
 rotate_left
 focus iterate 4 (refine nl ?_; simp only [pt, sb, s0, s1])
 rotate_left
 focus iterate 4 (refine nl ?_; simp only [pt, sb, s0, s1])
 rotate_left
 all_goals (refine yl (v := ?_) ?_ ?_; rotate_left; (intro w0 hS0; obtain ⟨⟨q0, q1, q2, q3, q4, q5, q6, q7⟩, hH⟩ := hS0; go_simp; try with_reducible rfl); simp only [pt, sb, s0, s1])
 all_goals refine tame_done (by kernel_rfl) ?_ _
 all_goals intro w1 hS1
 rcases vD.eq_false_or_eq_true with rfl | rfl
 rotate_left
 iterate 4
  go_wp2
  go_ret
  exact layEnds_no HL.out.1 hS1.2.1.out.bel
 go_wp2_with fail
 refine last_region (LaySPort w b m most x) 5 (by kernel_rfl) (laySPort_of hS1.2.1.out.drew (hS1.2.2.out.below (Below.refl _ _).drew)) ?_
 iterate 4 (refine ly 6 (v := ?_) (some _) rfl rfl (by kernel_rfl) (fun _ _ _ h => h) (does_yield (by kernel_rfl) ?_) ?_; rotate_left; (intro w0 hS0; obtain ⟨⟨q0, q1, q2, q3, q4, q5, q6, q7⟩, hH⟩ := hS0; go_simp; try with_reducible rfl); simp only [pt, sb, s0, s1])
 refine ly 6 (v := .int .i64 x.id) (some _) rfl rfl (by kernel_rfl) (fun _ _ _ h => h) (does_call (f := 297) (args := #[.agg #[.int .i64 x.id, .bool x.out, .bool x.queue, .int .i64 x.max, .slice x.itemsA x.items.length x.itemsC]]) (by kernel_rfl) ?_ ?_) ?_
 ·intro w0 hS0
  obtain ⟨⟨q0, q1, q2, q3, q4, q5, q6, q7⟩, hH⟩ := hS0
  go_simp
  try with_reducible rfl
 ·intro w0 hS0
  refine (numberPort_any x w0).mono ?_
  rintro e w2 ⟨rfl, hb2⟩
  exact ⟨rfl, laySPort_of (hS0.2.1.out.below hb2) (hS0.2.2.out.below hb2)⟩
 simp only [pt, sb, s0, s1]
 refine last_done rfl (by kernel_rfl) (by kernel_rfl) (by kernel_rfl) ?_
 intro w1 hS1
 obtain ⟨w2, hput, hend⟩ := hS1.2.1.out.put (by omega) Tryz.underlying123 HW.out.1 (HL.out.2 (by trivial)) HW.out.2.2 HW.out.2.1
 have HE : Hid (LayEnds w b m true x.id (portVs x) 61 (.returned (.bool true)) w2) := hend
 clear hend hS1
 go_simp
 go_wp2
 go_ret
 rw [HL.out.1]
 exact HE.out

end Go.Proofs.YtkbcplnlehdjfaaGreat

/- A shelf of a list of things of the kind Port. (Made by mkshelfof.py.) -/
namespace Go.Proofs.YtkbcplnlehdjfaaGreat
open Go.RowKit
attribute [local go_sem ↓] Go.wp_at_zero Go.wp_at_succ

/-- What holds at the head of each round. -/
def ShPortAt (w : World) (most : Int) (list : List PortD) (k : Nat) (wr : World) : Prop :=
 ∃ l : List (PortD × Nat), l.map (·.1) = list.take k ∧ ShIn portVs (fun x : PortD => x.id) 61 125 w wr most l ∧ thingsB (fun x : PortD => x.id) (fun x : PortD => portB x.toPortP) 0 (list.take k) = true ∧ (k : Int) ≤ max most 0

set_option maxRecDepth 100000 in
set_option maxHeartbeats 4000000 in
theorem shelfOfPort_any (a : Option Addr) (list : List PortD) (cap : Nat) (most : Int) (w : World) (hl : list.length ≤ 1048576) (h : portK.Lies w a list) (hf : ∀ x ∈ list, PortFit w x) (hw : ∀ x ∈ list, (Lit.int .i64 x.id).wf = true) :
  Calls Tryz.prog 152 #[.slice a list.length cap, .int .i64 most] w fun e w' => ShelfEnds portVs (fun x : PortD => x.id) 61 w most (thingsB (fun x : PortD => x.id) (fun x : PortD => portB x.toPortP) 0 list && decide ((list.length : Int) ≤ max most 0)) list e w' := by
 have hmk := run_makeMap (P := Tryz.prog) 123
 have hmn := meth_numberPort
 have H0 : Hid (ShIn portVs (fun x : PortD => x.id) 61 125 w (((w.alloc (.cells #[.int .i64 0, .map none] 125)).alloc (.map #[] 0)).alloc (.cells #[.int .i64 most, .map (some (w.heap.size + 1))] 125)) most []) := ShIn.start 125 w most
 have HL : Hid (portK.Lies w a list ∧ (∀ x ∈ list, PortFit w x) ∧ ∀ x ∈ list, (Lit.int .i64 x.id).wf = true) := ⟨h, hf, hw⟩
 clear h hf hw
 go_enter Tryz.func152, Tryz.ntmps152
 go_wp2_with fail
 go_loopw [7, 15] (fun last i wr => ∃ k : Nat, k ≤ list.length ∧ i = .int .i64 k ∧ last = .int .i64 (lastOf (fun x : PortD => x.id) 0 (list.take k)) ∧ Hid (ShPortAt w most list k wr)) (fun _ i _ => list.length - (intOf i).toNat)
 case atStart => exact ⟨0, Nat.zero_le _, rfl, rfl, ⟨[], by simp, H0.out, rfl, by simp; omega⟩⟩
 case round =>
  clear H0 hmk
  obtain ⟨k, hk, rfl, rfl, HA⟩ := hrel
  obtain ⟨l, hlm, hin, hth, hkm⟩ := HA.out
  have HT : Hid (l.map (·.1) = list.take k ∧ thingsB (fun x : PortD => x.id) (fun x : PortD => portB x.toPortP) 0 (list.take k) = true ∧ (k : Int) ≤ max most 0) := ⟨hlm, hth, hkm⟩
  have HI : Hid (ShIn portVs (fun x : PortD => x.id) 61 125 w wr most l) := hin
  clear HA hlm hin hth hkm
  by_cases hlt : k < list.length
  ·have i0 : (0 : Int) ≤ (k : Int) := by omega
   have i1 : (k : Int) < (list.length : Int) := by omega
   obtain ⟨x, hx⟩ : ∃ x, list[k]? = some x := ⟨_, List.getElem?_eq_getElem hlt⟩
   have hmem := List.mem_of_getElem? hx
   have HX : Hid (list[k]? = some x) := hx
   have HF : Hid (PortFit w x ∧ (Lit.int .i64 x.id).wf = true) := ⟨HL.out.2.1 x hmem, HL.out.2.2 x hmem⟩
   obtain ⟨gs, ha, hat⟩ := port_at (HL.out.1.below HI.out.bel) hx
   obtain ⟨c0, c1, c2, c3, c4⟩ := hat
   subst ha
   clear hx hmem
   go_wp2_with fail
   refine (numberPort_any x _).mono ?_
   rintro e w2 ⟨rfl, hb2⟩
   have HI2 : Hid (ShIn portVs (fun x : PortD => x.id) 61 125 w w2 most l) := (HI.out.below ((Below.refl _ wr).alloc (Nat.le_refl _) (.cells #[.int .i64 x.id, .bool x.out, .bool x.queue, .int .i64 x.max, .slice x.itemsA x.items.length x.itemsC] 61))).below hb2
   have HB : Hid (w2.heap[wr.heap.size]? = some (.cells (portVs x) 61 (0, 0))) := (hb2.block _ (by simp)).trans (heap_alloc_new _ _)
   have HZ : Hid (w.heap.size + 1 < wr.heap.size) := by show w.heap.size + 1 < wr.heap.size; have := (Array.getElem?_eq_some_iff.1 HI.out.var).1; omega
   clear hb2 HI c0 c1 c2 c3 c4
   obtain ⟨d0, d1, d2, d3, d4⟩ := port_cells HB.out
   obtain ⟨r0, r1, v0, v1, z0, z1⟩ := HI2.out.cells
   by_cases hle : x.id ≤ lastOf (fun x : PortD => x.id) 0 (list.take k)
   ·have HN : Hid ((thingsB (fun x : PortD => x.id) (fun x : PortD => portB x.toPortP) 0 list && decide ((list.length : Int) ≤ max most 0)) = false) := by
     show _ = false
     rw [things_no HX.out (fun hh => absurd hh.2.1 (by show ¬ lastOf (fun x : PortD => x.id) 0 (list.take k) < x.id; omega))]; rfl
    go_wp2
    refine bodyPost_ret (v := .tuple #[.agg #[.int .i64 0, .map none], .bool false]) (by simp [results, Tryz.results152, go_sem, *]) rfl ?_
    exact ⟨(HI2.out.away _ _).2, .inl ⟨HN.out, rfl⟩⟩
   have HLT : Hid (lastOf (fun x : PortD => x.id) 0 (list.take k) < x.id) := by show _ < _; omega
   have hkl : (keysOf (fun x : PortD => x.id) l).length ≤ 1048576 := by
    rw [keysOf_length]
    have := congrArg List.length HT.out.1
    simp only [List.length_map, List.length_take] at this
    omega
   go_wp2_with fail
   refine (layPort_any most (w.heap.size + 1) (keysOf (fun x : PortD => x.id) l) x w2 HI2.out.shelf.map HF.out.2 hkl (HF.out.1.below HI2.out.bel)).mono ?_
   rintro e w3 ⟨rfl, hno, hyes⟩
   cases hlay : layB most (keysOf (fun x : PortD => x.id) l) x.id (portB x.toPortP) with
   | false =>
    have HN : Hid ((thingsB (fun x : PortD => x.id) (fun x : PortD => portB x.toPortP) 0 list && decide ((list.length : Int) ≤ max most 0)) = false) := things_lay_no HX.out HT.out.1 HT.out.2.1 HLT.out hlay
    have HI3 : Hid (ShIn portVs (fun x : PortD => x.id) 61 125 w w3 most l) := HI2.out.below (hno hlay)
    clear hno hyes hlay HI2 r0 r1 v0 v1 z0 z1 d0 d1 d2 d3 d4 HB
    obtain ⟨r0, r1, v0, v1, z0, z1⟩ := HI3.out.cells
    go_wp2
    refine bodyPost_ret (v := .tuple #[.agg #[.int .i64 0, .map none], .bool false]) (by simp [results, Tryz.results152, go_sem, *]) rfl ?_
    exact ⟨(HI3.out.away _ _).2, .inl ⟨HN.out, rfl⟩⟩
   | true =>
    have HY : Hid (thingsB (fun x : PortD => x.id) (fun x : PortD => portB x.toPortP) 0 (list.take (k + 1)) = true ∧ ((k + 1 : Nat) : Int) ≤ max most 0) := things_lay_yes HX.out HT.out.1 HT.out.2.1 HLT.out hlay
    obtain ⟨g, hin4⟩ := HI2.out.lay (x := x) (e := .returned (.bool true)) (w' := w3) ⟨rfl, (fun h => by cases h), fun _ => hyes hlay⟩ (rises_last HT.out.1 HT.out.2.1 HLT.out)
    have HI4 : Hid (ShIn portVs (fun x : PortD => x.id) 61 125 w w3 most (l ++ [(x, g)])) := hin4
    have HB3 : Hid (w3.heap[wr.heap.size]? = some (.cells (portVs x) 61 (0, 0))) := by
     obtain ⟨g', _, _, _, hgr⟩ := hyes hlay
     exact (hgr.block _ (Array.getElem?_eq_some_iff.1 HB.out).1 (fun e => by have := Option.some.inj e; have := HZ.out; omega)).trans HB.out
    clear hno hyes hlay HI2 r0 r1 v0 v1 z0 z1 d0 d1 d2 d3 d4 HB hin4
    obtain ⟨d0, d1, d2, d3, d4⟩ := port_cells HB3.out
    go_wp2_with fail
    refine (numberPort_any x _).mono ?_
    rintro e w5 ⟨rfl, hb5⟩
    have HI5 : Hid (ShIn portVs (fun x : PortD => x.id) 61 125 w w5 most (l ++ [(x, g)])) := HI4.out.below hb5
    have HE : Hid (lastOf (fun x : PortD => x.id) 0 (list.take (k + 1)) = x.id) := lastOf_take HX.out 0
    clear hb5 HI4
    go_wp2
    go_roundw
    case rel => exact ⟨k + 1, by omega, by go_num, by rw [HE.out], ⟨l ++ [(x, g)], by rw [List.map_append, HT.out.1, take_up HX.out]; rfl, HI5.out, HY.out.1, HY.out.2⟩⟩
    case measure => simp [intOf]; omega
  ·have i1 : ¬ (k : Int) < (list.length : Int) := by omega
   have HK : Hid (list.take k = list ∧ ((list.length : Int) ≤ max most 0)) := ⟨List.take_of_length_le (by omega), by have := HT.out.2.2; omega⟩
   have HY : Hid ((thingsB (fun x : PortD => x.id) (fun x : PortD => portB x.toPortP) 0 list && decide ((list.length : Int) ≤ max most 0)) = true) := by
    show _ = true
    have h1 := HT.out.2.1
    rw [HK.out.1] at h1
    rw [h1, decide_eq_true HK.out.2]; rfl
   obtain ⟨r0, r1, v0, v1, z0, z1⟩ := HI.out.cells
   go_wp2
   refine bodyPost_ret (v := .tuple #[.agg #[.int .i64 most, .map (some (w.heap.size + 1))], .bool true]) (by simp [results, Tryz.results152, go_sem, *]) rfl ?_
   exact ⟨(HI.out.away _ _).2, .inr ⟨HY.out, w.heap.size + 1, l, rfl, by rw [HT.out.1, HK.out.1], (HI.out.away _ _).1⟩⟩

end Go.Proofs.YtkbcplnlehdjfaaGreat

/- A partition is opened. (Made by mkopen.py.) -/
namespace Go.Proofs.YtkbcplnlehdjfaaGreat
open Go.RowKit Go.Maps
attribute [local go_sem ↓] Go.wp_at_zero Go.wp_at_succ

/-- Numbers between two bounds, no two the same. -/
def Btw (lo hi : Nat) (l : List Nat) : Prop := l.Nodup ∧ ∀ g ∈ l, lo ≤ g ∧ g < hi
theorem Btw.append {lo m m' hi : Nat} {l r : List Nat} (h1 : Btw lo m l) (h2 : Btw m' hi r) (h3 : m ≤ m') (h4 : lo ≤ m') (h5 : m ≤ hi) : Btw lo hi (l ++ r) := by
 refine ⟨List.nodup_append.2 ⟨h1.1, h2.1, fun a ha b hb e => ?_⟩, fun g hg => ?_⟩
 ·have := h1.2 a ha
  have := h2.2 b hb
  omega
 ·rcases List.mem_append.1 hg with hg | hg
  ·have := h1.2 g hg
   omega
  ·have := h2.2 g hg
   omega
theorem Btw.cons {lo m hi g : Nat} {l : List Nat} (h : Btw lo m l) (h1 : m ≤ g) (h2 : g < hi) (h3 : lo ≤ g) : Btw lo hi (g :: l) := by
 refine ⟨List.nodup_cons.2 ⟨fun hm => ?_, h.1⟩, fun k hk => ?_⟩
 ·have := h.2 g hm
  omega
 ·rcases List.mem_cons.1 hk with rfl | hk
  ·omega
  ·have := h.2 k hk
   omega
theorem shelf_btw {α : Type} {vs : α → Array Value} {num : α → Int} {T : TypeId} {W : World} {lo hi b : Nat} {l : List (α × Nat)} (h : Shelf vs num T W lo b l ∧ ∀ g ∈ b :: l.map (·.2), g < hi) : Btw lo hi (b :: l.map (·.2)) :=
 ⟨h.1.nodup, fun g hg => ⟨h.1.low g hg, h.2 g hg⟩⟩
theorem kids_btw {α : Type} {N : Nest α} {w0 wr : World} {base b : Nat} {l l' : List (α × Nat)} (h : Owned N w0 wr base b l l') : Btw w0.heap.size wr.heap.size (kids N l') :=
 ⟨h.nodup, fun g hg => by
  obtain ⟨p, hp, hk⟩ := List.mem_filterMap.1 hg
  exact (h.mine p hp).lt hk⟩
theorem Owned.blocks {α : Type} {N : Nest α} {w0 wr : World} {base b : Nat} {l l' : List (α × Nat)} (h : Owned N w0 wr base b l l') : l'.map (·.2) = l.map (·.2) := by
 have := congrArg (List.map (·.2)) h.alike
 simp only [List.map_map, Function.comp_def] at this
 exact this
/-- Where the shelves lie, one behind the other. -/
def Steps (n w0 v1 w1 v2 w2 v3 w3 v4 w4 v5 w5 v6 : Nat) : Prop := n ≤ w0 ∧ w0 ≤ v1 ∧ v1 < w1 ∧ w1 ≤ v2 ∧ v2 < w2 ∧ w2 ≤ v3 ∧ v3 < w3 ∧ w3 ≤ v4 ∧ v4 < w4 ∧ w4 ≤ v5 ∧ v5 < w5 ∧ w5 ≤ v6
section
variable {w WO X2 X3 : World} {p : PartD} {b1 b2 b3 b4 b5 b6 w0 v1 w1 v2 w2 v3 w3 v4 w4 v5 w5 v6 : Nat} {l1 : List (ProcD × Nat)} {l2 : List (SemD × Nat)} {l3 : List (EventD × Nat)} {l4 : List (BoardD × Nat)} {l5 : List (BufferD × Nat)} {l6 : List (PortD × Nat)}
theorem open_three (hs : Steps w.heap.size w0 v1 w1 v2 w2 v3 w3 v4 w4 v5 w5 v6) (ho : OpenBox WO (v6 + 1) ⟨p.id, p.next, b1, b2, b3, b4, b5, b6⟩) (hb : Below WO.heap.size WO X2)
  (h1 : Shelf procVs (fun x : ProcD => x.id) 43 WO w0 b1 l1 ∧ ∀ g ∈ b1 :: l1.map (·.2), g < v1) (h5 : Shelf bufferVs (fun x : BufferD => x.id) 144 WO w4 b5 l5 ∧ ∀ g ∈ b5 :: l5.map (·.2), g < v5) (h6 : Shelf portVs (fun x : PortD => x.id) 61 WO w5 b6 l6 ∧ ∀ g ∈ b6 :: l6.map (·.2), g < v6) :
  Three X2 w.heap.size (v6 + 1) ⟨p.id, p.next, b1, b2, b3, b4, b5, b6⟩ l1 l5 l6 := by
 obtain ⟨s0, s1, s2, s3, s4, s5, s6, s7, s8, s9, s10, s11⟩ := hs
 refine ⟨ho.below hb, (h1.1.below hb).lower (by omega), (h5.1.below hb).lower (by omega), (h6.1.below hb).lower (by omega), ?_⟩
 exact (((shelf_btw h1).append ((shelf_btw h5).append (shelf_btw h6) (by omega) (by omega) (by omega)) (by omega) (by omega) (by omega)).cons (g := v6 + 1) (hi := v6 + 2) (by omega) (by omega) (by omega)).1
theorem listsProc {X : World} (hg : p.Good w) (hb : Below w.heap.size w X) (hl : l1.map (·.1) = p.procs) : ListsIn procN X w.heap.size l1 := fun q hq => by
 have hm : q.1 ∈ p.procs := by rw [← hl]; exact List.mem_map.2 ⟨q, hq, rfl⟩
 exact ⟨((hg.fitProc q.1 hm).2).below hb, (hg.procs q.1 hm).1.prog, fun g hk => hg.lowProc q.1 hm g hk⟩
theorem listsBuffer {X : World} (hg : p.Good w) (hb : Below w.heap.size w X) (hl : l5.map (·.1) = p.buffers) : ListsIn bufferN X w.heap.size l5 := fun q hq => by
 have hm : q.1 ∈ p.buffers := by rw [← hl]; exact List.mem_map.2 ⟨q, hq, rfl⟩
 exact ⟨((hg.fitBuffer q.1 hm).row).below hb, (hg.buffers q.1 hm).2.1, fun g hk => hg.lowBuffer q.1 hm g hk⟩
theorem listsPort {X : World} (hg : p.Good w) (hb : Below w.heap.size w X) (hl : l6.map (·.1) = p.ports) : ListsIn portN X w.heap.size l6 := fun q hq => by
 have hm : q.1 ∈ p.ports := by rw [← hl]; exact List.mem_map.2 ⟨q, hq, rfl⟩
 exact ⟨((hg.fitPort q.1 hm).row).below hb, (hg.ports q.1 hm).2.1, fun g hk => hg.lowPort q.1 hm g hk⟩

theorem pureP {l l' : List (ProcD × Nat)} (h : l'.map (fun p => (procN.set p.1 none 0, p.2)) = l.map (fun p => (procN.set p.1 none 0, p.2))) : l'.map (·.1.toProcP) = l.map (·.1.toProcP) := by
 have := congrArg (List.map (·.1.toProcP)) h
 simp only [List.map_map, Function.comp_def] at this
 exact this
theorem pureF {l l' : List (BufferD × Nat)} (h : l'.map (fun p => (bufferN.set p.1 none 0, p.2)) = l.map (fun p => (bufferN.set p.1 none 0, p.2))) : l'.map (·.1.toBufferP) = l.map (·.1.toBufferP) := by
 have := congrArg (List.map (·.1.toBufferP)) h
 simp only [List.map_map, Function.comp_def] at this
 exact this
theorem pureQ {l l' : List (PortD × Nat)} (h : l'.map (fun p => (portN.set p.1 none 0, p.2)) = l.map (fun p => (portN.set p.1 none 0, p.2))) : l'.map (·.1.toPortP) = l.map (·.1.toPortP) := by
 have := congrArg (List.map (·.1.toPortP)) h
 simp only [List.map_map, Function.comp_def] at this
 exact this
theorem open_end {u1 u2 : World} {l1' : List (ProcD × Nat)} {l5' : List (BufferD × Nat)} {l6' : List (PortD × Nat)} (hs : Steps w.heap.size w0 v1 w1 v2 w2 v3 w3 v4 w4 v5 w5 v6) (hw : Below w.heap.size w WO ∧ WO.heap.size = v6 + 1 + 1) (ho : OpenBox WO (v6 + 1) ⟨p.id, p.next, b1, b2, b3, b4, b5, b6⟩) (hb : Below WO.heap.size WO X2)
  (h1 : l1.map (·.1) = p.procs ∧ Shelf procVs (fun x : ProcD => x.id) 43 WO w0 b1 l1 ∧ ∀ g ∈ b1 :: l1.map (·.2), g < v1)
  (h2 : l2.map (·.1) = p.sems ∧ Shelf semVs (fun x : SemD => x.id) 49 WO w1 b2 l2 ∧ ∀ g ∈ b2 :: l2.map (·.2), g < v2)
  (h3 : l3.map (·.1) = p.events ∧ Shelf eventVs (fun x : EventD => x.id) 138 WO w2 b3 l3 ∧ ∀ g ∈ b3 :: l3.map (·.2), g < v3)
  (h4 : l4.map (·.1) = p.boards ∧ Shelf boardVs (fun x : BoardD => x.id) 141 WO w3 b4 l4 ∧ ∀ g ∈ b4 :: l4.map (·.2), g < v4)
  (h5 : l5.map (·.1) = p.buffers ∧ Shelf bufferVs (fun x : BufferD => x.id) 144 WO w4 b5 l5 ∧ ∀ g ∈ b5 :: l5.map (·.2), g < v5)
  (h6 : l6.map (·.1) = p.ports ∧ Shelf portVs (fun x : PortD => x.id) 61 WO w5 b6 l6 ∧ ∀ g ∈ b6 :: l6.map (·.2), g < v6)
  (o1 : Owned procN X2 u1 w.heap.size b1 l1 l1') (o5 : Owned bufferN u1 u2 w.heap.size b5 l5 l5') (o6 : Owned portN u2 X3 w.heap.size b6 l6 l6') :
  Below w.heap.size w X3 ∧ OpenAt X3 w.heap.size (v6 + 1) ⟨⟨p.id, p.next, b1, b2, b3, b4, b5, b6⟩, l1', l2, l3, l4, l5', l6'⟩ ∧ (⟨⟨p.id, p.next, b1, b2, b3, b4, b5, b6⟩, l1', l2, l3, l4, l5', l6'⟩ : OpenD).pure = p.pure := by
 have hT := open_three hs ho hb h1.2 h5.2 h6.2
 obtain ⟨s0, s1, s2, s3, s4, s5, s6, s7, s8, s9, s10, s11⟩ := hs
 have hX2 : v6 + 1 + 1 ≤ X2.heap.size := by rw [← hw.2]; exact hb.size
 have z1 := o1.size
 have z5 := o5.size
 have z6 := o6.size
 have n1 : ∀ g ∈ l1.map (·.2), w0 ≤ g ∧ g < v1 := fun g hg => (shelf_btw h1.2).2 g (List.mem_cons_of_mem _ hg)
 have n5 : ∀ g ∈ l5.map (·.2), w4 ≤ g ∧ g < v5 := fun g hg => (shelf_btw h5.2).2 g (List.mem_cons_of_mem _ hg)
 have n6 : ∀ g ∈ l6.map (·.2), w5 ≤ g ∧ g < v6 := fun g hg => (shelf_btw h6.2).2 g (List.mem_cons_of_mem _ hg)
 have q1 : ∀ g, g < X2.heap.size → ¬ (w0 ≤ g ∧ g < v1) → ¬ (w4 ≤ g ∧ g < v6) → X3.heap[g]? = X2.heap[g]? := fun g hg k1 k2 =>
  (o6.same g (by omega) (fun hm => by have := n6 g hm; omega)).trans ((o5.same g (by omega) (fun hm => by have := n5 g hm; omega)).trans (o1.same g hg (fun hm => by have := n1 g hm; omega)))
 have q5 : ∀ g, g < u1.heap.size → ¬ (w4 ≤ g ∧ g < v6) → X3.heap[g]? = u1.heap[g]? := fun g hg k2 =>
  (o6.same g (by omega) (fun hm => by have := n6 g hm; omega)).trans (o5.same g hg (fun hm => by have := n5 g hm; omega))
 have q6 : ∀ g, g < u2.heap.size → ¬ (w5 ≤ g ∧ g < v6) → X3.heap[g]? = u2.heap[g]? := fun g hg k2 => o6.same g hg (fun hm => by have := n6 g hm; omega)
 have hBX : Below w.heap.size w X3 := by
  have hw' := hw.1
  have hwx : Below w.heap.size w X2 := hw'.trans (hb.mono hw'.size)
  refine ⟨o6.os.trans (o5.os.trans (o1.os.trans hwx.os)), o6.tape.trans (o5.tape.trans (o1.tape.trans hwx.tape)), o6.output.trans (o5.output.trans (o1.output.trans hwx.output)), by have := hwx.size; omega, fun g hg => (q1 g (by have := hwx.size; omega) (by omega) (by omega)).trans (hwx.block g hg)⟩
 refine ⟨hBX, ⟨?_, ?_, ?_, ?_, ?_, ?_, ?_, ?_, ?_, ?_, ?_, ?_⟩, ?_⟩
 ·exact (q1 (v6 + 1) (by omega) (by omega) (by omega)).trans (ho.below hb)
 ·refine (o1.shelf.same fun g hg => q5 g (o1.shelf.lt g hg) ?_)
  rw [o1.blocks] at hg
  have := (shelf_btw h1.2).2 g hg
  omega
 ·refine ((h2.2.1.below hb).lower (by omega)).same fun g hg => ?_
  have := (shelf_btw h2.2).2 g hg
  exact q1 g (by omega) (by omega) (by omega)
 ·refine ((h3.2.1.below hb).lower (by omega)).same fun g hg => ?_
  have := (shelf_btw h3.2).2 g hg
  exact q1 g (by omega) (by omega) (by omega)
 ·refine ((h4.2.1.below hb).lower (by omega)).same fun g hg => ?_
  have := (shelf_btw h4.2).2 g hg
  exact q1 g (by omega) (by omega) (by omega)
 ·refine (o5.shelf.same fun g hg => q6 g (o5.shelf.lt g hg) ?_)
  rw [o5.blocks] at hg
  have := (shelf_btw h5.2).2 g hg
  omega
 ·exact o6.shelf
 ·intro q hq
  refine ((o1.mine q hq).low (by have := hw.1.size; omega)).same fun g hk => ?_
  have := (o1.mine q hq).lt hk
  exact q5 g this.2 (by omega)
 ·intro q hq
  refine ((o5.mine q hq).low (by have := hw.1.size; omega)).same fun g hk => ?_
  have := (o5.mine q hq).lt hk
  exact q6 g this.2 (by omega)
 ·intro q hq
  exact (o6.mine q hq).low (by have := hw.1.size; omega)
 ·have e1 := o1.blocks
  have e5 := o5.blocks
  have e6 := o6.blocks
  simp only [OpenD.boxes, OpenD.kids, e1, e5, e6]
  have hbx := (shelf_btw h1.2).append ((shelf_btw h2.2).append ((shelf_btw h3.2).append ((shelf_btw h4.2).append ((shelf_btw h5.2).append (shelf_btw h6.2) (by omega) (by omega) (by omega)) (by omega) (by omega) (by omega)) (by omega) (by omega) (by omega)) (by omega) (by omega) (by omega)) (by omega) (by omega) (by omega)
  have hkd := (kids_btw o1).append ((kids_btw o5).append (kids_btw o6) (Nat.le_refl _) z5 (by omega)) (Nat.le_refl _) z1 (by omega)
  have hall := hbx.append hkd (by omega) (by omega) (by omega)
  refine List.nodup_cons.2 ⟨fun hm => ?_, hall.1⟩
  rcases List.mem_append.1 hm with hm | hm
  ·have := hbx.2 _ hm
   omega
  ·have := hkd.2 _ hm
   omega
 ·have := hw.1.size
  omega
 ·show PartP.mk _ _ _ _ _ _ _ _ = PartP.mk _ _ _ _ _ _ _ _
  have a1 := pureP o1.alike
  have a5 := pureF o5.alike
  have a6 := pureQ o6.alike
  simp only [a1, a5, a6, ← h1.1, ← h2.1, ← h3.1, ← h4.1, ← h5.1, ← h6.1, List.map_map, Function.comp_def]
end

set_option maxRecDepth 100000 in
set_option maxHeartbeats 16000000 in
theorem opened_any (p : PartD) (w : World) (hg : p.Good w) : Calls Tryz.prog 79 #[.agg p.cells] w fun e w' => OpenEnds w p.pure e w' := by
 have HG : Hid (p.Good w) := hg
 have HK0 : Hid (Opg w (w.alloc (.cells p.cells 32)) p []) := Opg.start w p
 clear hg
 obtain ⟨m0, m1, m2, m3, m4, m5, m6, m7⟩ := HK0.out.part.cells
 unfold PartD.cells at *
 go_enter Tryz.func79, Tryz.ntmps79
 go_wp2_with fail
 generalize w.alloc (.cells #[.int .i64 p.id, .int .i64 p.next, .slice p.procA p.procs.length p.procC, .slice p.semA p.sems.length p.semC, .slice p.eventA p.events.length p.eventC, .slice p.boardA p.boards.length p.boardC, .slice p.bufferA p.buffers.length p.bufferC, .slice p.portA p.ports.length p.portC] 32) = W0 at *
 clear m0 m1 m2 m3 m4 m5 m6 m7
 have HW0 : Hid (w.heap.size ≤ W0.heap.size) := HK0.out.bel.size
 refine (shelfOfProc_any p.procA p.procs p.procC 6 _ HG.out.short.procs (HG.out.at'.1.below HK0.out.bel) (HG.out.below HK0.out.bel).fitProc HG.out.wfProc).mono ?_
 intro e v1 hend
 obtain ⟨ok1, n1, mb1, rfl, hok1, hb1, hr1⟩ := hend.res
 clear hend
 have HE1 : Hid (ok1 = okProc p) := hok1
 have HK1 : Hid (Opg w (v1.alloc (.cells #[.int .i64 n1, .map mb1] 110)) p ((v1.heap.size, n1, mb1) :: [])) := HK0.out.push hb1 _
 have HS1 : Hid (ShRes procVs (fun x : ProcD => x.id) 43 (v1.alloc (.cells #[.int .i64 n1, .map mb1] 110)) W0.heap.size v1.heap.size 6 ok1 p.procs n1 mb1) := hr1.below ((Below.refl _ _).alloc (Nat.le_refl _) _)
 have HV1 : Hid (W0.heap.size ≤ v1.heap.size ∧ v1.heap.size < (v1.alloc (.cells #[.int .i64 n1, .map mb1] 110)).heap.size) := ⟨hb1.size, by simp⟩
 clear hb1 hr1 hok1
 have p1 : (v1.alloc (.cells #[.int .i64 n1, .map mb1] 110)).cell? ⟨w.heap.size, 3, none⟩ = some (.slice p.semA p.sems.length p.semC) := by have := HK1.out.part.cells; simp only [this]
 go_wp2_with fail
 generalize v1.alloc (.cells #[.int .i64 n1, .map mb1] 110) = W1 at *
 generalize v1.heap.size = V1 at *
 clear HK0 p1
 refine (shelfOfSem_any p.semA p.sems p.semC 5 _ HG.out.short.sems (HG.out.at'.2.1.below HK1.out.bel) (HG.out.below HK1.out.bel).fitSem HG.out.wfSem).mono ?_
 intro e v2 hend
 obtain ⟨ok2, n2, mb2, rfl, hok2, hb2, hr2⟩ := hend.res
 clear hend
 have HE2 : Hid (ok2 = okSem p) := hok2
 have HK2 : Hid (Opg w (v2.alloc (.cells #[.int .i64 n2, .map mb2] 113)) p ((v2.heap.size, n2, mb2) :: (V1, n1, mb1) :: [])) := HK1.out.push hb2 _
 have HS2 : Hid (ShRes semVs (fun x : SemD => x.id) 49 (v2.alloc (.cells #[.int .i64 n2, .map mb2] 113)) W1.heap.size v2.heap.size 5 ok2 p.sems n2 mb2) := hr2.below ((Below.refl _ _).alloc (Nat.le_refl _) _)
 have HZ1 : Hid (ShRes procVs (fun x : ProcD => x.id) 43 (v2.alloc (.cells #[.int .i64 n2, .map mb2] 113)) W0.heap.size V1 6 ok1 p.procs n1 mb1) := (HS1.out.below hb2).below ((Below.refl _ _).alloc (Nat.le_refl _) _)
 clear HS1
 have HS1 := HZ1
 clear HZ1
 have HV2 : Hid (W1.heap.size ≤ v2.heap.size ∧ v2.heap.size < (v2.alloc (.cells #[.int .i64 n2, .map mb2] 113)).heap.size) := ⟨hb2.size, by simp⟩
 clear hb2 hr2 hok2
 have p2 : (v2.alloc (.cells #[.int .i64 n2, .map mb2] 113)).cell? ⟨w.heap.size, 4, none⟩ = some (.slice p.eventA p.events.length p.eventC) := by have := HK2.out.part.cells; simp only [this]
 go_wp2_with fail
 generalize v2.alloc (.cells #[.int .i64 n2, .map mb2] 113) = W2 at *
 generalize v2.heap.size = V2 at *
 clear HK1 p2
 refine (shelfOfEvent_any p.eventA p.events p.eventC 5 _ HG.out.short.events (HG.out.at'.2.2.1.below HK2.out.bel) (HG.out.below HK2.out.bel).fitEvent HG.out.wfEvent).mono ?_
 intro e v3 hend
 obtain ⟨ok3, n3, mb3, rfl, hok3, hb3, hr3⟩ := hend.res
 clear hend
 have HE3 : Hid (ok3 = okEvent p) := hok3
 have HK3 : Hid (Opg w (v3.alloc (.cells #[.int .i64 n3, .map mb3] 116)) p ((v3.heap.size, n3, mb3) :: (V2, n2, mb2) :: (V1, n1, mb1) :: [])) := HK2.out.push hb3 _
 have HS3 : Hid (ShRes eventVs (fun x : EventD => x.id) 138 (v3.alloc (.cells #[.int .i64 n3, .map mb3] 116)) W2.heap.size v3.heap.size 5 ok3 p.events n3 mb3) := hr3.below ((Below.refl _ _).alloc (Nat.le_refl _) _)
 have HZ1 : Hid (ShRes procVs (fun x : ProcD => x.id) 43 (v3.alloc (.cells #[.int .i64 n3, .map mb3] 116)) W0.heap.size V1 6 ok1 p.procs n1 mb1) := (HS1.out.below hb3).below ((Below.refl _ _).alloc (Nat.le_refl _) _)
 clear HS1
 have HS1 := HZ1
 clear HZ1
 have HZ2 : Hid (ShRes semVs (fun x : SemD => x.id) 49 (v3.alloc (.cells #[.int .i64 n3, .map mb3] 116)) W1.heap.size V2 5 ok2 p.sems n2 mb2) := (HS2.out.below hb3).below ((Below.refl _ _).alloc (Nat.le_refl _) _)
 clear HS2
 have HS2 := HZ2
 clear HZ2
 have HV3 : Hid (W2.heap.size ≤ v3.heap.size ∧ v3.heap.size < (v3.alloc (.cells #[.int .i64 n3, .map mb3] 116)).heap.size) := ⟨hb3.size, by simp⟩
 clear hb3 hr3 hok3
 have p3 : (v3.alloc (.cells #[.int .i64 n3, .map mb3] 116)).cell? ⟨w.heap.size, 5, none⟩ = some (.slice p.boardA p.boards.length p.boardC) := by have := HK3.out.part.cells; simp only [this]
 go_wp2_with fail
 generalize v3.alloc (.cells #[.int .i64 n3, .map mb3] 116) = W3 at *
 generalize v3.heap.size = V3 at *
 clear HK2 p3
 refine (shelfOfBoard_any p.boardA p.boards p.boardC 5 _ HG.out.short.boards (HG.out.at'.2.2.2.1.below HK3.out.bel) (HG.out.below HK3.out.bel).fitBoard HG.out.wfBoard).mono ?_
 intro e v4 hend
 obtain ⟨ok4, n4, mb4, rfl, hok4, hb4, hr4⟩ := hend.res
 clear hend
 have HE4 : Hid (ok4 = okBoard p) := hok4
 have HK4 : Hid (Opg w (v4.alloc (.cells #[.int .i64 n4, .map mb4] 119)) p ((v4.heap.size, n4, mb4) :: (V3, n3, mb3) :: (V2, n2, mb2) :: (V1, n1, mb1) :: [])) := HK3.out.push hb4 _
 have HS4 : Hid (ShRes boardVs (fun x : BoardD => x.id) 141 (v4.alloc (.cells #[.int .i64 n4, .map mb4] 119)) W3.heap.size v4.heap.size 5 ok4 p.boards n4 mb4) := hr4.below ((Below.refl _ _).alloc (Nat.le_refl _) _)
 have HZ1 : Hid (ShRes procVs (fun x : ProcD => x.id) 43 (v4.alloc (.cells #[.int .i64 n4, .map mb4] 119)) W0.heap.size V1 6 ok1 p.procs n1 mb1) := (HS1.out.below hb4).below ((Below.refl _ _).alloc (Nat.le_refl _) _)
 clear HS1
 have HS1 := HZ1
 clear HZ1
 have HZ2 : Hid (ShRes semVs (fun x : SemD => x.id) 49 (v4.alloc (.cells #[.int .i64 n4, .map mb4] 119)) W1.heap.size V2 5 ok2 p.sems n2 mb2) := (HS2.out.below hb4).below ((Below.refl _ _).alloc (Nat.le_refl _) _)
 clear HS2
 have HS2 := HZ2
 clear HZ2
 have HZ3 : Hid (ShRes eventVs (fun x : EventD => x.id) 138 (v4.alloc (.cells #[.int .i64 n4, .map mb4] 119)) W2.heap.size V3 5 ok3 p.events n3 mb3) := (HS3.out.below hb4).below ((Below.refl _ _).alloc (Nat.le_refl _) _)
 clear HS3
 have HS3 := HZ3
 clear HZ3
 have HV4 : Hid (W3.heap.size ≤ v4.heap.size ∧ v4.heap.size < (v4.alloc (.cells #[.int .i64 n4, .map mb4] 119)).heap.size) := ⟨hb4.size, by simp⟩
 clear hb4 hr4 hok4
 have p4 : (v4.alloc (.cells #[.int .i64 n4, .map mb4] 119)).cell? ⟨w.heap.size, 6, none⟩ = some (.slice p.bufferA p.buffers.length p.bufferC) := by have := HK4.out.part.cells; simp only [this]
 go_wp2_with fail
 generalize v4.alloc (.cells #[.int .i64 n4, .map mb4] 119) = W4 at *
 generalize v4.heap.size = V4 at *
 clear HK3 p4
 refine (shelfOfBuffer_any p.bufferA p.buffers p.bufferC 5 _ HG.out.short.buffers (HG.out.at'.2.2.2.2.1.below HK4.out.bel) (HG.out.below HK4.out.bel).fitBuffer HG.out.wfBuffer).mono ?_
 intro e v5 hend
 obtain ⟨ok5, n5, mb5, rfl, hok5, hb5, hr5⟩ := hend.res
 clear hend
 have HE5 : Hid (ok5 = okBuffer p) := hok5
 have HK5 : Hid (Opg w (v5.alloc (.cells #[.int .i64 n5, .map mb5] 122)) p ((v5.heap.size, n5, mb5) :: (V4, n4, mb4) :: (V3, n3, mb3) :: (V2, n2, mb2) :: (V1, n1, mb1) :: [])) := HK4.out.push hb5 _
 have HS5 : Hid (ShRes bufferVs (fun x : BufferD => x.id) 144 (v5.alloc (.cells #[.int .i64 n5, .map mb5] 122)) W4.heap.size v5.heap.size 5 ok5 p.buffers n5 mb5) := hr5.below ((Below.refl _ _).alloc (Nat.le_refl _) _)
 have HZ1 : Hid (ShRes procVs (fun x : ProcD => x.id) 43 (v5.alloc (.cells #[.int .i64 n5, .map mb5] 122)) W0.heap.size V1 6 ok1 p.procs n1 mb1) := (HS1.out.below hb5).below ((Below.refl _ _).alloc (Nat.le_refl _) _)
 clear HS1
 have HS1 := HZ1
 clear HZ1
 have HZ2 : Hid (ShRes semVs (fun x : SemD => x.id) 49 (v5.alloc (.cells #[.int .i64 n5, .map mb5] 122)) W1.heap.size V2 5 ok2 p.sems n2 mb2) := (HS2.out.below hb5).below ((Below.refl _ _).alloc (Nat.le_refl _) _)
 clear HS2
 have HS2 := HZ2
 clear HZ2
 have HZ3 : Hid (ShRes eventVs (fun x : EventD => x.id) 138 (v5.alloc (.cells #[.int .i64 n5, .map mb5] 122)) W2.heap.size V3 5 ok3 p.events n3 mb3) := (HS3.out.below hb5).below ((Below.refl _ _).alloc (Nat.le_refl _) _)
 clear HS3
 have HS3 := HZ3
 clear HZ3
 have HZ4 : Hid (ShRes boardVs (fun x : BoardD => x.id) 141 (v5.alloc (.cells #[.int .i64 n5, .map mb5] 122)) W3.heap.size V4 5 ok4 p.boards n4 mb4) := (HS4.out.below hb5).below ((Below.refl _ _).alloc (Nat.le_refl _) _)
 clear HS4
 have HS4 := HZ4
 clear HZ4
 have HV5 : Hid (W4.heap.size ≤ v5.heap.size ∧ v5.heap.size < (v5.alloc (.cells #[.int .i64 n5, .map mb5] 122)).heap.size) := ⟨hb5.size, by simp⟩
 clear hb5 hr5 hok5
 have p5 : (v5.alloc (.cells #[.int .i64 n5, .map mb5] 122)).cell? ⟨w.heap.size, 7, none⟩ = some (.slice p.portA p.ports.length p.portC) := by have := HK5.out.part.cells; simp only [this]
 go_wp2_with fail
 generalize v5.alloc (.cells #[.int .i64 n5, .map mb5] 122) = W5 at *
 generalize v5.heap.size = V5 at *
 clear HK4 p5
 refine (shelfOfPort_any p.portA p.ports p.portC 5 _ HG.out.short.ports (HG.out.at'.2.2.2.2.2.below HK5.out.bel) (HG.out.below HK5.out.bel).fitPort HG.out.wfPort).mono ?_
 intro e v6 hend
 obtain ⟨ok6, n6, mb6, rfl, hok6, hb6, hr6⟩ := hend.res
 clear hend
 have HE6 : Hid (ok6 = okPort p) := hok6
 have HK6 : Hid (Opg w (v6.alloc (.cells #[.int .i64 n6, .map mb6] 125)) p ((v6.heap.size, n6, mb6) :: (V5, n5, mb5) :: (V4, n4, mb4) :: (V3, n3, mb3) :: (V2, n2, mb2) :: (V1, n1, mb1) :: [])) := HK5.out.push hb6 _
 have HS6 : Hid (ShRes portVs (fun x : PortD => x.id) 61 (v6.alloc (.cells #[.int .i64 n6, .map mb6] 125)) W5.heap.size v6.heap.size 5 ok6 p.ports n6 mb6) := hr6.below ((Below.refl _ _).alloc (Nat.le_refl _) _)
 have HZ1 : Hid (ShRes procVs (fun x : ProcD => x.id) 43 (v6.alloc (.cells #[.int .i64 n6, .map mb6] 125)) W0.heap.size V1 6 ok1 p.procs n1 mb1) := (HS1.out.below hb6).below ((Below.refl _ _).alloc (Nat.le_refl _) _)
 clear HS1
 have HS1 := HZ1
 clear HZ1
 have HZ2 : Hid (ShRes semVs (fun x : SemD => x.id) 49 (v6.alloc (.cells #[.int .i64 n6, .map mb6] 125)) W1.heap.size V2 5 ok2 p.sems n2 mb2) := (HS2.out.below hb6).below ((Below.refl _ _).alloc (Nat.le_refl _) _)
 clear HS2
 have HS2 := HZ2
 clear HZ2
 have HZ3 : Hid (ShRes eventVs (fun x : EventD => x.id) 138 (v6.alloc (.cells #[.int .i64 n6, .map mb6] 125)) W2.heap.size V3 5 ok3 p.events n3 mb3) := (HS3.out.below hb6).below ((Below.refl _ _).alloc (Nat.le_refl _) _)
 clear HS3
 have HS3 := HZ3
 clear HZ3
 have HZ4 : Hid (ShRes boardVs (fun x : BoardD => x.id) 141 (v6.alloc (.cells #[.int .i64 n6, .map mb6] 125)) W3.heap.size V4 5 ok4 p.boards n4 mb4) := (HS4.out.below hb6).below ((Below.refl _ _).alloc (Nat.le_refl _) _)
 clear HS4
 have HS4 := HZ4
 clear HZ4
 have HZ5 : Hid (ShRes bufferVs (fun x : BufferD => x.id) 144 (v6.alloc (.cells #[.int .i64 n6, .map mb6] 125)) W4.heap.size V5 5 ok5 p.buffers n5 mb5) := (HS5.out.below hb6).below ((Below.refl _ _).alloc (Nat.le_refl _) _)
 clear HS5
 have HS5 := HZ5
 clear HZ5
 have HV6 : Hid (W5.heap.size ≤ v6.heap.size ∧ v6.heap.size < (v6.alloc (.cells #[.int .i64 n6, .map mb6] 125)).heap.size) := ⟨hb6.size, by simp⟩
 clear hb6 hr6 hok6
 clear HK5
 cases ok1 with
 | false =>
  go_wp2
  go_ret2
  exact ⟨HK6.out.bel, .inl ⟨open_noProc HE1.out.symm, rfl⟩⟩
 | true =>
 cases ok2 with
 | false =>
  go_wp2
  go_ret2
  exact ⟨HK6.out.bel, .inl ⟨open_noSem HE2.out.symm, rfl⟩⟩
 | true =>
 cases ok3 with
 | false =>
  go_wp2
  go_ret2
  exact ⟨HK6.out.bel, .inl ⟨open_noEvent HE3.out.symm, rfl⟩⟩
 | true =>
 cases ok4 with
 | false =>
  go_wp2
  go_ret2
  exact ⟨HK6.out.bel, .inl ⟨open_noBoard HE4.out.symm, rfl⟩⟩
 | true =>
 cases ok5 with
 | false =>
  go_wp2
  go_ret2
  exact ⟨HK6.out.bel, .inl ⟨open_noBuffer HE5.out.symm, rfl⟩⟩
 | true =>
 cases ok6 with
 | false =>
  go_wp2
  go_ret2
  exact ⟨HK6.out.bel, .inl ⟨open_noPort HE6.out.symm, rfl⟩⟩
 | true =>
 obtain ⟨rfl, b1, l1, rfl, hl1, hs1, hh1⟩ := HS1.out rfl
 have HX1 : Hid (l1.map (·.1) = p.procs ∧ Shelf procVs (fun x : ProcD => x.id) 43 (v6.alloc (.cells #[.int .i64 n6, .map mb6] 125)) W0.heap.size b1 l1 ∧ ∀ g ∈ b1 :: l1.map (·.2), g < V1) := ⟨hl1, hs1, hh1⟩
 clear hl1 hs1 hh1 HS1
 obtain ⟨rfl, b2, l2, rfl, hl2, hs2, hh2⟩ := HS2.out rfl
 have HX2 : Hid (l2.map (·.1) = p.sems ∧ Shelf semVs (fun x : SemD => x.id) 49 (v6.alloc (.cells #[.int .i64 n6, .map mb6] 125)) W1.heap.size b2 l2 ∧ ∀ g ∈ b2 :: l2.map (·.2), g < V2) := ⟨hl2, hs2, hh2⟩
 clear hl2 hs2 hh2 HS2
 obtain ⟨rfl, b3, l3, rfl, hl3, hs3, hh3⟩ := HS3.out rfl
 have HX3 : Hid (l3.map (·.1) = p.events ∧ Shelf eventVs (fun x : EventD => x.id) 138 (v6.alloc (.cells #[.int .i64 n6, .map mb6] 125)) W2.heap.size b3 l3 ∧ ∀ g ∈ b3 :: l3.map (·.2), g < V3) := ⟨hl3, hs3, hh3⟩
 clear hl3 hs3 hh3 HS3
 obtain ⟨rfl, b4, l4, rfl, hl4, hs4, hh4⟩ := HS4.out rfl
 have HX4 : Hid (l4.map (·.1) = p.boards ∧ Shelf boardVs (fun x : BoardD => x.id) 141 (v6.alloc (.cells #[.int .i64 n6, .map mb6] 125)) W3.heap.size b4 l4 ∧ ∀ g ∈ b4 :: l4.map (·.2), g < V4) := ⟨hl4, hs4, hh4⟩
 clear hl4 hs4 hh4 HS4
 obtain ⟨rfl, b5, l5, rfl, hl5, hs5, hh5⟩ := HS5.out rfl
 have HX5 : Hid (l5.map (·.1) = p.buffers ∧ Shelf bufferVs (fun x : BufferD => x.id) 144 (v6.alloc (.cells #[.int .i64 n6, .map mb6] 125)) W4.heap.size b5 l5 ∧ ∀ g ∈ b5 :: l5.map (·.2), g < V5) := ⟨hl5, hs5, hh5⟩
 clear hl5 hs5 hh5 HS5
 obtain ⟨rfl, b6, l6, rfl, hl6, hs6, hh6⟩ := HS6.out rfl
 have HX6 : Hid (l6.map (·.1) = p.ports ∧ Shelf portVs (fun x : PortD => x.id) 61 (v6.alloc (.cells #[.int .i64 5, .map (some b6)] 125)) W5.heap.size b6 l6 ∧ ∀ g ∈ b6 :: l6.map (·.2), g < v6.heap.size) := ⟨hl6, hs6, hh6⟩
 clear hl6 hs6 hh6 HS6
 have i0 : (v6.alloc (.cells #[.int .i64 5, .map (some b6)] 125)).cell? ⟨w.heap.size, 0, none⟩ = some (.int .i64 p.id) := by have := HK6.out.part.cells; simp only [this]
 have i1 : (v6.alloc (.cells #[.int .i64 5, .map (some b6)] 125)).cell? ⟨w.heap.size, 1, none⟩ = some (.int .i64 p.next) := by have := HK6.out.part.cells; simp only [this]
 have a1 : (v6.alloc (.cells #[.int .i64 5, .map (some b6)] 125)).cell? ⟨V1, 0, none⟩ = some (.int .i64 6) := HK6.out.c0 (mb := some b1) (by simp)
 have c1 : (v6.alloc (.cells #[.int .i64 5, .map (some b6)] 125)).cell? ⟨V1, 1, none⟩ = some (.map (some b1)) := HK6.out.c1 (m := 6) (by simp)
 have a2 : (v6.alloc (.cells #[.int .i64 5, .map (some b6)] 125)).cell? ⟨V2, 0, none⟩ = some (.int .i64 5) := HK6.out.c0 (mb := some b2) (by simp)
 have c2 : (v6.alloc (.cells #[.int .i64 5, .map (some b6)] 125)).cell? ⟨V2, 1, none⟩ = some (.map (some b2)) := HK6.out.c1 (m := 5) (by simp)
 have a3 : (v6.alloc (.cells #[.int .i64 5, .map (some b6)] 125)).cell? ⟨V3, 0, none⟩ = some (.int .i64 5) := HK6.out.c0 (mb := some b3) (by simp)
 have c3 : (v6.alloc (.cells #[.int .i64 5, .map (some b6)] 125)).cell? ⟨V3, 1, none⟩ = some (.map (some b3)) := HK6.out.c1 (m := 5) (by simp)
 have a4 : (v6.alloc (.cells #[.int .i64 5, .map (some b6)] 125)).cell? ⟨V4, 0, none⟩ = some (.int .i64 5) := HK6.out.c0 (mb := some b4) (by simp)
 have c4 : (v6.alloc (.cells #[.int .i64 5, .map (some b6)] 125)).cell? ⟨V4, 1, none⟩ = some (.map (some b4)) := HK6.out.c1 (m := 5) (by simp)
 have a5 : (v6.alloc (.cells #[.int .i64 5, .map (some b6)] 125)).cell? ⟨V5, 0, none⟩ = some (.int .i64 5) := HK6.out.c0 (mb := some b5) (by simp)
 have c5 : (v6.alloc (.cells #[.int .i64 5, .map (some b6)] 125)).cell? ⟨V5, 1, none⟩ = some (.map (some b5)) := HK6.out.c1 (m := 5) (by simp)
 have a6 : (v6.alloc (.cells #[.int .i64 5, .map (some b6)] 125)).cell? ⟨v6.heap.size, 0, none⟩ = some (.int .i64 5) := HK6.out.c0 (mb := some b6) (by simp)
 have c6 : (v6.alloc (.cells #[.int .i64 5, .map (some b6)] 125)).cell? ⟨v6.heap.size, 1, none⟩ = some (.map (some b6)) := HK6.out.c1 (m := 5) (by simp)
 by_cases t1 : p.id < 1
 ·have HN : Hid (¬ PartR p.pure) := open_noId (by omega)
  go_wp2_with fail
  go_ret2
  exact ⟨HK6.out.bel.alloc HK6.out.bel.size _, .inl ⟨HN.out, rfl⟩⟩
 by_cases t2 : 6 < p.id
 ·have HN : Hid (¬ PartR p.pure) := open_noId (by omega)
  go_wp2_with fail
  go_ret2
  exact ⟨HK6.out.bel.alloc HK6.out.bel.size _, .inl ⟨HN.out, rfl⟩⟩
 by_cases t3 : p.next < 1
 ·have HN : Hid (¬ PartR p.pure) := open_noNext (by omega)
  go_wp2_with fail
  go_ret2
  exact ⟨HK6.out.bel.alloc HK6.out.bel.size _, .inl ⟨HN.out, rfl⟩⟩
 by_cases t4 : 1000000000 < p.next
 ·have HN : Hid (¬ PartR p.pure) := open_noNext (by omega)
  go_wp2_with fail
  go_ret2
  exact ⟨HK6.out.bel.alloc HK6.out.bel.size _, .inl ⟨HN.out, rfl⟩⟩
 have HID : Hid ((1 ≤ p.id ∧ p.id ≤ 6) ∧ 1 ≤ p.next ∧ p.next ≤ 1000000000) := ⟨⟨by omega, by omega⟩, by omega, by omega⟩
 go_wp2_with fail
 have HB7 : Hid (Below (v6.alloc (.cells #[.int .i64 5, .map (some b6)] 125)).heap.size (v6.alloc (.cells #[.int .i64 5, .map (some b6)] 125)) ((v6.alloc (.cells #[.int .i64 5, .map (some b6)] 125)).alloc (.cells #[.int .i64 p.id, .int .i64 p.next, .int .i64 6, .map (some b1), .int .i64 5, .map (some b2), .int .i64 5, .map (some b3), .int .i64 5, .map (some b4), .int .i64 5, .map (some b5), .int .i64 5, .map (some b6)] 127))) := (Below.refl _ _).alloc (Nat.le_refl _) _
 have HO : Hid (OpenBox ((v6.alloc (.cells #[.int .i64 5, .map (some b6)] 125)).alloc (.cells #[.int .i64 p.id, .int .i64 p.next, .int .i64 6, .map (some b1), .int .i64 5, .map (some b2), .int .i64 5, .map (some b3), .int .i64 5, .map (some b4), .int .i64 5, .map (some b5), .int .i64 5, .map (some b6)] 127)) (v6.heap.size + 1) ⟨p.id, p.next, b1, b2, b3, b4, b5, b6⟩) := heap_alloc2_new _ _ _
 have HK7 : Hid (Below w.heap.size w ((v6.alloc (.cells #[.int .i64 5, .map (some b6)] 125)).alloc (.cells #[.int .i64 p.id, .int .i64 p.next, .int .i64 6, .map (some b1), .int .i64 5, .map (some b2), .int .i64 5, .map (some b3), .int .i64 5, .map (some b4), .int .i64 5, .map (some b5), .int .i64 5, .map (some b6)] 127)) ∧ ((v6.alloc (.cells #[.int .i64 5, .map (some b6)] 125)).alloc (.cells #[.int .i64 p.id, .int .i64 p.next, .int .i64 6, .map (some b1), .int .i64 5, .map (some b2), .int .i64 5, .map (some b3), .int .i64 5, .map (some b4), .int .i64 5, .map (some b5), .int .i64 5, .map (some b6)] 127)).heap.size = v6.heap.size + 1 + 1) := ⟨HK6.out.bel.alloc HK6.out.bel.size _, by simp⟩
 have HY1 : Hid (l1.map (·.1) = p.procs ∧ Shelf procVs (fun x : ProcD => x.id) 43 ((v6.alloc (.cells #[.int .i64 5, .map (some b6)] 125)).alloc (.cells #[.int .i64 p.id, .int .i64 p.next, .int .i64 6, .map (some b1), .int .i64 5, .map (some b2), .int .i64 5, .map (some b3), .int .i64 5, .map (some b4), .int .i64 5, .map (some b5), .int .i64 5, .map (some b6)] 127)) W0.heap.size b1 l1 ∧ ∀ g ∈ b1 :: l1.map (·.2), g < V1) := ⟨HX1.out.1, HX1.out.2.1.below HB7.out, HX1.out.2.2⟩
 have HY2 : Hid (l2.map (·.1) = p.sems ∧ Shelf semVs (fun x : SemD => x.id) 49 ((v6.alloc (.cells #[.int .i64 5, .map (some b6)] 125)).alloc (.cells #[.int .i64 p.id, .int .i64 p.next, .int .i64 6, .map (some b1), .int .i64 5, .map (some b2), .int .i64 5, .map (some b3), .int .i64 5, .map (some b4), .int .i64 5, .map (some b5), .int .i64 5, .map (some b6)] 127)) W1.heap.size b2 l2 ∧ ∀ g ∈ b2 :: l2.map (·.2), g < V2) := ⟨HX2.out.1, HX2.out.2.1.below HB7.out, HX2.out.2.2⟩
 have HY3 : Hid (l3.map (·.1) = p.events ∧ Shelf eventVs (fun x : EventD => x.id) 138 ((v6.alloc (.cells #[.int .i64 5, .map (some b6)] 125)).alloc (.cells #[.int .i64 p.id, .int .i64 p.next, .int .i64 6, .map (some b1), .int .i64 5, .map (some b2), .int .i64 5, .map (some b3), .int .i64 5, .map (some b4), .int .i64 5, .map (some b5), .int .i64 5, .map (some b6)] 127)) W2.heap.size b3 l3 ∧ ∀ g ∈ b3 :: l3.map (·.2), g < V3) := ⟨HX3.out.1, HX3.out.2.1.below HB7.out, HX3.out.2.2⟩
 have HY4 : Hid (l4.map (·.1) = p.boards ∧ Shelf boardVs (fun x : BoardD => x.id) 141 ((v6.alloc (.cells #[.int .i64 5, .map (some b6)] 125)).alloc (.cells #[.int .i64 p.id, .int .i64 p.next, .int .i64 6, .map (some b1), .int .i64 5, .map (some b2), .int .i64 5, .map (some b3), .int .i64 5, .map (some b4), .int .i64 5, .map (some b5), .int .i64 5, .map (some b6)] 127)) W3.heap.size b4 l4 ∧ ∀ g ∈ b4 :: l4.map (·.2), g < V4) := ⟨HX4.out.1, HX4.out.2.1.below HB7.out, HX4.out.2.2⟩
 have HY5 : Hid (l5.map (·.1) = p.buffers ∧ Shelf bufferVs (fun x : BufferD => x.id) 144 ((v6.alloc (.cells #[.int .i64 5, .map (some b6)] 125)).alloc (.cells #[.int .i64 p.id, .int .i64 p.next, .int .i64 6, .map (some b1), .int .i64 5, .map (some b2), .int .i64 5, .map (some b3), .int .i64 5, .map (some b4), .int .i64 5, .map (some b5), .int .i64 5, .map (some b6)] 127)) W4.heap.size b5 l5 ∧ ∀ g ∈ b5 :: l5.map (·.2), g < V5) := ⟨HX5.out.1, HX5.out.2.1.below HB7.out, HX5.out.2.2⟩
 have HY6 : Hid (l6.map (·.1) = p.ports ∧ Shelf portVs (fun x : PortD => x.id) 61 ((v6.alloc (.cells #[.int .i64 5, .map (some b6)] 125)).alloc (.cells #[.int .i64 p.id, .int .i64 p.next, .int .i64 6, .map (some b1), .int .i64 5, .map (some b2), .int .i64 5, .map (some b3), .int .i64 5, .map (some b4), .int .i64 5, .map (some b5), .int .i64 5, .map (some b6)] 127)) W5.heap.size b6 l6 ∧ ∀ g ∈ b6 :: l6.map (·.2), g < v6.heap.size) := ⟨HX6.out.1, HX6.out.2.1.below HB7.out, HX6.out.2.2⟩
 have HW : Hid (w.heap.size ≤ W0.heap.size ∧ W0.heap.size ≤ V1 ∧ V1 < W1.heap.size ∧ W1.heap.size ≤ V2 ∧ V2 < W2.heap.size ∧ W2.heap.size ≤ V3 ∧ V3 < W3.heap.size ∧ W3.heap.size ≤ V4 ∧ V4 < W4.heap.size ∧ W4.heap.size ≤ V5 ∧ V5 < W5.heap.size ∧ W5.heap.size ≤ v6.heap.size) := ⟨HW0.out, HV1.out.1, HV1.out.2, HV2.out.1, HV2.out.2, HV3.out.1, HV3.out.2, HV4.out.1, HV4.out.2, HV5.out.1, HV5.out.2, HV6.out.1⟩
 clear i0 i1 HK6 HB7 HV1 HV2 HV3 HV4 HV5 HV6 HW0 a1 c1 HX1 a2 c2 HX2 a3 c3 HX3 a4 c4 HX4 a5 c5 HX5 a6 c6 HX6
 generalize (v6.alloc (.cells #[.int .i64 5, .map (some b6)] 125)).alloc (.cells #[.int .i64 p.id, .int .i64 p.next, .int .i64 6, .map (some b1), .int .i64 5, .map (some b2), .int .i64 5, .map (some b3), .int .i64 5, .map (some b4), .int .i64 5, .map (some b5), .int .i64 5, .map (some b6)] 127) = WO at *
 generalize v6.heap.size = V6 at *
 have HIN : Hid (OpenIn WO WO (V6 + 1) ⟨p.id, p.next, b1, b2, b3, b4, b5, b6⟩ l1 (keysOf (fun x : SemD => x.id) l2) (keysOf (fun x : EventD => x.id) l3) (keysOf (fun x : BoardD => x.id) l4) (keysOf (fun x : BufferD => x.id) l5)) := ⟨HO.out, HY1.out.2.1.lower (Nat.zero_le _), HY2.out.2.1.map, HY3.out.2.1.map, HY4.out.2.1.map, HY5.out.2.1.map, Below.refl _ _⟩
 have HLN : Hid (l1.length ≤ 1048576 ∧ ∀ q ∈ l1, q.1.Wf) := ⟨by have h1 := congrArg List.length HY1.out.1; have h2 := HG.out.short.procs; simp only [List.length_map] at h1; omega, fun q hq => (HG.out.procs q.1 (by rw [← HY1.out.1]; exact List.mem_map.2 ⟨q, hq, rfl⟩)).2⟩
 refine (turnsOk_any (V6 + 1) _ l1 _ _ _ _ WO HIN.out HLN.out.1 HLN.out.2).mono ?_
 rintro e X1 ⟨okt, rfl, hti, hx1⟩
 cases okt with
 | false =>
  have HN : Hid (¬ PartR p.pure) := open_noTurns fun ht => absurd (hti.2 ((turns_is HY1.out.1).2 ht)) (by simp)
  have HB : Hid (Below w.heap.size w X1) := HK7.out.1.trans (hx1.mono HK7.out.1.size)
  clear hti hx1
  go_wp2
  go_ret2
  exact ⟨HB.out, .inl ⟨HN.out, rfl⟩⟩
 | true =>
 have HTU : Hid (TurnsR p.next p.pure.procs) := (turns_is HY1.out.1).1 (hti.1 rfl)
 have HX1 : Hid (Below WO.heap.size WO X1) := hx1
 clear hti hx1
 go_wp2_with fail
 refine (waitsOk_any (V6 + 1) ⟨p.id, p.next, b1, b2, b3, b4, b5, b6⟩ l1 (keysOf (fun x : SemD => x.id) l2) (keysOf (fun x : EventD => x.id) l3) (keysOf (fun x : BoardD => x.id) l4) (keysOf (fun x : BufferD => x.id) l5) X1 ⟨HIN.out.opn.below HX1.out, HIN.out.shelf.below HX1.out, HIN.out.ms.below HX1.out, HIN.out.me.below HX1.out, HIN.out.mb.below HX1.out, HIN.out.mf.below HX1.out, Below.refl _ _⟩ HLN.out.1 HLN.out.2).mono ?_
 rintro e X2 ⟨rfl, hx2⟩
 rw [waits_is HY1.out.1 HY2.out.1 HY3.out.1 HY4.out.1 HY5.out.1 HE1.out.symm]
 have HB2 : Hid (Below WO.heap.size WO X2) := HX1.out.trans (hx2.mono HX1.out.size)
 clear hx2
 cases hw : p.pure.procs.all (waitB p.pure)
 ·have HN : Hid (¬ PartR p.pure) := open_noWaits hw
  clear hw
  go_wp2
  go_ret2
  exact ⟨HK7.out.1.trans (HB2.out.mono HK7.out.1.size), .inl ⟨HN.out, rfl⟩⟩
 have HYES : Hid (PartR p.pure) := open_yes HE1.out.symm HE2.out.symm HE3.out.symm HE4.out.symm HE5.out.symm HE6.out.symm HID.out.1 HID.out.2 HTU.out hw
 clear hw
 go_wp2_with fail
 have HTH : Hid (Three X2 w.heap.size (V6 + 1) ⟨p.id, p.next, b1, b2, b3, b4, b5, b6⟩ l1 l5 l6) := open_three HW.out HO.out HB2.out HY1.out.2 HY5.out.2 HY6.out.2
 refine (ownLists_walk (V6 + 1) w.heap.size _ l1 l5 l6 X2 HTH.out (Nat.le_trans HK7.out.1.size HB2.out.size) ?_ ?_ ?_).mono ?_
 ·exact listsProc HG.out (HK7.out.1.trans (HB2.out.mono HK7.out.1.size)) HY1.out.1
 ·exact listsBuffer HG.out (HK7.out.1.trans (HB2.out.mono HK7.out.1.size)) HY5.out.1
 ·exact listsPort HG.out (HK7.out.1.trans (HB2.out.mono HK7.out.1.size)) HY6.out.1
 rintro e X3 ⟨rfl, w1, w2, l1', l5', l6', ho1, ho5, ho6⟩
 have HEND : Hid (Below w.heap.size w X3 ∧ OpenAt X3 w.heap.size (V6 + 1) ⟨⟨p.id, p.next, b1, b2, b3, b4, b5, b6⟩, l1', l2, l3, l4, l5', l6'⟩ ∧ (⟨⟨p.id, p.next, b1, b2, b3, b4, b5, b6⟩, l1', l2, l3, l4, l5', l6'⟩ : OpenD).pure = p.pure) := open_end HW.out HK7.out HO.out HB2.out HY1.out HY2.out HY3.out HY4.out HY5.out HY6.out ho1 ho5 ho6
 clear ho1 ho5 ho6
 go_wp2
 go_ret2
 exact ⟨HEND.out.1, .inr ⟨HYES.out, V6 + 1, _, rfl, HEND.out.2.1, HEND.out.2.2⟩⟩

end Go.Proofs.YtkbcplnlehdjfaaGreat

/- What the specification says of the things of a partition. (Made by mkthings.py.) -/
namespace Go.Proofs.YtkbcplnlehdjfaaGreat
open Go.RowKit

theorem l1In_yes {n lo hi : Int} (h : inB n lo hi = true) (w : World) : Calls Tryz.prog 78 #[.int .i64 n, .int .i64 lo, .int .i64 hi] w fun e w' => e = .returned (.bool true) ∧ w' = w := by
 refine (l1In_any n lo hi w).mono ?_
 rintro e w' ⟨rfl, rfl⟩
 exact ⟨ret_bool h, rfl⟩
theorem l1In_no {n lo hi : Int} (h : inB n lo hi = false) (w : World) : Calls Tryz.prog 78 #[.int .i64 n, .int .i64 lo, .int .i64 hi] w fun e w' => e = .returned (.bool false) ∧ w' = w := by
 refine (l1In_any n lo hi w).mono ?_
 rintro e w' ⟨rfl, rfl⟩
 exact ⟨ret_bool h, rfl⟩
/-- All but the processes. -/
def thingsOk (p : PartD) : Bool := thingsB (fun x : SemD => x.id) semB 0 p.sems && thingsB (fun x : EventD => x.id) eventB 0 p.events && thingsB (fun x : BoardD => x.id) boardB 0 p.boards && thingsB (fun x : BufferD => x.id) (fun x => bufferB x.toBufferP) 0 p.buffers && thingsB (fun x : PortD => x.id) (fun x => portB x.toPortP) 0 p.ports && decide (p.sems.length ≤ 5) && decide (p.events.length ≤ 5) && decide (p.boards.length ≤ 5) && decide (p.buffers.length ≤ 5) && decide (p.ports.length ≤ 5)
theorem thingsOk_noSem {p : PartD} (h : thingsB (fun x : SemD => x.id) semB 0 p.sems = false) : thingsOk p = false := by simp [thingsOk, h]
theorem thingsOk_noEvent {p : PartD} (h : thingsB (fun x : EventD => x.id) eventB 0 p.events = false) : thingsOk p = false := by simp [thingsOk, h]
theorem thingsOk_noBoard {p : PartD} (h : thingsB (fun x : BoardD => x.id) boardB 0 p.boards = false) : thingsOk p = false := by simp [thingsOk, h]
theorem thingsOk_noBuffer {p : PartD} (h : thingsB (fun x : BufferD => x.id) (fun x => bufferB x.toBufferP) 0 p.buffers = false) : thingsOk p = false := by simp [thingsOk, h]
theorem thingsOk_noPort {p : PartD} (h : thingsB (fun x : PortD => x.id) (fun x => portB x.toPortP) 0 p.ports = false) : thingsOk p = false := by simp [thingsOk, h]
theorem thingsOk_len0 {p : PartD} (h : decide ((p.sems.length : Int) ≤ 5) = false) : thingsOk p = false := by
 have h1 : decide (p.sems.length ≤ 5) = false := decide_eq_false (by have := of_decide_eq_false h; omega)
 simp [thingsOk, h1]
theorem thingsOk_len1 {p : PartD} (h : decide ((p.events.length : Int) ≤ 5) = false) : thingsOk p = false := by
 have h1 : decide (p.events.length ≤ 5) = false := decide_eq_false (by have := of_decide_eq_false h; omega)
 simp [thingsOk, h1]
theorem thingsOk_len2 {p : PartD} (h : decide ((p.boards.length : Int) ≤ 5) = false) : thingsOk p = false := by
 have h1 : decide (p.boards.length ≤ 5) = false := decide_eq_false (by have := of_decide_eq_false h; omega)
 simp [thingsOk, h1]
theorem thingsOk_len3 {p : PartD} (h : decide ((p.buffers.length : Int) ≤ 5) = false) : thingsOk p = false := by
 have h1 : decide (p.buffers.length ≤ 5) = false := decide_eq_false (by have := of_decide_eq_false h; omega)
 simp [thingsOk, h1]
theorem thingsOk_len4 {p : PartD} (h : decide ((p.ports.length : Int) ≤ 5) = false) : thingsOk p = false := by
 have h1 : decide (p.ports.length ≤ 5) = false := decide_eq_false (by have := of_decide_eq_false h; omega)
 simp [thingsOk, h1]
theorem thingsOk_yes {p : PartD} (t0 : thingsB (fun x : SemD => x.id) semB 0 p.sems = true) (t1 : thingsB (fun x : EventD => x.id) eventB 0 p.events = true) (t2 : thingsB (fun x : BoardD => x.id) boardB 0 p.boards = true) (t3 : thingsB (fun x : BufferD => x.id) (fun x => bufferB x.toBufferP) 0 p.buffers = true) (t4 : thingsB (fun x : PortD => x.id) (fun x => portB x.toPortP) 0 p.ports = true) (d0 : decide ((p.sems.length : Int) ≤ 5) = true) (d1 : decide ((p.events.length : Int) ≤ 5) = true) (d2 : decide ((p.boards.length : Int) ≤ 5) = true) (d3 : decide ((p.buffers.length : Int) ≤ 5) = true) (d4 : decide ((p.ports.length : Int) ≤ 5) = true) : thingsOk p = true := by
 have e0 : decide (p.sems.length ≤ 5) = true := decide_eq_true (by have := of_decide_eq_true d0; omega)
 have e1 : decide (p.events.length ≤ 5) = true := decide_eq_true (by have := of_decide_eq_true d1; omega)
 have e2 : decide (p.boards.length ≤ 5) = true := decide_eq_true (by have := of_decide_eq_true d2; omega)
 have e3 : decide (p.buffers.length ≤ 5) = true := decide_eq_true (by have := of_decide_eq_true d3; omega)
 have e4 : decide (p.ports.length ≤ 5) = true := decide_eq_true (by have := of_decide_eq_true d4; omega)
 simp only [thingsOk, t0, t1, t2, t3, t4, e0, e1, e2, e3, e4, Bool.and_self]
theorem plain_is {s : ByteArray} {b : Bool} (h : plainB s = b) (hs : s.size ≤ 1048576) (w : World) : Calls Tryz.prog 181 #[.string s] w fun e w' => e = .returned (.bool b) ∧ w' = w := by
 refine (l2Plain_any s w hs).mono ?_
 rintro e w' ⟨rfl, rfl⟩
 exact ⟨ret_bool h, rfl⟩
theorem texts_is {W : World} {o : Obj} {a : Option Addr} {l : List ByteArray} {cap : Nat} {most : Int} {b : Bool} (h : textsB l most = b) (hf : TextsFit W a l) (n : Nat) :
  Calls Tryz.prog 182 #[.slice a l.length cap, .int .i64 most] ((W.alloc o).drewN n) fun e w' => e = .returned (.bool b) ∧ w' = (W.alloc o).drewN n := by
 refine (l3Texts_any a l cap most ((W.alloc o).drewN n) hf.len hf.short ?_).mono ?_
 ·exact hf.row.below (below_drewN ((Below.refl _ W).alloc (Nat.le_refl _) o) n)
 ·rintro e w' ⟨rfl, rfl⟩
  exact ⟨ret_bool h, rfl⟩
theorem last_none {α : Type} {num : α → Int} {l : List α} : lastOf num 0 (l.take 0) = 0 := by simp [lastOf]
theorem last_prev {α : Type} {num : α → Int} {l : List α} {k : Nat} {y : α} (hk : 0 < k) (hy : l[k - 1]? = some y) : lastOf num 0 (l.take k) = num y := by
 have e : k = k - 1 + 1 := by omega
 rw [e]
 exact lastOf_take hy 0
/-- The texts of the things are not too long for a machine. -/
structure PartD.Fit (p : PartD) : Prop where
 short : p.Short
 boards : ∀ b ∈ p.boards, b.text.size ≤ 1048576
 buffers : ∀ b ∈ p.buffers, b.items.length ≤ 1048576 ∧ ∀ s ∈ b.items, s.size ≤ 1048576
 ports : ∀ b ∈ p.ports, b.items.length ≤ 1048576 ∧ ∀ s ∈ b.items, s.size ≤ 1048576

set_option maxRecDepth 100000 in
set_option maxHeartbeats 16000000 in
theorem l3Things_any (p : PartD) (w : World) (hf : p.Fit) (h : PartD.At w p) :
  Calls Tryz.prog 102 #[.agg p.cells] w fun e w' => e = .returned (.bool (thingsOk p)) ∧ Below w.heap.size w w' := by
 have HB : Hid (PartBox (w.alloc (.cells p.cells 32)) w.heap.size p ∧ PartD.At (w.alloc (.cells p.cells 32)) p ∧ Below w.heap.size w (w.alloc (.cells p.cells 32))) := ⟨heap_alloc_new _ _, h.below ((Below.refl _ _).alloc (Nat.le_refl _) _), (Below.refl _ _).alloc (Nat.le_refl _) _⟩
 have HFT : Hid p.Fit := hf
 clear h hf
 unfold PartD.cells at *
 go_enter Tryz.func102, Tryz.ntmps102
 go_wp2_with fail
 generalize w.alloc (.cells #[.int .i64 p.id, .int .i64 p.next, .slice p.procA p.procs.length p.procC, .slice p.semA p.sems.length p.semC, .slice p.eventA p.events.length p.eventC, .slice p.boardA p.boards.length p.boardC, .slice p.bufferA p.buffers.length p.bufferC, .slice p.portA p.ports.length p.portC] 32) = W at *
 go_loopw [3] (fun i wr => ∃ k : Nat, k ≤ p.sems.length ∧ i = .int .i64 k ∧ Hid (thingsB (fun x : SemD => x.id) semB 0 (p.sems.take k) = true ∧ Below W.heap.size W wr)) (fun i _ => p.sems.length - (intOf i).toNat)
 case atStart => exact ⟨0, Nat.zero_le _, rfl, ⟨rfl, Below.refl _ _⟩⟩
 case round =>
  obtain ⟨k, hk, rfl, HA⟩ := hrel
  have hsz : w.heap.size < wr.heap.size := Nat.lt_of_lt_of_le (Array.getElem?_eq_some_iff.1 HB.out.1).1 HA.out.2.size
  have HB2 : Hid (PartBox wr w.heap.size p ∧ PartD.At wr p ∧ Below w.heap.size w wr) := ⟨HB.out.1.below HA.out.2, HB.out.2.1.below HA.out.2, HB.out.2.2.trans (HA.out.2.mono HB.out.2.2.size)⟩
  obtain ⟨m0, m1, m2, m3, m4, m5, m6, m7⟩ := HB2.out.1.cells
  have hll := HFT.out.short.sems
  by_cases hlt : k < p.sems.length
  ·as_aux_lemma =>
    have i0 : (0 : Int) ≤ (k : Int) := by omega
    have i1 : (k : Int) < (p.sems.length : Int) := by omega
    obtain ⟨x, hx⟩ : ∃ x, p.sems[k]? = some x := ⟨_, List.getElem?_eq_getElem hlt⟩
    have hmem := List.mem_of_getElem? hx
    obtain ⟨gs, ha, hat⟩ := sem_at HB2.out.2.1.2.1 hx
    have hgs : gs < wr.heap.size := block_lt_of_cell hat.1
    have HP : Hid (∀ y, p.sems[k - 1]? = some y → wr.cell? ⟨gs, (k - 1) * 3, none⟩ = some (.int .i64 y.id)) := fun y hy => by
     obtain ⟨g2, ha2, hat2⟩ := sem_at HB2.out.2.1.2.1 hy
     rw [ha] at ha2
     cases ha2
     exact hat2.1
    obtain ⟨c0, c1, c2⟩ := hat
    rw [ha] at m3
    have HX : Hid (p.sems[k]? = some x) := hx
    clear hx ha hmem HB
    cases hin : inB x.id 1 1000
    ·have HCI : Hid (∀ w, Calls Tryz.prog 78 #[.int .i64 x.id, .int .i64 1, .int .i64 1000] w fun e w' => e = .returned (.bool false) ∧ w' = w) := l1In_no hin
     have HIN : Hid (inB x.id 1 1000 = false) := hin
     clear hin
     have HN : Hid (thingsOk p = false) := thingsOk_noSem (things_no HX.out (fun hh => by rw [HIN.out] at hh; cases hh.1))
     go_wp2_with fail
     go_quiet ((first
      | (go_at_call_of 78 (x.id); exact Calls.quiet_of_same (HCI.out _))))
     go_wp2
     go_ret
     exact ⟨ret_bool HN.out.symm, below_drewN (HB2.out.2.2.alloc HB2.out.2.2.size _) _⟩
    have HIN : Hid (inB x.id 1 1000 = true) := hin
    have HCI : Hid (∀ w, Calls Tryz.prog 78 #[.int .i64 x.id, .int .i64 1, .int .i64 1000] w fun e w' => e = .returned (.bool true) ∧ w' = w) := l1In_yes hin
    clear hin
    by_cases hk0 : k = 0
    ·have dk : decide (0 < k) = false := decide_eq_false (by omega)
     have HLT : Hid (lastOf (fun x : SemD => x.id) 0 (p.sems.take k) < x.id) := by show _ < _; rw [hk0, last_none]; have := inB_iff.1 HIN.out; omega
     clear hk0
     cases h5 : inB x.max 1 1000
     ·have HC5 : Hid (∀ w, Calls Tryz.prog 78 #[.int .i64 x.max, .int .i64 1, .int .i64 1000] w fun e w' => e = .returned (.bool false) ∧ w' = w) := l1In_no h5
      have H5 : Hid (inB x.max 1 1000 = false) := h5
      clear h5
      have HN : Hid (thingsOk p = false) := thingsOk_noSem (things_no HX.out (fun hh => by have h9 := hh.2.2; simp [semB, H5.out] at h9))
      go_wp2_with fail
      go_quiet ((first
       | (go_at_call_of 78 (x.id); exact Calls.quiet_of_same (HCI.out _))
       | (go_at_call_of 78 (x.max); exact Calls.quiet_of_same (HC5.out _))))
      go_wp2
      go_ret
      exact ⟨ret_bool HN.out.symm, below_drewN (HB2.out.2.2.alloc HB2.out.2.2.size _) _⟩
     have HC5 : Hid (∀ w, Calls Tryz.prog 78 #[.int .i64 x.max, .int .i64 1, .int .i64 1000] w fun e w' => e = .returned (.bool true) ∧ w' = w) := l1In_yes h5
     have H5 : Hid (inB x.max 1 1000 = true) := h5
     clear h5
     cases h6 : inB x.n 0 x.max
     ·have HC6 : Hid (∀ w, Calls Tryz.prog 78 #[.int .i64 x.n, .int .i64 0, .int .i64 x.max] w fun e w' => e = .returned (.bool false) ∧ w' = w) := l1In_no h6
      have H6 : Hid (inB x.n 0 x.max = false) := h6
      clear h6
      have HN : Hid (thingsOk p = false) := thingsOk_noSem (things_no HX.out (fun hh => by have h9 := hh.2.2; simp [semB, H6.out] at h9))
      go_wp2_with fail
      go_quiet ((first
       | (go_at_call_of 78 (x.id); exact Calls.quiet_of_same (HCI.out _))
       | (go_at_call_of 78 (x.n); exact Calls.quiet_of_same (HC6.out _))
       | (go_at_call_of 78 (x.max); exact Calls.quiet_of_same (HC5.out _))))
      go_wp2
      go_ret
      exact ⟨ret_bool HN.out.symm, below_drewN (HB2.out.2.2.alloc HB2.out.2.2.size _) _⟩
     have HC6 : Hid (∀ w, Calls Tryz.prog 78 #[.int .i64 x.n, .int .i64 0, .int .i64 x.max] w fun e w' => e = .returned (.bool true) ∧ w' = w) := l1In_yes h6
     have H6 : Hid (inB x.n 0 x.max = true) := h6
     clear h6
     have HY : Hid (thingsB (fun x : SemD => x.id) semB 0 (p.sems.take (k + 1)) = true) := things_yes HA.out.1 HX.out HIN.out HLT.out (by simp [semB, H5.out, H6.out])
     go_wp2_with fail
     go_quiet ((first
      | (go_at_call_of 78 (x.id); exact Calls.quiet_of_same (HCI.out _))
      | (go_at_call_of 78 (x.n); exact Calls.quiet_of_same (HC6.out _))
      | (go_at_call_of 78 (x.max); exact Calls.quiet_of_same (HC5.out _))))
     go_wp2
     go_roundw
     case rel => exact ⟨k + 1, by omega, by go_num, ⟨HY.out, below_drewN (HA.out.2.alloc HA.out.2.size _) _⟩⟩
     case measure => simp [intOf]; omega
    obtain ⟨j, rfl⟩ : ∃ j, k = j + 1 := ⟨k - 1, by omega⟩
    obtain ⟨y, hy⟩ : ∃ y, p.sems[j]? = some y := ⟨_, List.getElem?_eq_getElem (by omega)⟩
    have cp : wr.cell? ⟨gs, j * 3, none⟩ = some (.int .i64 y.id) := HP.out y hy
    have j0 : (0 : Int) ≤ (j : Int) := by omega
    have j1 : (j : Int) < (p.sems.length : Int) := by omega
    have wk : IntKind.i64.wrap (j : Int) = (j : Int) := by rw [IntKind.wrap_i64]; omega
    have HLA : Hid (lastOf (fun x : SemD => x.id) 0 (p.sems.take (j + 1)) = y.id) := lastOf_take hy 0
    clear hy hk0
    by_cases hle : x.id ≤ y.id
    ·have dp : decide (x.id ≤ y.id) = true := decide_eq_true hle
     have HN : Hid (thingsOk p = false) := thingsOk_noSem (things_no HX.out (fun hh => by have h9 := hh.2.1; rw [HLA.out] at h9; have h9 : y.id < x.id := h9; omega))
     go_wp2_with fail
     go_quiet ((first
      | (go_at_call_of 78 (x.id); exact Calls.quiet_of_same (HCI.out _))))
     go_wp2
     go_ret
     exact ⟨ret_bool HN.out.symm, below_drewN (HB2.out.2.2.alloc HB2.out.2.2.size _) _⟩
    have dp : decide (x.id ≤ y.id) = false := decide_eq_false hle
    have HLT : Hid (lastOf (fun x : SemD => x.id) 0 (p.sems.take (j + 1)) < x.id) := by show _ < _; rw [HLA.out]; show y.id < x.id; omega
    cases h5 : inB x.max 1 1000
    ·have HC5 : Hid (∀ w, Calls Tryz.prog 78 #[.int .i64 x.max, .int .i64 1, .int .i64 1000] w fun e w' => e = .returned (.bool false) ∧ w' = w) := l1In_no h5
     have H5 : Hid (inB x.max 1 1000 = false) := h5
     clear h5
     have HN : Hid (thingsOk p = false) := thingsOk_noSem (things_no HX.out (fun hh => by have h9 := hh.2.2; simp [semB, H5.out] at h9))
     go_wp2_with fail
     go_quiet ((first
      | (go_at_call_of 78 (x.id); exact Calls.quiet_of_same (HCI.out _))
      | (go_at_call_of 78 (x.max); exact Calls.quiet_of_same (HC5.out _))))
     go_wp2
     go_ret
     exact ⟨ret_bool HN.out.symm, below_drewN (HB2.out.2.2.alloc HB2.out.2.2.size _) _⟩
    have HC5 : Hid (∀ w, Calls Tryz.prog 78 #[.int .i64 x.max, .int .i64 1, .int .i64 1000] w fun e w' => e = .returned (.bool true) ∧ w' = w) := l1In_yes h5
    have H5 : Hid (inB x.max 1 1000 = true) := h5
    clear h5
    cases h6 : inB x.n 0 x.max
    ·have HC6 : Hid (∀ w, Calls Tryz.prog 78 #[.int .i64 x.n, .int .i64 0, .int .i64 x.max] w fun e w' => e = .returned (.bool false) ∧ w' = w) := l1In_no h6
     have H6 : Hid (inB x.n 0 x.max = false) := h6
     clear h6
     have HN : Hid (thingsOk p = false) := thingsOk_noSem (things_no HX.out (fun hh => by have h9 := hh.2.2; simp [semB, H6.out] at h9))
     go_wp2_with fail
     go_quiet ((first
      | (go_at_call_of 78 (x.id); exact Calls.quiet_of_same (HCI.out _))
      | (go_at_call_of 78 (x.n); exact Calls.quiet_of_same (HC6.out _))
      | (go_at_call_of 78 (x.max); exact Calls.quiet_of_same (HC5.out _))))
     go_wp2
     go_ret
     exact ⟨ret_bool HN.out.symm, below_drewN (HB2.out.2.2.alloc HB2.out.2.2.size _) _⟩
    have HC6 : Hid (∀ w, Calls Tryz.prog 78 #[.int .i64 x.n, .int .i64 0, .int .i64 x.max] w fun e w' => e = .returned (.bool true) ∧ w' = w) := l1In_yes h6
    have H6 : Hid (inB x.n 0 x.max = true) := h6
    clear h6
    have HY : Hid (thingsB (fun x : SemD => x.id) semB 0 (p.sems.take ((j + 1) + 1)) = true) := things_yes HA.out.1 HX.out HIN.out HLT.out (by simp [semB, H5.out, H6.out])
    go_wp2_with fail
    go_quiet ((first
     | (go_at_call_of 78 (x.id); exact Calls.quiet_of_same (HCI.out _))
     | (go_at_call_of 78 (x.n); exact Calls.quiet_of_same (HC6.out _))
     | (go_at_call_of 78 (x.max); exact Calls.quiet_of_same (HC5.out _))))
    go_wp2
    go_roundw
    case rel => exact ⟨(j + 1) + 1, by omega, by go_num, ⟨HY.out, below_drewN (HA.out.2.alloc HA.out.2.size _) _⟩⟩
    case measure => simp [intOf]; omega
  ·have i1 : ¬ (k : Int) < (p.sems.length : Int) := by omega
   have HT0 : Hid (thingsB (fun x : SemD => x.id) semB 0 p.sems = true) := by have := HA.out.1; rwa [List.take_of_length_le (by omega)] at this
   clear HA HB hlt hk hsz hll
   go_wp2_with fail
   clear i1 m0 m1 m2 m3 m4 m5 m6 m7
   rename World => W0
   have HB : Hid (PartBox W0 w.heap.size p ∧ PartD.At W0 p ∧ Below w.heap.size w W0) := HB2.out
   clear HB2
   go_loopw [5] (fun i wr => ∃ k : Nat, k ≤ p.events.length ∧ i = .int .i64 k ∧ Hid (thingsB (fun x : EventD => x.id) eventB 0 (p.events.take k) = true ∧ Below W0.heap.size W0 wr)) (fun i _ => p.events.length - (intOf i).toNat)
   case atStart => exact ⟨0, Nat.zero_le _, rfl, ⟨rfl, Below.refl _ _⟩⟩
   case round =>
    obtain ⟨k, hk, rfl, HA⟩ := hrel
    have hsz : w.heap.size < wr.heap.size := Nat.lt_of_lt_of_le (Array.getElem?_eq_some_iff.1 HB.out.1).1 HA.out.2.size
    have HB2 : Hid (PartBox wr w.heap.size p ∧ PartD.At wr p ∧ Below w.heap.size w wr) := ⟨HB.out.1.below HA.out.2, HB.out.2.1.below HA.out.2, HB.out.2.2.trans (HA.out.2.mono HB.out.2.2.size)⟩
    obtain ⟨m0, m1, m2, m3, m4, m5, m6, m7⟩ := HB2.out.1.cells
    have hll := HFT.out.short.events
    by_cases hlt : k < p.events.length
    ·as_aux_lemma =>
      have i0 : (0 : Int) ≤ (k : Int) := by omega
      have i1 : (k : Int) < (p.events.length : Int) := by omega
      obtain ⟨x, hx⟩ : ∃ x, p.events[k]? = some x := ⟨_, List.getElem?_eq_getElem hlt⟩
      have hmem := List.mem_of_getElem? hx
      obtain ⟨gs, ha, hat⟩ := event_at HB2.out.2.1.2.2.1 hx
      have hgs : gs < wr.heap.size := block_lt_of_cell hat.1
      have HP : Hid (∀ y, p.events[k - 1]? = some y → wr.cell? ⟨gs, (k - 1) * 2, none⟩ = some (.int .i64 y.id)) := fun y hy => by
       obtain ⟨g2, ha2, hat2⟩ := event_at HB2.out.2.1.2.2.1 hy
       rw [ha] at ha2
       cases ha2
       exact hat2.1
      obtain ⟨c0, c1⟩ := hat
      rw [ha] at m4
      have HX : Hid (p.events[k]? = some x) := hx
      clear hx ha hmem HB
      cases hin : inB x.id 1 1000
      ·have HCI : Hid (∀ w, Calls Tryz.prog 78 #[.int .i64 x.id, .int .i64 1, .int .i64 1000] w fun e w' => e = .returned (.bool false) ∧ w' = w) := l1In_no hin
       have HIN : Hid (inB x.id 1 1000 = false) := hin
       clear hin
       have HN : Hid (thingsOk p = false) := thingsOk_noEvent (things_no HX.out (fun hh => by rw [HIN.out] at hh; cases hh.1))
       go_wp2_with fail
       go_quiet ((first
        | (go_at_call_of 78 (x.id); exact Calls.quiet_of_same (HCI.out _))))
       go_wp2
       go_ret
       exact ⟨ret_bool HN.out.symm, below_drewN HB2.out.2.2 _⟩
      have HIN : Hid (inB x.id 1 1000 = true) := hin
      have HCI : Hid (∀ w, Calls Tryz.prog 78 #[.int .i64 x.id, .int .i64 1, .int .i64 1000] w fun e w' => e = .returned (.bool true) ∧ w' = w) := l1In_yes hin
      clear hin
      by_cases hk0 : k = 0
      ·have dk : decide (0 < k) = false := decide_eq_false (by omega)
       have HLT : Hid (lastOf (fun x : EventD => x.id) 0 (p.events.take k) < x.id) := by show _ < _; rw [hk0, last_none]; have := inB_iff.1 HIN.out; omega
       clear hk0
       have HY : Hid (thingsB (fun x : EventD => x.id) eventB 0 (p.events.take (k + 1)) = true) := things_yes HA.out.1 HX.out HIN.out HLT.out (rfl)
       go_wp2_with fail
       go_quiet ((first
        | (go_at_call_of 78 (x.id); exact Calls.quiet_of_same (HCI.out _))))
       go_wp2
       go_roundw
       case rel => exact ⟨k + 1, by omega, by go_num, ⟨HY.out, below_drewN HA.out.2 _⟩⟩
       case measure => simp [intOf]; omega
      obtain ⟨j, rfl⟩ : ∃ j, k = j + 1 := ⟨k - 1, by omega⟩
      obtain ⟨y, hy⟩ : ∃ y, p.events[j]? = some y := ⟨_, List.getElem?_eq_getElem (by omega)⟩
      have cp : wr.cell? ⟨gs, j * 2, none⟩ = some (.int .i64 y.id) := HP.out y hy
      have j0 : (0 : Int) ≤ (j : Int) := by omega
      have j1 : (j : Int) < (p.events.length : Int) := by omega
      have wk : IntKind.i64.wrap (j : Int) = (j : Int) := by rw [IntKind.wrap_i64]; omega
      have HLA : Hid (lastOf (fun x : EventD => x.id) 0 (p.events.take (j + 1)) = y.id) := lastOf_take hy 0
      clear hy hk0
      by_cases hle : x.id ≤ y.id
      ·have dp : decide (x.id ≤ y.id) = true := decide_eq_true hle
       have HN : Hid (thingsOk p = false) := thingsOk_noEvent (things_no HX.out (fun hh => by have h9 := hh.2.1; rw [HLA.out] at h9; have h9 : y.id < x.id := h9; omega))
       go_wp2_with fail
       go_quiet ((first
        | (go_at_call_of 78 (x.id); exact Calls.quiet_of_same (HCI.out _))))
       go_wp2
       go_ret
       exact ⟨ret_bool HN.out.symm, below_drewN HB2.out.2.2 _⟩
      have dp : decide (x.id ≤ y.id) = false := decide_eq_false hle
      have HLT : Hid (lastOf (fun x : EventD => x.id) 0 (p.events.take (j + 1)) < x.id) := by show _ < _; rw [HLA.out]; show y.id < x.id; omega
      have HY : Hid (thingsB (fun x : EventD => x.id) eventB 0 (p.events.take ((j + 1) + 1)) = true) := things_yes HA.out.1 HX.out HIN.out HLT.out (rfl)
      go_wp2_with fail
      go_quiet ((first
       | (go_at_call_of 78 (x.id); exact Calls.quiet_of_same (HCI.out _))))
      go_wp2
      go_roundw
      case rel => exact ⟨(j + 1) + 1, by omega, by go_num, ⟨HY.out, below_drewN HA.out.2 _⟩⟩
      case measure => simp [intOf]; omega
    ·have i1 : ¬ (k : Int) < (p.events.length : Int) := by omega
     have HT1 : Hid (thingsB (fun x : EventD => x.id) eventB 0 p.events = true) := by have := HA.out.1; rwa [List.take_of_length_le (by omega)] at this
     clear HA HB hlt hk hsz hll
     go_wp2_with fail
     clear i1 m0 m1 m2 m3 m4 m5 m6 m7
     rename World => W1
     have HB : Hid (PartBox W1 w.heap.size p ∧ PartD.At W1 p ∧ Below w.heap.size w W1) := HB2.out
     clear HB2
     go_loopw [6] (fun i wr => ∃ k : Nat, k ≤ p.boards.length ∧ i = .int .i64 k ∧ Hid (thingsB (fun x : BoardD => x.id) boardB 0 (p.boards.take k) = true ∧ Below W1.heap.size W1 wr)) (fun i _ => p.boards.length - (intOf i).toNat)
     case atStart => exact ⟨0, Nat.zero_le _, rfl, ⟨rfl, Below.refl _ _⟩⟩
     case round =>
      obtain ⟨k, hk, rfl, HA⟩ := hrel
      have hsz : w.heap.size < wr.heap.size := Nat.lt_of_lt_of_le (Array.getElem?_eq_some_iff.1 HB.out.1).1 HA.out.2.size
      have HB2 : Hid (PartBox wr w.heap.size p ∧ PartD.At wr p ∧ Below w.heap.size w wr) := ⟨HB.out.1.below HA.out.2, HB.out.2.1.below HA.out.2, HB.out.2.2.trans (HA.out.2.mono HB.out.2.2.size)⟩
      obtain ⟨m0, m1, m2, m3, m4, m5, m6, m7⟩ := HB2.out.1.cells
      have hll := HFT.out.short.boards
      by_cases hlt : k < p.boards.length
      ·as_aux_lemma =>
        have i0 : (0 : Int) ≤ (k : Int) := by omega
        have i1 : (k : Int) < (p.boards.length : Int) := by omega
        obtain ⟨x, hx⟩ : ∃ x, p.boards[k]? = some x := ⟨_, List.getElem?_eq_getElem hlt⟩
        have hmem := List.mem_of_getElem? hx
        obtain ⟨gs, ha, hat⟩ := board_at HB2.out.2.1.2.2.2.1 hx
        have hgs : gs < wr.heap.size := block_lt_of_cell hat.1
        have HP : Hid (∀ y, p.boards[k - 1]? = some y → wr.cell? ⟨gs, (k - 1) * 3, none⟩ = some (.int .i64 y.id)) := fun y hy => by
         obtain ⟨g2, ha2, hat2⟩ := board_at HB2.out.2.1.2.2.2.1 hy
         rw [ha] at ha2
         cases ha2
         exact hat2.1
        obtain ⟨c0, c1, c2⟩ := hat
        rw [ha] at m5
        have HX : Hid (p.boards[k]? = some x) := hx
        have hts := HFT.out.boards x hmem
        clear hx ha hmem HB
        cases hin : inB x.id 1 1000
        ·have HCI : Hid (∀ w, Calls Tryz.prog 78 #[.int .i64 x.id, .int .i64 1, .int .i64 1000] w fun e w' => e = .returned (.bool false) ∧ w' = w) := l1In_no hin
         have HIN : Hid (inB x.id 1 1000 = false) := hin
         clear hin
         have HN : Hid (thingsOk p = false) := thingsOk_noBoard (things_no HX.out (fun hh => by rw [HIN.out] at hh; cases hh.1))
         go_wp2_with fail
         go_quiet ((first
          | (go_at_call_of 78 (x.id); exact Calls.quiet_of_same (HCI.out _))))
         go_wp2
         go_ret
         exact ⟨ret_bool HN.out.symm, below_drewN (HB2.out.2.2.alloc HB2.out.2.2.size _) _⟩
        have HIN : Hid (inB x.id 1 1000 = true) := hin
        have HCI : Hid (∀ w, Calls Tryz.prog 78 #[.int .i64 x.id, .int .i64 1, .int .i64 1000] w fun e w' => e = .returned (.bool true) ∧ w' = w) := l1In_yes hin
        clear hin
        by_cases hk0 : k = 0
        ·have dk : decide (0 < k) = false := decide_eq_false (by omega)
         have HLT : Hid (lastOf (fun x : BoardD => x.id) 0 (p.boards.take k) < x.id) := by show _ < _; rw [hk0, last_none]; have := inB_iff.1 HIN.out; omega
         clear hk0
         cases h5 : plainB x.text
         ·have HC5 : Hid (∀ w, Calls Tryz.prog 181 #[.string x.text] w fun e w' => e = .returned (.bool false) ∧ w' = w) := plain_is h5 hts
          have H5 : Hid (plainB x.text = false) := h5
          clear h5
          have HN : Hid (thingsOk p = false) := thingsOk_noBoard (things_no HX.out (fun hh => by have h9 := hh.2.2; simp [boardB, H5.out] at h9))
          go_wp2_with fail
          go_quiet ((first
           | (go_at_call_of 78 (x.id); exact Calls.quiet_of_same (HCI.out _))
           | (go_at_call_of 181 (x.text); exact Calls.quiet_of_same (HC5.out _))))
          go_wp2
          go_ret
          exact ⟨ret_bool HN.out.symm, below_drewN (HB2.out.2.2.alloc HB2.out.2.2.size _) _⟩
         have HC5 : Hid (∀ w, Calls Tryz.prog 181 #[.string x.text] w fun e w' => e = .returned (.bool true) ∧ w' = w) := plain_is h5 hts
         have H5 : Hid (plainB x.text = true) := h5
         clear h5
         cases h6 : x.shown
         ·rw [h6] at c1
          have H6 : Hid (x.shown = false) := h6
          clear h6
          cases h7 : x.text.toList.isEmpty
          ·have H7 : Hid (emptyB x.text = false) := h7
           have HN : Hid (thingsOk p = false) := thingsOk_noBoard (things_no HX.out (fun hh => by have h9 := hh.2.2; simp [boardB, H6.out, H7.out] at h9))
           go_wp2_with fail
           go_quiet ((first
            | (go_at_call_of 78 (x.id); exact Calls.quiet_of_same (HCI.out _))
            | (go_at_call_of 181 (x.text); exact Calls.quiet_of_same (HC5.out _))))
           go_wp2
           go_ret
           exact ⟨ret_bool HN.out.symm, below_drewN (HB2.out.2.2.alloc HB2.out.2.2.size _) _⟩
          have H7 : Hid (emptyB x.text = true) := h7
          have HY : Hid (thingsB (fun x : BoardD => x.id) boardB 0 (p.boards.take (k + 1)) = true) := things_yes HA.out.1 HX.out HIN.out HLT.out (by simp [boardB, H5.out, H6.out, H7.out])
          go_wp2_with fail
          go_quiet ((first
           | (go_at_call_of 78 (x.id); exact Calls.quiet_of_same (HCI.out _))
           | (go_at_call_of 181 (x.text); exact Calls.quiet_of_same (HC5.out _))))
          go_wp2
          go_roundw
          case rel => exact ⟨k + 1, by omega, by go_num, ⟨HY.out, below_drewN (HA.out.2.alloc HA.out.2.size _) _⟩⟩
          case measure => simp [intOf]; omega
         rw [h6] at c1
         have H6 : Hid (x.shown = true) := h6
         clear h6
         have HY : Hid (thingsB (fun x : BoardD => x.id) boardB 0 (p.boards.take (k + 1)) = true) := things_yes HA.out.1 HX.out HIN.out HLT.out (by simp [boardB, H5.out, H6.out])
         go_wp2_with fail
         go_quiet ((first
          | (go_at_call_of 78 (x.id); exact Calls.quiet_of_same (HCI.out _))
          | (go_at_call_of 181 (x.text); exact Calls.quiet_of_same (HC5.out _))))
         go_wp2
         go_roundw
         case rel => exact ⟨k + 1, by omega, by go_num, ⟨HY.out, below_drewN (HA.out.2.alloc HA.out.2.size _) _⟩⟩
         case measure => simp [intOf]; omega
        obtain ⟨j, rfl⟩ : ∃ j, k = j + 1 := ⟨k - 1, by omega⟩
        obtain ⟨y, hy⟩ : ∃ y, p.boards[j]? = some y := ⟨_, List.getElem?_eq_getElem (by omega)⟩
        have cp : wr.cell? ⟨gs, j * 3, none⟩ = some (.int .i64 y.id) := HP.out y hy
        have j0 : (0 : Int) ≤ (j : Int) := by omega
        have j1 : (j : Int) < (p.boards.length : Int) := by omega
        have wk : IntKind.i64.wrap (j : Int) = (j : Int) := by rw [IntKind.wrap_i64]; omega
        have HLA : Hid (lastOf (fun x : BoardD => x.id) 0 (p.boards.take (j + 1)) = y.id) := lastOf_take hy 0
        clear hy hk0
        by_cases hle : x.id ≤ y.id
        ·have dp : decide (x.id ≤ y.id) = true := decide_eq_true hle
         have HN : Hid (thingsOk p = false) := thingsOk_noBoard (things_no HX.out (fun hh => by have h9 := hh.2.1; rw [HLA.out] at h9; have h9 : y.id < x.id := h9; omega))
         go_wp2_with fail
         go_quiet ((first
          | (go_at_call_of 78 (x.id); exact Calls.quiet_of_same (HCI.out _))))
         go_wp2
         go_ret
         exact ⟨ret_bool HN.out.symm, below_drewN (HB2.out.2.2.alloc HB2.out.2.2.size _) _⟩
        have dp : decide (x.id ≤ y.id) = false := decide_eq_false hle
        have HLT : Hid (lastOf (fun x : BoardD => x.id) 0 (p.boards.take (j + 1)) < x.id) := by show _ < _; rw [HLA.out]; show y.id < x.id; omega
        cases h5 : plainB x.text
        ·have HC5 : Hid (∀ w, Calls Tryz.prog 181 #[.string x.text] w fun e w' => e = .returned (.bool false) ∧ w' = w) := plain_is h5 hts
         have H5 : Hid (plainB x.text = false) := h5
         clear h5
         have HN : Hid (thingsOk p = false) := thingsOk_noBoard (things_no HX.out (fun hh => by have h9 := hh.2.2; simp [boardB, H5.out] at h9))
         go_wp2_with fail
         go_quiet ((first
          | (go_at_call_of 78 (x.id); exact Calls.quiet_of_same (HCI.out _))
          | (go_at_call_of 181 (x.text); exact Calls.quiet_of_same (HC5.out _))))
         go_wp2
         go_ret
         exact ⟨ret_bool HN.out.symm, below_drewN (HB2.out.2.2.alloc HB2.out.2.2.size _) _⟩
        have HC5 : Hid (∀ w, Calls Tryz.prog 181 #[.string x.text] w fun e w' => e = .returned (.bool true) ∧ w' = w) := plain_is h5 hts
        have H5 : Hid (plainB x.text = true) := h5
        clear h5
        cases h6 : x.shown
        ·rw [h6] at c1
         have H6 : Hid (x.shown = false) := h6
         clear h6
         cases h7 : x.text.toList.isEmpty
         ·have H7 : Hid (emptyB x.text = false) := h7
          have HN : Hid (thingsOk p = false) := thingsOk_noBoard (things_no HX.out (fun hh => by have h9 := hh.2.2; simp [boardB, H6.out, H7.out] at h9))
          go_wp2_with fail
          go_quiet ((first
           | (go_at_call_of 78 (x.id); exact Calls.quiet_of_same (HCI.out _))
           | (go_at_call_of 181 (x.text); exact Calls.quiet_of_same (HC5.out _))))
          go_wp2
          go_ret
          exact ⟨ret_bool HN.out.symm, below_drewN (HB2.out.2.2.alloc HB2.out.2.2.size _) _⟩
         have H7 : Hid (emptyB x.text = true) := h7
         have HY : Hid (thingsB (fun x : BoardD => x.id) boardB 0 (p.boards.take ((j + 1) + 1)) = true) := things_yes HA.out.1 HX.out HIN.out HLT.out (by simp [boardB, H5.out, H6.out, H7.out])
         go_wp2_with fail
         go_quiet ((first
          | (go_at_call_of 78 (x.id); exact Calls.quiet_of_same (HCI.out _))
          | (go_at_call_of 181 (x.text); exact Calls.quiet_of_same (HC5.out _))))
         go_wp2
         go_roundw
         case rel => exact ⟨(j + 1) + 1, by omega, by go_num, ⟨HY.out, below_drewN (HA.out.2.alloc HA.out.2.size _) _⟩⟩
         case measure => simp [intOf]; omega
        rw [h6] at c1
        have H6 : Hid (x.shown = true) := h6
        clear h6
        have HY : Hid (thingsB (fun x : BoardD => x.id) boardB 0 (p.boards.take ((j + 1) + 1)) = true) := things_yes HA.out.1 HX.out HIN.out HLT.out (by simp [boardB, H5.out, H6.out])
        go_wp2_with fail
        go_quiet ((first
         | (go_at_call_of 78 (x.id); exact Calls.quiet_of_same (HCI.out _))
         | (go_at_call_of 181 (x.text); exact Calls.quiet_of_same (HC5.out _))))
        go_wp2
        go_roundw
        case rel => exact ⟨(j + 1) + 1, by omega, by go_num, ⟨HY.out, below_drewN (HA.out.2.alloc HA.out.2.size _) _⟩⟩
        case measure => simp [intOf]; omega
      ·have i1 : ¬ (k : Int) < (p.boards.length : Int) := by omega
       have HT2 : Hid (thingsB (fun x : BoardD => x.id) boardB 0 p.boards = true) := by have := HA.out.1; rwa [List.take_of_length_le (by omega)] at this
       clear HA HB hlt hk hsz hll
       go_wp2_with fail
       clear i1 m0 m1 m2 m3 m4 m5 m6 m7
       rename World => W2
       have HB : Hid (PartBox W2 w.heap.size p ∧ PartD.At W2 p ∧ Below w.heap.size w W2) := HB2.out
       clear HB2
       go_loopw [8] (fun i wr => ∃ k : Nat, k ≤ p.buffers.length ∧ i = .int .i64 k ∧ Hid (thingsB (fun x : BufferD => x.id) (fun x : BufferD => bufferB x.toBufferP) 0 (p.buffers.take k) = true ∧ Below W2.heap.size W2 wr)) (fun i _ => p.buffers.length - (intOf i).toNat)
       case atStart => exact ⟨0, Nat.zero_le _, rfl, ⟨rfl, Below.refl _ _⟩⟩
       case round =>
        obtain ⟨k, hk, rfl, HA⟩ := hrel
        have hsz : w.heap.size < wr.heap.size := Nat.lt_of_lt_of_le (Array.getElem?_eq_some_iff.1 HB.out.1).1 HA.out.2.size
        have HB2 : Hid (PartBox wr w.heap.size p ∧ PartD.At wr p ∧ Below w.heap.size w wr) := ⟨HB.out.1.below HA.out.2, HB.out.2.1.below HA.out.2, HB.out.2.2.trans (HA.out.2.mono HB.out.2.2.size)⟩
        obtain ⟨m0, m1, m2, m3, m4, m5, m6, m7⟩ := HB2.out.1.cells
        have hll := HFT.out.short.buffers
        by_cases hlt : k < p.buffers.length
        ·as_aux_lemma =>
          have i0 : (0 : Int) ≤ (k : Int) := by omega
          have i1 : (k : Int) < (p.buffers.length : Int) := by omega
          obtain ⟨x, hx⟩ : ∃ x, p.buffers[k]? = some x := ⟨_, List.getElem?_eq_getElem hlt⟩
          have hmem := List.mem_of_getElem? hx
          obtain ⟨gs, ha, hat⟩ := buffer_at HB2.out.2.1.2.2.2.2.1 hx
          have hgs : gs < wr.heap.size := block_lt_of_cell hat.1
          have HP : Hid (∀ y, p.buffers[k - 1]? = some y → wr.cell? ⟨gs, (k - 1) * 3, none⟩ = some (.int .i64 y.id)) := fun y hy => by
           obtain ⟨g2, ha2, hat2⟩ := buffer_at HB2.out.2.1.2.2.2.2.1 hy
           rw [ha] at ha2
           cases ha2
           exact hat2.1
          obtain ⟨c0, c1, c2⟩ := hat
          rw [ha] at m6
          have HX : Hid (p.buffers[k]? = some x) := hx
          have HTX : Hid (TextsFit wr x.itemsA x.items) := ⟨(HFT.out.buffers x hmem).1, (HFT.out.buffers x hmem).2, buffer_items HB2.out.2.1.2.2.2.2.1 hx⟩
          clear hx ha hmem HB
          cases hin : inB x.id 1 1000
          ·have HCI : Hid (∀ w, Calls Tryz.prog 78 #[.int .i64 x.id, .int .i64 1, .int .i64 1000] w fun e w' => e = .returned (.bool false) ∧ w' = w) := l1In_no hin
           have HIN : Hid (inB x.id 1 1000 = false) := hin
           clear hin
           have HN : Hid (thingsOk p = false) := thingsOk_noBuffer (things_no HX.out (fun hh => by rw [HIN.out] at hh; cases hh.1))
           go_wp2_with fail
           go_quiet ((first
            | (go_at_call_of 78 (x.id); exact Calls.quiet_of_same (HCI.out _))))
           go_wp2
           go_ret
           exact ⟨ret_bool HN.out.symm, below_drewN (HB2.out.2.2.alloc HB2.out.2.2.size _) _⟩
          have HIN : Hid (inB x.id 1 1000 = true) := hin
          have HCI : Hid (∀ w, Calls Tryz.prog 78 #[.int .i64 x.id, .int .i64 1, .int .i64 1000] w fun e w' => e = .returned (.bool true) ∧ w' = w) := l1In_yes hin
          clear hin
          by_cases hk0 : k = 0
          ·have dk : decide (0 < k) = false := decide_eq_false (by omega)
           have HLT : Hid (lastOf (fun x : BufferD => x.id) 0 (p.buffers.take k) < x.id) := by show _ < _; rw [hk0, last_none]; have := inB_iff.1 HIN.out; omega
           clear hk0
           cases h5 : inB x.max 1 5
           ·have HC5 : Hid (∀ w, Calls Tryz.prog 78 #[.int .i64 x.max, .int .i64 1, .int .i64 5] w fun e w' => e = .returned (.bool false) ∧ w' = w) := l1In_no h5
            have H5 : Hid (inB x.max 1 5 = false) := h5
            clear h5
            have HN : Hid (thingsOk p = false) := thingsOk_noBuffer (things_no HX.out (fun hh => by have h9 := hh.2.2; simp [bufferB, H5.out] at h9))
            go_wp2_with fail
            go_quiet ((first
             | (go_at_call_of 78 (x.id); exact Calls.quiet_of_same (HCI.out _))
             | (go_at_call_of 78 (x.max); exact Calls.quiet_of_same (HC5.out _))))
            go_wp2
            go_ret
            exact ⟨ret_bool HN.out.symm, below_drewN (HB2.out.2.2.alloc HB2.out.2.2.size _) _⟩
           have HC5 : Hid (∀ w, Calls Tryz.prog 78 #[.int .i64 x.max, .int .i64 1, .int .i64 5] w fun e w' => e = .returned (.bool true) ∧ w' = w) := l1In_yes h5
           have H5 : Hid (inB x.max 1 5 = true) := h5
           clear h5
           cases h7 : textsB x.items x.max
           ·have HCT : Hid (∀ o n, Calls Tryz.prog 182 #[.slice x.itemsA x.items.length x.itemsC, .int .i64 x.max] ((wr.alloc o).drewN n) fun e w' => e = .returned (.bool false) ∧ w' = (wr.alloc o).drewN n) := fun _ n => texts_is h7 HTX.out n
            have H7 : Hid (textsB x.items x.max = false) := h7
            clear h7
            have HN : Hid (thingsOk p = false) := thingsOk_noBuffer (things_no HX.out (fun hh => by have h9 := hh.2.2; simp [bufferB, H7.out] at h9))
            go_wp2_with fail
            go_quiet ((first
             | (go_at_call_of 182 (x.items.length); exact Calls.quiet_of_same (HCT.out _ _))
             | (go_at_call_of 78 (x.id); exact Calls.quiet_of_same (HCI.out _))
             | (go_at_call_of 78 (x.max); exact Calls.quiet_of_same (HC5.out _))))
            go_wp2
            go_ret
            exact ⟨ret_bool HN.out.symm, below_drewN (HB2.out.2.2.alloc HB2.out.2.2.size _) _⟩
           have HCT : Hid (∀ o n, Calls Tryz.prog 182 #[.slice x.itemsA x.items.length x.itemsC, .int .i64 x.max] ((wr.alloc o).drewN n) fun e w' => e = .returned (.bool true) ∧ w' = (wr.alloc o).drewN n) := fun _ n => texts_is h7 HTX.out n
           have H7 : Hid (textsB x.items x.max = true) := h7
           clear h7
           have HY : Hid (thingsB (fun x : BufferD => x.id) (fun x : BufferD => bufferB x.toBufferP) 0 (p.buffers.take (k + 1)) = true) := things_yes HA.out.1 HX.out HIN.out HLT.out (by simp [bufferB, H5.out, H7.out])
           go_wp2_with fail
           go_quiet ((first
            | (go_at_call_of 182 (x.items.length); exact Calls.quiet_of_same (HCT.out _ _))
            | (go_at_call_of 78 (x.id); exact Calls.quiet_of_same (HCI.out _))
            | (go_at_call_of 78 (x.max); exact Calls.quiet_of_same (HC5.out _))))
           go_wp2
           go_roundw
           case rel => exact ⟨k + 1, by omega, by go_num, ⟨HY.out, below_drewN (HA.out.2.alloc HA.out.2.size _) _⟩⟩
           case measure => simp [intOf]; omega
          obtain ⟨j, rfl⟩ : ∃ j, k = j + 1 := ⟨k - 1, by omega⟩
          obtain ⟨y, hy⟩ : ∃ y, p.buffers[j]? = some y := ⟨_, List.getElem?_eq_getElem (by omega)⟩
          have cp : wr.cell? ⟨gs, j * 3, none⟩ = some (.int .i64 y.id) := HP.out y hy
          have j0 : (0 : Int) ≤ (j : Int) := by omega
          have j1 : (j : Int) < (p.buffers.length : Int) := by omega
          have wk : IntKind.i64.wrap (j : Int) = (j : Int) := by rw [IntKind.wrap_i64]; omega
          have HLA : Hid (lastOf (fun x : BufferD => x.id) 0 (p.buffers.take (j + 1)) = y.id) := lastOf_take hy 0
          clear hy hk0
          by_cases hle : x.id ≤ y.id
          ·have dp : decide (x.id ≤ y.id) = true := decide_eq_true hle
           have HN : Hid (thingsOk p = false) := thingsOk_noBuffer (things_no HX.out (fun hh => by have h9 := hh.2.1; rw [HLA.out] at h9; have h9 : y.id < x.id := h9; omega))
           go_wp2_with fail
           go_quiet ((first
            | (go_at_call_of 78 (x.id); exact Calls.quiet_of_same (HCI.out _))))
           go_wp2
           go_ret
           exact ⟨ret_bool HN.out.symm, below_drewN (HB2.out.2.2.alloc HB2.out.2.2.size _) _⟩
          have dp : decide (x.id ≤ y.id) = false := decide_eq_false hle
          have HLT : Hid (lastOf (fun x : BufferD => x.id) 0 (p.buffers.take (j + 1)) < x.id) := by show _ < _; rw [HLA.out]; show y.id < x.id; omega
          cases h5 : inB x.max 1 5
          ·have HC5 : Hid (∀ w, Calls Tryz.prog 78 #[.int .i64 x.max, .int .i64 1, .int .i64 5] w fun e w' => e = .returned (.bool false) ∧ w' = w) := l1In_no h5
           have H5 : Hid (inB x.max 1 5 = false) := h5
           clear h5
           have HN : Hid (thingsOk p = false) := thingsOk_noBuffer (things_no HX.out (fun hh => by have h9 := hh.2.2; simp [bufferB, H5.out] at h9))
           go_wp2_with fail
           go_quiet ((first
            | (go_at_call_of 78 (x.id); exact Calls.quiet_of_same (HCI.out _))
            | (go_at_call_of 78 (x.max); exact Calls.quiet_of_same (HC5.out _))))
           go_wp2
           go_ret
           exact ⟨ret_bool HN.out.symm, below_drewN (HB2.out.2.2.alloc HB2.out.2.2.size _) _⟩
          have HC5 : Hid (∀ w, Calls Tryz.prog 78 #[.int .i64 x.max, .int .i64 1, .int .i64 5] w fun e w' => e = .returned (.bool true) ∧ w' = w) := l1In_yes h5
          have H5 : Hid (inB x.max 1 5 = true) := h5
          clear h5
          cases h7 : textsB x.items x.max
          ·have HCT : Hid (∀ o n, Calls Tryz.prog 182 #[.slice x.itemsA x.items.length x.itemsC, .int .i64 x.max] ((wr.alloc o).drewN n) fun e w' => e = .returned (.bool false) ∧ w' = (wr.alloc o).drewN n) := fun _ n => texts_is h7 HTX.out n
           have H7 : Hid (textsB x.items x.max = false) := h7
           clear h7
           have HN : Hid (thingsOk p = false) := thingsOk_noBuffer (things_no HX.out (fun hh => by have h9 := hh.2.2; simp [bufferB, H7.out] at h9))
           go_wp2_with fail
           go_quiet ((first
            | (go_at_call_of 182 (x.items.length); exact Calls.quiet_of_same (HCT.out _ _))
            | (go_at_call_of 78 (x.id); exact Calls.quiet_of_same (HCI.out _))
            | (go_at_call_of 78 (x.max); exact Calls.quiet_of_same (HC5.out _))))
           go_wp2
           go_ret
           exact ⟨ret_bool HN.out.symm, below_drewN (HB2.out.2.2.alloc HB2.out.2.2.size _) _⟩
          have HCT : Hid (∀ o n, Calls Tryz.prog 182 #[.slice x.itemsA x.items.length x.itemsC, .int .i64 x.max] ((wr.alloc o).drewN n) fun e w' => e = .returned (.bool true) ∧ w' = (wr.alloc o).drewN n) := fun _ n => texts_is h7 HTX.out n
          have H7 : Hid (textsB x.items x.max = true) := h7
          clear h7
          have HY : Hid (thingsB (fun x : BufferD => x.id) (fun x : BufferD => bufferB x.toBufferP) 0 (p.buffers.take ((j + 1) + 1)) = true) := things_yes HA.out.1 HX.out HIN.out HLT.out (by simp [bufferB, H5.out, H7.out])
          go_wp2_with fail
          go_quiet ((first
           | (go_at_call_of 182 (x.items.length); exact Calls.quiet_of_same (HCT.out _ _))
           | (go_at_call_of 78 (x.id); exact Calls.quiet_of_same (HCI.out _))
           | (go_at_call_of 78 (x.max); exact Calls.quiet_of_same (HC5.out _))))
          go_wp2
          go_roundw
          case rel => exact ⟨(j + 1) + 1, by omega, by go_num, ⟨HY.out, below_drewN (HA.out.2.alloc HA.out.2.size _) _⟩⟩
          case measure => simp [intOf]; omega
        ·have i1 : ¬ (k : Int) < (p.buffers.length : Int) := by omega
         have HT3 : Hid (thingsB (fun x : BufferD => x.id) (fun x => bufferB x.toBufferP) 0 p.buffers = true) := by have := HA.out.1; rwa [List.take_of_length_le (by omega)] at this
         clear HA HB hlt hk hsz hll
         go_wp2_with fail
         clear i1 m0 m1 m2 m3 m4 m5 m6 m7
         rename World => W3
         have HB : Hid (PartBox W3 w.heap.size p ∧ PartD.At W3 p ∧ Below w.heap.size w W3) := HB2.out
         clear HB2
         go_loopw [10] (fun i wr => ∃ k : Nat, k ≤ p.ports.length ∧ i = .int .i64 k ∧ Hid (thingsB (fun x : PortD => x.id) (fun x : PortD => portB x.toPortP) 0 (p.ports.take k) = true ∧ Below W3.heap.size W3 wr)) (fun i _ => p.ports.length - (intOf i).toNat)
         case atStart => exact ⟨0, Nat.zero_le _, rfl, ⟨rfl, Below.refl _ _⟩⟩
         case round =>
          obtain ⟨k, hk, rfl, HA⟩ := hrel
          have hsz : w.heap.size < wr.heap.size := Nat.lt_of_lt_of_le (Array.getElem?_eq_some_iff.1 HB.out.1).1 HA.out.2.size
          have HB2 : Hid (PartBox wr w.heap.size p ∧ PartD.At wr p ∧ Below w.heap.size w wr) := ⟨HB.out.1.below HA.out.2, HB.out.2.1.below HA.out.2, HB.out.2.2.trans (HA.out.2.mono HB.out.2.2.size)⟩
          obtain ⟨m0, m1, m2, m3, m4, m5, m6, m7⟩ := HB2.out.1.cells
          have hll := HFT.out.short.ports
          by_cases hlt : k < p.ports.length
          ·as_aux_lemma =>
            have i0 : (0 : Int) ≤ (k : Int) := by omega
            have i1 : (k : Int) < (p.ports.length : Int) := by omega
            obtain ⟨x, hx⟩ : ∃ x, p.ports[k]? = some x := ⟨_, List.getElem?_eq_getElem hlt⟩
            have hmem := List.mem_of_getElem? hx
            obtain ⟨gs, ha, hat⟩ := port_at HB2.out.2.1.2.2.2.2.2 hx
            have hgs : gs < wr.heap.size := block_lt_of_cell hat.1
            have HP : Hid (∀ y, p.ports[k - 1]? = some y → wr.cell? ⟨gs, (k - 1) * 5, none⟩ = some (.int .i64 y.id)) := fun y hy => by
             obtain ⟨g2, ha2, hat2⟩ := port_at HB2.out.2.1.2.2.2.2.2 hy
             rw [ha] at ha2
             cases ha2
             exact hat2.1
            obtain ⟨c0, c1, c2, c3, c4⟩ := hat
            rw [ha] at m7
            have HX : Hid (p.ports[k]? = some x) := hx
            have HTX : Hid (TextsFit wr x.itemsA x.items) := ⟨(HFT.out.ports x hmem).1, (HFT.out.ports x hmem).2, port_items HB2.out.2.1.2.2.2.2.2 hx⟩
            clear hx ha hmem HB
            cases hin : inB x.id 1 1000
            ·have HCI : Hid (∀ w, Calls Tryz.prog 78 #[.int .i64 x.id, .int .i64 1, .int .i64 1000] w fun e w' => e = .returned (.bool false) ∧ w' = w) := l1In_no hin
             have HIN : Hid (inB x.id 1 1000 = false) := hin
             clear hin
             have HN : Hid (thingsOk p = false) := thingsOk_noPort (things_no HX.out (fun hh => by rw [HIN.out] at hh; cases hh.1))
             go_wp2_with fail
             go_quiet ((first
              | (go_at_call_of 78 (x.id); exact Calls.quiet_of_same (HCI.out _))))
             go_wp2
             go_ret
             exact ⟨ret_bool HN.out.symm, below_drewN (HB2.out.2.2.alloc HB2.out.2.2.size _) _⟩
            have HIN : Hid (inB x.id 1 1000 = true) := hin
            have HCI : Hid (∀ w, Calls Tryz.prog 78 #[.int .i64 x.id, .int .i64 1, .int .i64 1000] w fun e w' => e = .returned (.bool true) ∧ w' = w) := l1In_yes hin
            clear hin
            by_cases hk0 : k = 0
            ·have dk : decide (0 < k) = false := decide_eq_false (by omega)
             have HLT : Hid (lastOf (fun x : PortD => x.id) 0 (p.ports.take k) < x.id) := by show _ < _; rw [hk0, last_none]; have := inB_iff.1 HIN.out; omega
             clear hk0
             cases h5 : inB x.max 1 5
             ·have HC5 : Hid (∀ w, Calls Tryz.prog 78 #[.int .i64 x.max, .int .i64 1, .int .i64 5] w fun e w' => e = .returned (.bool false) ∧ w' = w) := l1In_no h5
              have H5 : Hid (inB x.max 1 5 = false) := h5
              clear h5
              have HN : Hid (thingsOk p = false) := thingsOk_noPort (things_no HX.out (fun hh => by have h9 := hh.2.2; simp [portB, H5.out] at h9))
              go_wp2_with fail
              go_quiet ((first
               | (go_at_call_of 78 (x.id); exact Calls.quiet_of_same (HCI.out _))
               | (go_at_call_of 78 (x.max); exact Calls.quiet_of_same (HC5.out _))))
              go_wp2
              go_ret
              exact ⟨ret_bool HN.out.symm, below_drewN (HB2.out.2.2.alloc HB2.out.2.2.size _) _⟩
             have HC5 : Hid (∀ w, Calls Tryz.prog 78 #[.int .i64 x.max, .int .i64 1, .int .i64 5] w fun e w' => e = .returned (.bool true) ∧ w' = w) := l1In_yes h5
             have H5 : Hid (inB x.max 1 5 = true) := h5
             clear h5
             cases h6 : x.queue
             ·rw [h6] at c2
              have H6 : Hid (x.queue = false) := h6
              clear h6
              by_cases h8 : x.max = 1
              ·have H8 : Hid (x.max = 1) := h8
               have n8 : (x.max != 1) = false := by simp [h8]
               clear h8
               cases h7 : textsB x.items x.max
               ·have HCT : Hid (∀ o n, Calls Tryz.prog 182 #[.slice x.itemsA x.items.length x.itemsC, .int .i64 x.max] ((wr.alloc o).drewN n) fun e w' => e = .returned (.bool false) ∧ w' = (wr.alloc o).drewN n) := fun _ n => texts_is h7 HTX.out n
                have H7 : Hid (textsB x.items x.max = false) := h7
                clear h7
                have HN : Hid (thingsOk p = false) := thingsOk_noPort (things_no HX.out (fun hh => by have h9 := hh.2.2; simp [portB, H7.out] at h9))
                go_wp2_with fail
                go_quiet ((first
                 | (go_at_call_of 182 (x.items.length); exact Calls.quiet_of_same (HCT.out _ _))
                 | (go_at_call_of 78 (x.id); exact Calls.quiet_of_same (HCI.out _))
                 | (go_at_call_of 78 (x.max); exact Calls.quiet_of_same (HC5.out _))))
                go_wp2
                go_ret
                exact ⟨ret_bool HN.out.symm, below_drewN (HB2.out.2.2.alloc HB2.out.2.2.size _) _⟩
               have HCT : Hid (∀ o n, Calls Tryz.prog 182 #[.slice x.itemsA x.items.length x.itemsC, .int .i64 x.max] ((wr.alloc o).drewN n) fun e w' => e = .returned (.bool true) ∧ w' = (wr.alloc o).drewN n) := fun _ n => texts_is h7 HTX.out n
               have H7 : Hid (textsB x.items x.max = true) := h7
               clear h7
               have HY : Hid (thingsB (fun x : PortD => x.id) (fun x : PortD => portB x.toPortP) 0 (p.ports.take (k + 1)) = true) := things_yes HA.out.1 HX.out HIN.out HLT.out (by simp only [portB, H5.out, H7.out, H6.out]; simp [H8.out])
               go_wp2_with fail
               go_quiet ((first
                | (go_at_call_of 182 (x.items.length); exact Calls.quiet_of_same (HCT.out _ _))
                | (go_at_call_of 78 (x.id); exact Calls.quiet_of_same (HCI.out _))
                | (go_at_call_of 78 (x.max); exact Calls.quiet_of_same (HC5.out _))))
               go_wp2
               go_roundw
               case rel => exact ⟨k + 1, by omega, by go_num, ⟨HY.out, below_drewN (HA.out.2.alloc HA.out.2.size _) _⟩⟩
               case measure => simp [intOf]; omega
              have H8 : Hid (¬ x.max = 1) := h8
              have n8 : (x.max != 1) = true := by simp [h8]
              clear h8
              have HN : Hid (thingsOk p = false) := thingsOk_noPort (things_no HX.out (fun hh => by have h9 := hh.2.2; simp [portB, H6.out, H8.out] at h9))
              go_wp2_with fail
              go_quiet ((first
               | (go_at_call_of 78 (x.id); exact Calls.quiet_of_same (HCI.out _))
               | (go_at_call_of 78 (x.max); exact Calls.quiet_of_same (HC5.out _))))
              go_wp2
              go_ret
              exact ⟨ret_bool HN.out.symm, below_drewN (HB2.out.2.2.alloc HB2.out.2.2.size _) _⟩
             rw [h6] at c2
             have H6 : Hid (x.queue = true) := h6
             clear h6
             cases h7 : textsB x.items x.max
             ·have HCT : Hid (∀ o n, Calls Tryz.prog 182 #[.slice x.itemsA x.items.length x.itemsC, .int .i64 x.max] ((wr.alloc o).drewN n) fun e w' => e = .returned (.bool false) ∧ w' = (wr.alloc o).drewN n) := fun _ n => texts_is h7 HTX.out n
              have H7 : Hid (textsB x.items x.max = false) := h7
              clear h7
              have HN : Hid (thingsOk p = false) := thingsOk_noPort (things_no HX.out (fun hh => by have h9 := hh.2.2; simp [portB, H7.out] at h9))
              go_wp2_with fail
              go_quiet ((first
               | (go_at_call_of 182 (x.items.length); exact Calls.quiet_of_same (HCT.out _ _))
               | (go_at_call_of 78 (x.id); exact Calls.quiet_of_same (HCI.out _))
               | (go_at_call_of 78 (x.max); exact Calls.quiet_of_same (HC5.out _))))
              go_wp2
              go_ret
              exact ⟨ret_bool HN.out.symm, below_drewN (HB2.out.2.2.alloc HB2.out.2.2.size _) _⟩
             have HCT : Hid (∀ o n, Calls Tryz.prog 182 #[.slice x.itemsA x.items.length x.itemsC, .int .i64 x.max] ((wr.alloc o).drewN n) fun e w' => e = .returned (.bool true) ∧ w' = (wr.alloc o).drewN n) := fun _ n => texts_is h7 HTX.out n
             have H7 : Hid (textsB x.items x.max = true) := h7
             clear h7
             have HY : Hid (thingsB (fun x : PortD => x.id) (fun x : PortD => portB x.toPortP) 0 (p.ports.take (k + 1)) = true) := things_yes HA.out.1 HX.out HIN.out HLT.out (by simp [portB, H5.out, H7.out, H6.out])
             go_wp2_with fail
             go_quiet ((first
              | (go_at_call_of 182 (x.items.length); exact Calls.quiet_of_same (HCT.out _ _))
              | (go_at_call_of 78 (x.id); exact Calls.quiet_of_same (HCI.out _))
              | (go_at_call_of 78 (x.max); exact Calls.quiet_of_same (HC5.out _))))
             go_wp2
             go_roundw
             case rel => exact ⟨k + 1, by omega, by go_num, ⟨HY.out, below_drewN (HA.out.2.alloc HA.out.2.size _) _⟩⟩
             case measure => simp [intOf]; omega
            obtain ⟨j, rfl⟩ : ∃ j, k = j + 1 := ⟨k - 1, by omega⟩
            obtain ⟨y, hy⟩ : ∃ y, p.ports[j]? = some y := ⟨_, List.getElem?_eq_getElem (by omega)⟩
            have cp : wr.cell? ⟨gs, j * 5, none⟩ = some (.int .i64 y.id) := HP.out y hy
            have j0 : (0 : Int) ≤ (j : Int) := by omega
            have j1 : (j : Int) < (p.ports.length : Int) := by omega
            have wk : IntKind.i64.wrap (j : Int) = (j : Int) := by rw [IntKind.wrap_i64]; omega
            have HLA : Hid (lastOf (fun x : PortD => x.id) 0 (p.ports.take (j + 1)) = y.id) := lastOf_take hy 0
            clear hy hk0
            by_cases hle : x.id ≤ y.id
            ·have dp : decide (x.id ≤ y.id) = true := decide_eq_true hle
             have HN : Hid (thingsOk p = false) := thingsOk_noPort (things_no HX.out (fun hh => by have h9 := hh.2.1; rw [HLA.out] at h9; have h9 : y.id < x.id := h9; omega))
             go_wp2_with fail
             go_quiet ((first
              | (go_at_call_of 78 (x.id); exact Calls.quiet_of_same (HCI.out _))))
             go_wp2
             go_ret
             exact ⟨ret_bool HN.out.symm, below_drewN (HB2.out.2.2.alloc HB2.out.2.2.size _) _⟩
            have dp : decide (x.id ≤ y.id) = false := decide_eq_false hle
            have HLT : Hid (lastOf (fun x : PortD => x.id) 0 (p.ports.take (j + 1)) < x.id) := by show _ < _; rw [HLA.out]; show y.id < x.id; omega
            cases h5 : inB x.max 1 5
            ·have HC5 : Hid (∀ w, Calls Tryz.prog 78 #[.int .i64 x.max, .int .i64 1, .int .i64 5] w fun e w' => e = .returned (.bool false) ∧ w' = w) := l1In_no h5
             have H5 : Hid (inB x.max 1 5 = false) := h5
             clear h5
             have HN : Hid (thingsOk p = false) := thingsOk_noPort (things_no HX.out (fun hh => by have h9 := hh.2.2; simp [portB, H5.out] at h9))
             go_wp2_with fail
             go_quiet ((first
              | (go_at_call_of 78 (x.id); exact Calls.quiet_of_same (HCI.out _))
              | (go_at_call_of 78 (x.max); exact Calls.quiet_of_same (HC5.out _))))
             go_wp2
             go_ret
             exact ⟨ret_bool HN.out.symm, below_drewN (HB2.out.2.2.alloc HB2.out.2.2.size _) _⟩
            have HC5 : Hid (∀ w, Calls Tryz.prog 78 #[.int .i64 x.max, .int .i64 1, .int .i64 5] w fun e w' => e = .returned (.bool true) ∧ w' = w) := l1In_yes h5
            have H5 : Hid (inB x.max 1 5 = true) := h5
            clear h5
            cases h6 : x.queue
            ·rw [h6] at c2
             have H6 : Hid (x.queue = false) := h6
             clear h6
             by_cases h8 : x.max = 1
             ·have H8 : Hid (x.max = 1) := h8
              have n8 : (x.max != 1) = false := by simp [h8]
              clear h8
              cases h7 : textsB x.items x.max
              ·have HCT : Hid (∀ o n, Calls Tryz.prog 182 #[.slice x.itemsA x.items.length x.itemsC, .int .i64 x.max] ((wr.alloc o).drewN n) fun e w' => e = .returned (.bool false) ∧ w' = (wr.alloc o).drewN n) := fun _ n => texts_is h7 HTX.out n
               have H7 : Hid (textsB x.items x.max = false) := h7
               clear h7
               have HN : Hid (thingsOk p = false) := thingsOk_noPort (things_no HX.out (fun hh => by have h9 := hh.2.2; simp [portB, H7.out] at h9))
               go_wp2_with fail
               go_quiet ((first
                | (go_at_call_of 182 (x.items.length); exact Calls.quiet_of_same (HCT.out _ _))
                | (go_at_call_of 78 (x.id); exact Calls.quiet_of_same (HCI.out _))
                | (go_at_call_of 78 (x.max); exact Calls.quiet_of_same (HC5.out _))))
               go_wp2
               go_ret
               exact ⟨ret_bool HN.out.symm, below_drewN (HB2.out.2.2.alloc HB2.out.2.2.size _) _⟩
              have HCT : Hid (∀ o n, Calls Tryz.prog 182 #[.slice x.itemsA x.items.length x.itemsC, .int .i64 x.max] ((wr.alloc o).drewN n) fun e w' => e = .returned (.bool true) ∧ w' = (wr.alloc o).drewN n) := fun _ n => texts_is h7 HTX.out n
              have H7 : Hid (textsB x.items x.max = true) := h7
              clear h7
              have HY : Hid (thingsB (fun x : PortD => x.id) (fun x : PortD => portB x.toPortP) 0 (p.ports.take ((j + 1) + 1)) = true) := things_yes HA.out.1 HX.out HIN.out HLT.out (by simp only [portB, H5.out, H7.out, H6.out]; simp [H8.out])
              go_wp2_with fail
              go_quiet ((first
               | (go_at_call_of 182 (x.items.length); exact Calls.quiet_of_same (HCT.out _ _))
               | (go_at_call_of 78 (x.id); exact Calls.quiet_of_same (HCI.out _))
               | (go_at_call_of 78 (x.max); exact Calls.quiet_of_same (HC5.out _))))
              go_wp2
              go_roundw
              case rel => exact ⟨(j + 1) + 1, by omega, by go_num, ⟨HY.out, below_drewN (HA.out.2.alloc HA.out.2.size _) _⟩⟩
              case measure => simp [intOf]; omega
             have H8 : Hid (¬ x.max = 1) := h8
             have n8 : (x.max != 1) = true := by simp [h8]
             clear h8
             have HN : Hid (thingsOk p = false) := thingsOk_noPort (things_no HX.out (fun hh => by have h9 := hh.2.2; simp [portB, H6.out, H8.out] at h9))
             go_wp2_with fail
             go_quiet ((first
              | (go_at_call_of 78 (x.id); exact Calls.quiet_of_same (HCI.out _))
              | (go_at_call_of 78 (x.max); exact Calls.quiet_of_same (HC5.out _))))
             go_wp2
             go_ret
             exact ⟨ret_bool HN.out.symm, below_drewN (HB2.out.2.2.alloc HB2.out.2.2.size _) _⟩
            rw [h6] at c2
            have H6 : Hid (x.queue = true) := h6
            clear h6
            cases h7 : textsB x.items x.max
            ·have HCT : Hid (∀ o n, Calls Tryz.prog 182 #[.slice x.itemsA x.items.length x.itemsC, .int .i64 x.max] ((wr.alloc o).drewN n) fun e w' => e = .returned (.bool false) ∧ w' = (wr.alloc o).drewN n) := fun _ n => texts_is h7 HTX.out n
             have H7 : Hid (textsB x.items x.max = false) := h7
             clear h7
             have HN : Hid (thingsOk p = false) := thingsOk_noPort (things_no HX.out (fun hh => by have h9 := hh.2.2; simp [portB, H7.out] at h9))
             go_wp2_with fail
             go_quiet ((first
              | (go_at_call_of 182 (x.items.length); exact Calls.quiet_of_same (HCT.out _ _))
              | (go_at_call_of 78 (x.id); exact Calls.quiet_of_same (HCI.out _))
              | (go_at_call_of 78 (x.max); exact Calls.quiet_of_same (HC5.out _))))
             go_wp2
             go_ret
             exact ⟨ret_bool HN.out.symm, below_drewN (HB2.out.2.2.alloc HB2.out.2.2.size _) _⟩
            have HCT : Hid (∀ o n, Calls Tryz.prog 182 #[.slice x.itemsA x.items.length x.itemsC, .int .i64 x.max] ((wr.alloc o).drewN n) fun e w' => e = .returned (.bool true) ∧ w' = (wr.alloc o).drewN n) := fun _ n => texts_is h7 HTX.out n
            have H7 : Hid (textsB x.items x.max = true) := h7
            clear h7
            have HY : Hid (thingsB (fun x : PortD => x.id) (fun x : PortD => portB x.toPortP) 0 (p.ports.take ((j + 1) + 1)) = true) := things_yes HA.out.1 HX.out HIN.out HLT.out (by simp [portB, H5.out, H7.out, H6.out])
            go_wp2_with fail
            go_quiet ((first
             | (go_at_call_of 182 (x.items.length); exact Calls.quiet_of_same (HCT.out _ _))
             | (go_at_call_of 78 (x.id); exact Calls.quiet_of_same (HCI.out _))
             | (go_at_call_of 78 (x.max); exact Calls.quiet_of_same (HC5.out _))))
            go_wp2
            go_roundw
            case rel => exact ⟨(j + 1) + 1, by omega, by go_num, ⟨HY.out, below_drewN (HA.out.2.alloc HA.out.2.size _) _⟩⟩
            case measure => simp [intOf]; omega
          ·have i1 : ¬ (k : Int) < (p.ports.length : Int) := by omega
           have HT4 : Hid (thingsB (fun x : PortD => x.id) (fun x => portB x.toPortP) 0 p.ports = true) := by have := HA.out.1; rwa [List.take_of_length_le (by omega)] at this
           clear HA HB hlt hk hsz hll
           have hs := HFT.out.short
           have l0 := hs.sems
           have l1 := hs.events
           have l2 := hs.boards
           have l3 := hs.buffers
           have l4 := hs.ports
           clear hs
           cases d0 : decide ((p.sems.length : Int) ≤ 5)
           ·have HN : Hid (thingsOk p = false) := thingsOk_len0 d0
            go_wp2
            go_ret
            exact ⟨ret_bool HN.out.symm, HB2.out.2.2⟩
           cases d1 : decide ((p.events.length : Int) ≤ 5)
           ·have HN : Hid (thingsOk p = false) := thingsOk_len1 d1
            go_wp2
            go_ret
            exact ⟨ret_bool HN.out.symm, HB2.out.2.2⟩
           cases d2 : decide ((p.boards.length : Int) ≤ 5)
           ·have HN : Hid (thingsOk p = false) := thingsOk_len2 d2
            go_wp2
            go_ret
            exact ⟨ret_bool HN.out.symm, HB2.out.2.2⟩
           cases d3 : decide ((p.buffers.length : Int) ≤ 5)
           ·have HN : Hid (thingsOk p = false) := thingsOk_len3 d3
            go_wp2
            go_ret
            exact ⟨ret_bool HN.out.symm, HB2.out.2.2⟩
           cases d4 : decide ((p.ports.length : Int) ≤ 5)
           ·have HN : Hid (thingsOk p = false) := thingsOk_len4 d4
            go_wp2
            go_ret
            exact ⟨ret_bool HN.out.symm, HB2.out.2.2⟩
           have HY : Hid (thingsOk p = true) := thingsOk_yes HT0.out HT1.out HT2.out HT3.out HT4.out d0 d1 d2 d3 d4
           go_wp2
           go_ret
           exact ⟨ret_bool HY.out.symm, HB2.out.2.2⟩

end Go.Proofs.YtkbcplnlehdjfaaGreat

/- What the specification says of a partition. (Made by mkpspec3.py.) -/
namespace Go.Proofs.YtkbcplnlehdjfaaGreat
open Go.RowKit
attribute [local go_sem ↓] Go.wp_at_zero Go.wp_at_succ

def specOk (p : PartD) (x : ProcD) : Bool := procB x.toProcP && turnB p.next x.toProcP && waitB p.pure x.toProcP
theorem procOkB_spec (p : PartD) (x : ProcD) : procOkB p.pure x.toProcP = (inB x.id 1 1000 && specOk p x) := by
 show (inB x.id 1 1000 && procB x.toProcP && turnB p.next x.toProcP && waitB p.pure x.toProcP) = _
 simp only [specOk, Bool.and_assoc]
def ApartD (l : List ProcD) : Prop := (l.map (·.since)).Pairwise (fun a b => ¬ (a = b ∧ 0 < b))
theorem apart_snoc {l : List ProcD} {k : Nat} {x : ProcD} (hx : l[k]? = some x) (h : ApartD (l.take k)) (hn : ∀ m y, m < k → l[m]? = some y → ¬ (y.since = x.since ∧ 0 < x.since)) : ApartD (l.take (k + 1)) := by
 rw [take_up hx]
 unfold ApartD
 rw [List.map_append, List.pairwise_append]
 refine ⟨h, List.pairwise_singleton _ _, fun a ha b hb => ?_⟩
 simp only [List.map_cons, List.map_nil, List.mem_cons, List.not_mem_nil, or_false] at hb
 subst hb
 obtain ⟨y, hy, rfl⟩ := List.mem_map.1 ha
 obtain ⟨m, hm⟩ := List.mem_iff_getElem?.1 hy
 rw [List.getElem?_take] at hm
 split at hm
 ·rename_i hlt
  exact hn m y hlt hm
 ·cases hm
theorem apart_not {l : List ProcD} {i m : Nat} {x y : ProcD} (hx : l[i]? = some x) (hy : l[m]? = some y) (hm : m < i) (h : y.since = x.since ∧ 0 < x.since) : ¬ ApartD l := fun ha => by
 unfold ApartD at ha
 rw [List.pairwise_map, List.pairwise_iff_getElem] at ha
 obtain ⟨hi, rfl⟩ := List.getElem?_eq_some_iff.1 hx
 obtain ⟨hj, rfl⟩ := List.getElem?_eq_some_iff.1 hy
 exact ha m i hj hi hm h
theorem partR_iff (p : PartD) : PartR p.pure ↔ (inB p.id 1 6 = true ∧ inB p.next 1 1000000000 = true ∧ p.procs.length ≤ 6 ∧ thingsOk p = true ∧ thingsB (fun x : ProcD => x.id) (specOk p) 0 p.procs = true ∧ ApartD p.procs) := by
 have e1 : thingsB (·.id) (fun x => procB x && turnB p.pure.next x && waitB p.pure x) 0 p.pure.procs = thingsB (fun x : ProcD => x.id) (specOk p) 0 p.procs := thingsB_map _ _ _ _ _
 have e2 : p.pure.procs.length = p.procs.length := by simp [PartD.pure]
 have e3 : thingsB (·.id) bufferB 0 p.pure.buffers = thingsB (fun x : BufferD => x.id) (fun x => bufferB x.toBufferP) 0 p.buffers := thingsB_map _ _ _ _ _
 have e4 : thingsB (·.id) portB 0 p.pure.ports = thingsB (fun x : PortD => x.id) (fun x => portB x.toPortP) 0 p.ports := thingsB_map _ _ _ _ _
 have e5 : p.pure.buffers.length = p.buffers.length := by simp [PartD.pure]
 have e6 : p.pure.ports.length = p.ports.length := by simp [PartD.pure]
 have e7 : Apart p.pure.procs ↔ ApartD p.procs := by
  unfold Apart ApartD
  show (((p.procs.map (·.toProcP))).map (·.since)).Pairwise _ ↔ _
  rw [List.map_map]
  rfl
 constructor
 ·intro h
  have hp := h.procs
  rw [e1] at hp
  have hb := h.buffers
  rw [e3] at hb
  have hq := h.ports
  rw [e4] at hq
  have n1 := h.nProc
  have n2 := h.nBuffer
  have n3 := h.nPort
  rw [e2] at n1
  rw [e5] at n2
  rw [e6] at n3
  have hs : thingsB (fun x : SemD => x.id) semB 0 p.sems = true := h.sems
  have he : thingsB (fun x : EventD => x.id) eventB 0 p.events = true := h.events
  have hd : thingsB (fun x : BoardD => x.id) boardB 0 p.boards = true := h.boards
  have l1 : p.sems.length ≤ 5 := h.nSem
  have l2 : p.events.length ≤ 5 := h.nEvent
  have l3 : p.boards.length ≤ 5 := h.nBoard
  refine ⟨h.id, h.next, n1, ?_, hp, e7.1 h.apart⟩
  simp only [thingsOk, hs, he, hd, hb, hq, decide_eq_true l1, decide_eq_true l2, decide_eq_true l3, decide_eq_true n2, decide_eq_true n3, Bool.and_self]
 ·rintro ⟨h1, h2, h3, h4, h5, h6⟩
  simp only [thingsOk, Bool.and_eq_true, decide_eq_true_eq] at h4
  obtain ⟨⟨⟨⟨⟨⟨⟨⟨⟨t1, t2⟩, t3⟩, t4⟩, t5⟩, d1⟩, d2⟩, d3⟩, d4⟩, d5⟩ := h4
  exact ⟨h1, h2, by rw [e2]; exact h3, d1, d2, d3, by rw [e5]; exact d4, by rw [e6]; exact d5, by rw [e1]; exact h5, t1, t2, t3, by rw [e3]; exact t4, by rw [e4]; exact t5, e7.2 h6⟩

/-- All that the walk reads at the k-th process. -/
def SpecS (w : World) (p : PartD) (x : ProcD) (gs k : Nat) (pre : World → Prop) (w' : World) : Prop := ((w'.cell? ⟨w.heap.size, 0, none⟩ = some (.int .i64 p.id) ∧ w'.cell? ⟨w.heap.size, 1, none⟩ = some (.int .i64 p.next) ∧ w'.cell? ⟨w.heap.size, 2, none⟩ = some (.slice (some ⟨gs, 0, none⟩) p.procs.length p.procC) ∧ w'.cell? ⟨w.heap.size, 3, none⟩ = some (.slice p.semA p.sems.length p.semC) ∧ w'.cell? ⟨w.heap.size, 4, none⟩ = some (.slice p.eventA p.events.length p.eventC) ∧ w'.cell? ⟨w.heap.size, 5, none⟩ = some (.slice p.boardA p.boards.length p.boardC) ∧ w'.cell? ⟨w.heap.size, 6, none⟩ = some (.slice p.bufferA p.buffers.length p.bufferC) ∧ w'.cell? ⟨w.heap.size, 7, none⟩ = some (.slice p.portA p.ports.length p.portC)) ∧ (w'.cell? ⟨gs, k * 12, none⟩ = some (.int .i64 x.id) ∧ w'.cell? ⟨gs, k * 12 + 1, none⟩ = some (.int .i64 x.prio) ∧ w'.cell? ⟨gs, k * 12 + 2, none⟩ = some (.slice x.progA x.prog.length x.progC) ∧ w'.cell? ⟨gs, k * 12 + 3, none⟩ = some (.int .i64 x.state) ∧ w'.cell? ⟨gs, k * 12 + 4, none⟩ = some (.int .i64 x.pc) ∧ w'.cell? ⟨gs, k * 12 + 5, none⟩ = some (.int .i64 x.left) ∧ w'.cell? ⟨gs, k * 12 + 6, none⟩ = some (.int .i64 x.wake) ∧ w'.cell? ⟨gs, k * 12 + 7, none⟩ = some (.int .i64 x.on) ∧ w'.cell? ⟨gs, k * 12 + 8, none⟩ = some (.string x.held) ∧ w'.cell? ⟨gs, k * 12 + 9, none⟩ = some (.string x.got) ∧ w'.cell? ⟨gs, k * 12 + 10, none⟩ = some (.int .i64 x.code) ∧ w'.cell? ⟨gs, k * 12 + 11, none⟩ = some (.int .i64 x.since)) ∧ pre w') ∧ Hid (PartBox w' w.heap.size p ∧ PartD.At w' p ∧ Below w.heap.size w w')
theorem specS_of {w w' : World} {p : PartD} {x : ProcD} {gs k : Nat} {pre : World → Prop} (ha : p.procA = some ⟨gs, 0, none⟩) (hx : p.procs[k]? = some x) (h : PartBox w' w.heap.size p ∧ PartD.At w' p ∧ Below w.heap.size w w') (hp : pre w') : SpecS w p x gs k pre w' := by
 refine ⟨⟨?_, ?_, hp⟩, h⟩
 ·have := h.1.cells
  rw [ha] at this
  exact this
 ·obtain ⟨g, e, hat⟩ := proc_at h.2.1.1 hx
  rw [ha] at e
  cases e
  exact hat
/-- The number of the one ahead. -/
def PrevS (gs j : Nat) (y : ProcD) (w' : World) : Prop := w'.cell? ⟨gs, j * 12, none⟩ = some (.int .i64 y.id)
theorem prevS_of {w' : World} {p : PartD} {gs j : Nat} {y : ProcD} (ha : p.procA = some ⟨gs, 0, none⟩) (hy : p.procs[j]? = some y) (h : PartD.At w' p) : PrevS gs j y w' := by
 obtain ⟨g, e, hat⟩ := proc_at h.1 hy
 rw [ha] at e
 cases e
 exact hat.1

set_option maxRecDepth 100000 in
set_option maxHeartbeats 16000000 in
theorem specPartOk_any (p : PartD) (w : World) (hf : p.Fit) (hs : ∀ x ∈ p.procs, x.Short) (h : PartD.At w p) :
  Calls Tryz.prog 54 #[.agg p.cells] w fun e w' => e = .returned (.bool (partB p.pure)) ∧ Below w.heap.size w w' := by
 have HB : Hid (PartBox (w.alloc (.cells p.cells 32)) w.heap.size p ∧ PartD.At (w.alloc (.cells p.cells 32)) p ∧ Below w.heap.size w (w.alloc (.cells p.cells 32))) := ⟨heap_alloc_new _ _, h.below ((Below.refl _ _).alloc (Nat.le_refl _) _), (Below.refl _ _).alloc (Nat.le_refl _) _⟩
 have HFT : Hid (p.Fit ∧ ∀ x ∈ p.procs, x.Short) := ⟨hf, hs⟩
 have hpl := hf.short.procs
 clear h hf hs
 obtain ⟨m0, m1, m2, m3, m4, m5, m6, m7⟩ := HB.out.1.cells
 unfold PartD.cells at *
 go_enter Tryz.func54, Tryz.ntmps54
 go_wp2_with fail
 generalize w.alloc (.cells #[.int .i64 p.id, .int .i64 p.next, .slice p.procA p.procs.length p.procC, .slice p.semA p.sems.length p.semC, .slice p.eventA p.events.length p.eventC, .slice p.boardA p.boards.length p.boardC, .slice p.bufferA p.buffers.length p.bufferC, .slice p.portA p.ports.length p.portC] 32) = W at *
 refine (l1In_any p.id 1 6 _).mono ?_
 rintro e w9 ⟨rfl, hw9⟩
 rw [hw9]
 clear hw9 w9
 cases h1 : inB p.id 1 6
 ·have hz : True := trivial
  have HN : Hid (partB p.pure = false) := partB_false fun hr => by have := ((partR_iff p).1 hr).1; rw [h1] at this; cases this
  clear h1
  go_wp2
  go_ret
  exact ⟨ret_bool HN.out.symm, HB.out.2.2⟩
 have H1 : Hid (inB p.id 1 6 = true) := h1
 clear h1
 go_wp2_with fail
 refine (l1In_any p.next 1 1000000000 _).mono ?_
 rintro e w9 ⟨rfl, hw9⟩
 rw [hw9]
 clear hw9 w9
 cases h2 : inB p.next 1 1000000000
 ·have hz : True := trivial
  have HN : Hid (partB p.pure = false) := partB_false fun hr => by have := ((partR_iff p).1 hr).2.1; rw [h2] at this; cases this
  clear h2
  go_wp2
  go_ret
  exact ⟨ret_bool HN.out.symm, HB.out.2.2⟩
 have H2 : Hid (inB p.next 1 1000000000 = true) := h2
 clear h2
 by_cases h3 : (6 : Int) < (p.procs.length : Int)
 ·have hz : True := trivial
  have HN : Hid (partB p.pure = false) := partB_false fun hr => by have := ((partR_iff p).1 hr).2.2.1; omega
  go_wp2
  go_ret
  exact ⟨ret_bool HN.out.symm, HB.out.2.2⟩
 have H3 : Hid (p.procs.length ≤ 6) := by show p.procs.length ≤ 6; omega
 go_wp2_with fail
 refine (l3Things_any p W HFT.out.1 HB.out.2.1).mono ?_
 rintro e W1 ⟨rfl, hb1⟩
 have HB1 : Hid (PartBox W1 w.heap.size p ∧ PartD.At W1 p ∧ Below w.heap.size w W1) := ⟨HB.out.1.below hb1, HB.out.2.1.below hb1, HB.out.2.2.trans (hb1.mono HB.out.2.2.size)⟩
 clear hb1 m0 m1 m2 m3 m4 m5 m6 m7 HB
 cases h4 : thingsOk p
 ·have hz : True := trivial
  have HN : Hid (partB p.pure = false) := partB_false fun hr => by have := ((partR_iff p).1 hr).2.2.2.1; rw [h4] at this; cases this
  clear h4
  go_wp2
  go_ret
  exact ⟨ret_bool HN.out.symm, HB1.out.2.2⟩
 have H4 : Hid (thingsOk p = true) := h4
 clear h4
 go_wp2_with fail
 go_loopw [3] (fun i wr => ∃ k : Nat, k ≤ p.procs.length ∧ i = .int .i64 k ∧ Hid (thingsB (fun x : ProcD => x.id) (specOk p) 0 (p.procs.take k) = true ∧ ApartD (p.procs.take k) ∧ Below W1.heap.size W1 wr)) (fun i _ => p.procs.length - (intOf i).toNat)
 case atStart => exact ⟨0, Nat.zero_le _, rfl, ⟨rfl, List.Pairwise.nil, Below.refl _ _⟩⟩
 case round =>
  obtain ⟨k, hk, rfl, HA⟩ := hrel
  have HB2 : Hid (PartBox wr w.heap.size p ∧ PartD.At wr p ∧ Below w.heap.size w wr) := ⟨HB1.out.1.below HA.out.2.2, HB1.out.2.1.below HA.out.2.2, HB1.out.2.2.trans (HA.out.2.2.mono HB1.out.2.2.size)⟩
  obtain ⟨m0, m1, m2, m3, m4, m5, m6, m7⟩ := HB2.out.1.cells
  by_cases hlt : k < p.procs.length
  ·have i0 : (0 : Int) ≤ (k : Int) := by omega
   have i1 : (k : Int) < (p.procs.length : Int) := by omega
   obtain ⟨x, hx⟩ : ∃ x, p.procs[k]? = some x := ⟨_, List.getElem?_eq_getElem hlt⟩
   have hmem := List.mem_of_getElem? hx
   obtain ⟨gs, ha, hat⟩ := proc_at HB2.out.2.1.1 hx
   have HAX : Hid (p.procA = some ⟨gs, 0, none⟩ ∧ p.procs[k]? = some x) := ⟨ha, hx⟩
   have HXS : Hid (x.Short ∧ Row wr x.progA (opK.flat x.prog)) := ⟨HFT.out.2 x hmem, proc_prog HB2.out.2.1.1 hx⟩
   have HNX : Hid (1 ≤ p.next ∧ p.next ≤ 1000000000) := inB_iff.1 H2.out
   rw [ha] at m2
   clear hx hmem ha hat
   go_wp2_with fail
   cases hpo : procOkB p.pure x.toProcP
   ·have HPO : Hid (procOkB p.pure x.toProcP = false) := hpo
    have HN : Hid (partB p.pure = false) := partB_false fun hr => by have h9 := ((partR_iff p).1 hr).2.2.2.2.1; rw [things_no HAX.out.2 (fun hh => by have h8 := HPO.out; rw [procOkB_spec, hh.1, hh.2.2] at h8; cases h8)] at h9; cases h9
    clear hpo m0 m1 m2 m3 m4 m5 m6 m7
    refine tame_region (SpecS w p x gs k (fun _ => True)) (by kernel_rfl) (specS_of HAX.out.1 HAX.out.2 ⟨HB2.out.1, HB2.out.2.1, HB2.out.2.2.drew⟩ trivial) ?_
    iterate 6 (refine yl (v := ?_) ?_ ?_; rotate_left; (intro w0 hS0; obtain ⟨⟨⟨q0, q1, q2, q3, q4, q5, q6, q7⟩, ⟨x0, x1, x2, x3, x4, x5, x6, x7, x8, x9, x10, x11⟩, hpre⟩, hH⟩ := hS0; go_simp; try with_reducible rfl); simp only [pt, sb, s0, s1])
    refine cl (.bool false) 103 #[.agg #[.int .i64 p.id, .int .i64 p.next, .slice (some ⟨gs, 0, none⟩) p.procs.length p.procC, .slice p.semA p.sems.length p.semC, .slice p.eventA p.events.length p.eventC, .slice p.boardA p.boards.length p.boardC, .slice p.bufferA p.buffers.length p.bufferC, .slice p.portA p.ports.length p.portC], .agg #[.int .i64 x.id, .int .i64 x.prio, .slice x.progA x.prog.length x.progC, .int .i64 x.state, .int .i64 x.pc, .int .i64 x.left, .int .i64 x.wake, .int .i64 x.on, .string x.held, .string x.got, .int .i64 x.code, .int .i64 x.since]] ?_ ?_ ?_
    ·intro w0 hS0
     obtain ⟨⟨⟨q0, q1, q2, q3, q4, q5, q6, q7⟩, ⟨x0, x1, x2, x3, x4, x5, x6, x7, x8, x9, x10, x11⟩, hpre⟩, hH⟩ := hS0
     go_simp
     try with_reducible rfl
    ·intro w0 hS0
     have hq := hS0.2.out
     rw [show (Value.agg #[.int .i64 p.id, .int .i64 p.next, .slice (some ⟨gs, 0, none⟩) p.procs.length p.procC, .slice p.semA p.sems.length p.semC, .slice p.eventA p.events.length p.eventC, .slice p.boardA p.boards.length p.boardC, .slice p.bufferA p.buffers.length p.bufferC, .slice p.portA p.ports.length p.portC]) = .agg p.cells by unfold PartD.cells; rw [HAX.out.1]]
     refine (l3ProcOk_any p x w0 HFT.out.1.short HXS.out.1 HNX.out.1 HNX.out.2 hq.2.1 (proc_prog hq.2.1.1 HAX.out.2)).mono ?_
     rintro e w2 ⟨rfl, hb2⟩
     exact ⟨ret_bool HPO.out, specS_of HAX.out.1 HAX.out.2 ⟨hq.1.below hb2, hq.2.1.below hb2, hq.2.2.trans (hb2.mono hq.2.2.size)⟩ trivial⟩
    simp only [pt, sb, s0, s1]
    iterate 2 (refine yl (v := ?_) ?_ ?_; rotate_left; (intro w0 hS0; obtain ⟨⟨⟨q0, q1, q2, q3, q4, q5, q6, q7⟩, ⟨x0, x1, x2, x3, x4, x5, x6, x7, x8, x9, x10, x11⟩, hpre⟩, hH⟩ := hS0; go_simp; try with_reducible rfl); simp only [pt, sb, s0, s1])
    iterate 18 (refine nl ?_; simp only [pt, sb, s0, s1])
    (refine yl (v := ?_) ?_ ?_; rotate_left; (intro w0 hS0; obtain ⟨⟨⟨q0, q1, q2, q3, q4, q5, q6, q7⟩, ⟨x0, x1, x2, x3, x4, x5, x6, x7, x8, x9, x10, x11⟩, hpre⟩, hH⟩ := hS0; go_simp; try with_reducible rfl); simp only [pt, sb, s0, s1])
    refine tame_done (by kernel_rfl) ?_ _
    intro w1 hS1
    have HZ : Hid (Below w.heap.size w w1) := hS1.2.out.2.2
    clear hS1
    go_wp2
    go_ret
    exact ⟨ret_bool HN.out.symm, HZ.out⟩
   have HPO : Hid (procOkB p.pure x.toProcP = true) := hpo
   have HIN : Hid (inB x.id 1 1000 = true ∧ specOk p x = true) := by have h8 := HPO.out; rw [procOkB_spec, Bool.and_eq_true] at h8; exact h8
   clear hpo
   by_cases hk0 : k = 0
   ·have dk : decide (0 < k) = false := decide_eq_false (by omega)
    have HLT : Hid (lastOf (fun x : ProcD => x.id) 0 (p.procs.take k) < x.id) := by show _ < _; rw [hk0, last_none]; have := inB_iff.1 HIN.out.1; omega
    clear hk0 m0 m1 m2 m3 m4 m5 m6 m7
    refine tame_region (fun w' => SpecS w p x gs k (fun _ => True) w' ∧ Hid (Below wr.heap.size wr w')) (by kernel_rfl) ⟨specS_of HAX.out.1 HAX.out.2 ⟨HB2.out.1, HB2.out.2.1, HB2.out.2.2.drew⟩ trivial, (Below.refl _ _).drew⟩ ?_
    iterate 6 (refine yl (v := ?_) ?_ ?_; rotate_left; (intro w0 hS0; obtain ⟨⟨⟨⟨q0, q1, q2, q3, q4, q5, q6, q7⟩, ⟨x0, x1, x2, x3, x4, x5, x6, x7, x8, x9, x10, x11⟩, hpre⟩, hH⟩, hH2⟩ := hS0; go_simp; try with_reducible rfl); simp only [pt, sb, s0, s1])
    refine cl (.bool true) 103 #[.agg #[.int .i64 p.id, .int .i64 p.next, .slice (some ⟨gs, 0, none⟩) p.procs.length p.procC, .slice p.semA p.sems.length p.semC, .slice p.eventA p.events.length p.eventC, .slice p.boardA p.boards.length p.boardC, .slice p.bufferA p.buffers.length p.bufferC, .slice p.portA p.ports.length p.portC], .agg #[.int .i64 x.id, .int .i64 x.prio, .slice x.progA x.prog.length x.progC, .int .i64 x.state, .int .i64 x.pc, .int .i64 x.left, .int .i64 x.wake, .int .i64 x.on, .string x.held, .string x.got, .int .i64 x.code, .int .i64 x.since]] ?_ ?_ ?_
    ·intro w0 hS0
     obtain ⟨⟨⟨⟨q0, q1, q2, q3, q4, q5, q6, q7⟩, ⟨x0, x1, x2, x3, x4, x5, x6, x7, x8, x9, x10, x11⟩, hpre⟩, hH⟩, hH2⟩ := hS0
     go_simp
     try with_reducible rfl
    ·intro w0 hS0
     have hq := hS0.1.2.out
     rw [show (Value.agg #[.int .i64 p.id, .int .i64 p.next, .slice (some ⟨gs, 0, none⟩) p.procs.length p.procC, .slice p.semA p.sems.length p.semC, .slice p.eventA p.events.length p.eventC, .slice p.boardA p.boards.length p.boardC, .slice p.bufferA p.buffers.length p.bufferC, .slice p.portA p.ports.length p.portC]) = .agg p.cells by unfold PartD.cells; rw [HAX.out.1]]
     refine (l3ProcOk_any p x w0 HFT.out.1.short HXS.out.1 HNX.out.1 HNX.out.2 hq.2.1 (proc_prog hq.2.1.1 HAX.out.2)).mono ?_
     rintro e w2 ⟨rfl, hb2⟩
     exact ⟨ret_bool HPO.out, specS_of HAX.out.1 HAX.out.2 ⟨hq.1.below hb2, hq.2.1.below hb2, hq.2.2.trans (hb2.mono hq.2.2.size)⟩ trivial, hS0.2.out.trans (hb2.mono hS0.2.out.size)⟩
    simp only [pt, sb, s0, s1]
    iterate 5 (refine yl (v := ?_) ?_ ?_; rotate_left; (intro w0 hS0; obtain ⟨⟨⟨⟨q0, q1, q2, q3, q4, q5, q6, q7⟩, ⟨x0, x1, x2, x3, x4, x5, x6, x7, x8, x9, x10, x11⟩, hpre⟩, hH⟩, hH2⟩ := hS0; go_simp; try with_reducible rfl); simp only [pt, sb, s0, s1])
    iterate 14 (refine nl ?_; simp only [pt, sb, s0, s1])
    iterate 2 (refine yl (v := ?_) ?_ ?_; rotate_left; (intro w0 hS0; obtain ⟨⟨⟨⟨q0, q1, q2, q3, q4, q5, q6, q7⟩, ⟨x0, x1, x2, x3, x4, x5, x6, x7, x8, x9, x10, x11⟩, hpre⟩, hH⟩, hH2⟩ := hS0; go_simp; try with_reducible rfl); simp only [pt, sb, s0, s1])
    refine tame_done (by kernel_rfl) ?_ _
    intro w1 hS1
    have HZ : Hid (PartBox w1 w.heap.size p ∧ PartD.At w1 p ∧ Below w.heap.size w w1) := hS1.1.2.out
    have HZW : Hid (Below wr.heap.size wr w1) := hS1.2.out
    clear hS1
    obtain ⟨z0, z1, z2, z3, z4, z5, z6, z7⟩ := HZ.out.1.cells
    go_wp2_with fail
    clear z0 z1 z2 z3 z4 z5 z6 z7
    go_loopw [4] (fun i wr => ∃ n : Nat, n ≤ k ∧ i = .int .i64 n ∧ Hid ((∀ m y, m < n → p.procs[m]? = some y → ¬ (y.since = x.since ∧ 0 < x.since)) ∧ Below w1.heap.size w1 wr)) (fun i _ => k - (intOf i).toNat)
    case atStart => exact ⟨0, Nat.zero_le _, rfl, ⟨fun m y hm => absurd hm (by omega), Below.refl _ _⟩⟩
    case round =>
     obtain ⟨n, hn, rfl, HI⟩ := hrel
     rename World => wi
     have HZ2 : Hid (PartBox wi w.heap.size p ∧ PartD.At wi p ∧ Below w.heap.size w wi) := ⟨HZ.out.1.below HI.out.2, HZ.out.2.1.below HI.out.2, HZ.out.2.2.trans (HI.out.2.mono HZ.out.2.2.size)⟩
     obtain ⟨z0, z1, z2, z3, z4, z5, z6, z7⟩ := HZ2.out.1.cells
     rw [HAX.out.1] at z2
     by_cases hnk : n < k
     ·have j0' : (0 : Int) ≤ (n : Int) := by omega
      have j1' : (n : Int) < (p.procs.length : Int) := by omega
      have j2' : (n : Int) < ((k : Nat) : Int) := by omega
      obtain ⟨v, hv⟩ : ∃ v, p.procs[n]? = some v := ⟨_, List.getElem?_eq_getElem (by omega)⟩
      obtain ⟨g1, e1, hat1⟩ := proc_at HZ2.out.2.1.1 hv
      obtain ⟨g2, e2, hat2⟩ := proc_at HZ2.out.2.1.1 HAX.out.2
      rw [HAX.out.1] at e1 e2
      cases e1
      cases e2
      have d0 := hat1.2.2.2.2.2.2.2.2.2.2.2
      have d1 := hat2.2.2.2.2.2.2.2.2.2.2.2
      have HV : Hid (p.procs[n]? = some v) := hv
      clear hat1 hat2 hv
      by_cases hsi : v.since = x.since
      ·have es : (v.since == x.since) = true := by simp [hsi]
       have HSI : Hid (v.since = x.since) := hsi
       clear hsi
       by_cases hpos : 0 < x.since
       ·have dpos : decide (0 < x.since) = true := decide_eq_true hpos
        have HN : Hid (partB p.pure = false) := partB_false fun hr => absurd ((partR_iff p).1 hr).2.2.2.2.2 (apart_not HAX.out.2 HV.out hnk ⟨HSI.out, hpos⟩)
        go_wp2_with fail
        go_quiet (fail)
        go_wp2
        go_ret
        exact ⟨ret_bool HN.out.symm, below_drewN HZ2.out.2.2 _⟩
       have dpos : decide (0 < x.since) = false := decide_eq_false hpos
       have HNX2 : Hid (¬ (v.since = x.since ∧ 0 < x.since)) := fun hh => hpos hh.2
       clear hpos
       go_wp2_with fail
       go_quiet (fail)
       go_wp2
       go_roundw
       case rel => exact ⟨n + 1, by omega, by go_num, ⟨fun m y hm hy => by rcases Nat.lt_succ_iff_lt_or_eq.1 hm with h5 | h5; exact HI.out.1 m y h5 hy; subst h5; rw [HV.out] at hy; cases hy; exact HNX2.out, below_drewN HI.out.2 _⟩⟩
       case measure => simp [intOf]; omega
      have es : (v.since == x.since) = false := by simp [hsi]
      have HNX2 : Hid (¬ (v.since = x.since ∧ 0 < x.since)) := fun hh => hsi hh.1
      clear hsi
      go_wp2_with fail
      go_quiet (fail)
      go_wp2
      go_roundw
      case rel => exact ⟨n + 1, by omega, by go_num, ⟨fun m y hm hy => by rcases Nat.lt_succ_iff_lt_or_eq.1 hm with h5 | h5; exact HI.out.1 m y h5 hy; subst h5; rw [HV.out] at hy; cases hy; exact HNX2.out, below_drewN HI.out.2 _⟩⟩
      case measure => simp [intOf]; omega
     ·have j2' : ¬ (n : Int) < ((k : Nat) : Int) := by omega
      have en : n = k := by omega
      have HAP : Hid (ApartD (p.procs.take (k + 1))) := apart_snoc HAX.out.2 HA.out.2.1 (fun m y hm hy => HI.out.1 m y (by omega) hy)
      have HY : Hid (thingsB (fun x : ProcD => x.id) (specOk p) 0 (p.procs.take (k + 1)) = true) := things_yes HA.out.1 HAX.out.2 HIN.out.1 HLT.out HIN.out.2
      clear en
      have HE : Hid (Below W1.heap.size W1 wi) := HA.out.2.2.trans ((HZW.out.trans (HI.out.2.mono HZW.out.size)).mono HA.out.2.2.size)
      go_wp2
      go_roundw
      case rel => exact ⟨k + 1, by omega, by go_num, ⟨HY.out, HAP.out, HE.out⟩⟩
      case measure => simp [intOf]; omega
   obtain ⟨j, rfl⟩ : ∃ j, k = j + 1 := ⟨k - 1, by omega⟩
   obtain ⟨y, hy⟩ : ∃ y, p.procs[j]? = some y := ⟨_, List.getElem?_eq_getElem (by omega)⟩
   have j0 : (0 : Int) ≤ (j : Int) := by omega
   have j1 : (j : Int) < (p.procs.length : Int) := by omega
   have i2 : (0 : Int) ≤ (j : Int) + 1 := by omega
   have i3 : (j : Int) + 1 < (p.procs.length : Int) := by omega
   have wk : IntKind.i64.wrap (j : Int) = (j : Int) := by rw [IntKind.wrap_i64]; omega
   have HLA : Hid (lastOf (fun x : ProcD => x.id) 0 (p.procs.take (j + 1)) = y.id ∧ p.procs[j]? = some y) := ⟨lastOf_take hy 0, hy⟩
   clear hy hk0 m0 m1 m2 m3 m4 m5 m6 m7
   by_cases hle : x.id ≤ y.id
   ·have dp : decide (x.id ≤ y.id) = true := decide_eq_true hle
    have HN : Hid (partB p.pure = false) := partB_false fun hr => by have h9 := ((partR_iff p).1 hr).2.2.2.2.1; rw [things_no HAX.out.2 (fun hh => by have h8 := hh.2.1; rw [HLA.out.1] at h8; have h8 : y.id < x.id := h8; omega)] at h9; cases h9
    refine tame_region (fun w' => SpecS w p x gs (j + 1) (PrevS gs j y) w' ∧ Hid (Below wr.heap.size wr w')) (by kernel_rfl) ⟨specS_of HAX.out.1 HAX.out.2 ⟨HB2.out.1, HB2.out.2.1, HB2.out.2.2.drew⟩ (prevS_of HAX.out.1 HLA.out.2 HB2.out.2.1), (Below.refl _ _).drew⟩ ?_
    iterate 6 (refine yl (v := ?_) ?_ ?_; rotate_left; (intro w0 hS0; obtain ⟨⟨⟨⟨q0, q1, q2, q3, q4, q5, q6, q7⟩, ⟨x0, x1, x2, x3, x4, x5, x6, x7, x8, x9, x10, x11⟩, hpre⟩, hH⟩, hH2⟩ := hS0; unfold PrevS at hpre; go_simp; try with_reducible rfl); simp only [pt, sb, s0, s1])
    refine cl (.bool true) 103 #[.agg #[.int .i64 p.id, .int .i64 p.next, .slice (some ⟨gs, 0, none⟩) p.procs.length p.procC, .slice p.semA p.sems.length p.semC, .slice p.eventA p.events.length p.eventC, .slice p.boardA p.boards.length p.boardC, .slice p.bufferA p.buffers.length p.bufferC, .slice p.portA p.ports.length p.portC], .agg #[.int .i64 x.id, .int .i64 x.prio, .slice x.progA x.prog.length x.progC, .int .i64 x.state, .int .i64 x.pc, .int .i64 x.left, .int .i64 x.wake, .int .i64 x.on, .string x.held, .string x.got, .int .i64 x.code, .int .i64 x.since]] ?_ ?_ ?_
    ·intro w0 hS0
     obtain ⟨⟨⟨⟨q0, q1, q2, q3, q4, q5, q6, q7⟩, ⟨x0, x1, x2, x3, x4, x5, x6, x7, x8, x9, x10, x11⟩, hpre⟩, hH⟩, hH2⟩ := hS0; unfold PrevS at hpre
     go_simp
     try with_reducible rfl
    ·intro w0 hS0
     have hq := hS0.1.2.out
     rw [show (Value.agg #[.int .i64 p.id, .int .i64 p.next, .slice (some ⟨gs, 0, none⟩) p.procs.length p.procC, .slice p.semA p.sems.length p.semC, .slice p.eventA p.events.length p.eventC, .slice p.boardA p.boards.length p.boardC, .slice p.bufferA p.buffers.length p.bufferC, .slice p.portA p.ports.length p.portC]) = .agg p.cells by unfold PartD.cells; rw [HAX.out.1]]
     refine (l3ProcOk_any p x w0 HFT.out.1.short HXS.out.1 HNX.out.1 HNX.out.2 hq.2.1 (proc_prog hq.2.1.1 HAX.out.2)).mono ?_
     rintro e w2 ⟨rfl, hb2⟩
     exact ⟨ret_bool HPO.out, specS_of HAX.out.1 HAX.out.2 ⟨hq.1.below hb2, hq.2.1.below hb2, hq.2.2.trans (hb2.mono hq.2.2.size)⟩ (prevS_of HAX.out.1 HLA.out.2 (hq.2.1.below hb2)), hS0.2.out.trans (hb2.mono hS0.2.out.size)⟩
    simp only [pt, sb, s0, s1]
    iterate 21 (refine yl (v := ?_) ?_ ?_; rotate_left; (intro w0 hS0; obtain ⟨⟨⟨⟨q0, q1, q2, q3, q4, q5, q6, q7⟩, ⟨x0, x1, x2, x3, x4, x5, x6, x7, x8, x9, x10, x11⟩, hpre⟩, hH⟩, hH2⟩ := hS0; unfold PrevS at hpre; go_simp; try with_reducible rfl); simp only [pt, sb, s0, s1])
    refine tame_done (by kernel_rfl) ?_ _
    intro w1 hS1
    have HZ : Hid (Below w.heap.size w w1) := hS1.1.2.out.2.2
    clear hS1
    go_wp2
    go_ret
    exact ⟨ret_bool HN.out.symm, HZ.out⟩
   have dp : decide (x.id ≤ y.id) = false := decide_eq_false hle
   have HLT : Hid (lastOf (fun x : ProcD => x.id) 0 (p.procs.take (j + 1)) < x.id) := by show _ < _; rw [HLA.out.1]; show y.id < x.id; omega
   clear hle
   refine tame_region (fun w' => SpecS w p x gs (j + 1) (PrevS gs j y) w' ∧ Hid (Below wr.heap.size wr w')) (by kernel_rfl) ⟨specS_of HAX.out.1 HAX.out.2 ⟨HB2.out.1, HB2.out.2.1, HB2.out.2.2.drew⟩ (prevS_of HAX.out.1 HLA.out.2 HB2.out.2.1), (Below.refl _ _).drew⟩ ?_
   iterate 6 (refine yl (v := ?_) ?_ ?_; rotate_left; (intro w0 hS0; obtain ⟨⟨⟨⟨q0, q1, q2, q3, q4, q5, q6, q7⟩, ⟨x0, x1, x2, x3, x4, x5, x6, x7, x8, x9, x10, x11⟩, hpre⟩, hH⟩, hH2⟩ := hS0; unfold PrevS at hpre; go_simp; try with_reducible rfl); simp only [pt, sb, s0, s1])
   refine cl (.bool true) 103 #[.agg #[.int .i64 p.id, .int .i64 p.next, .slice (some ⟨gs, 0, none⟩) p.procs.length p.procC, .slice p.semA p.sems.length p.semC, .slice p.eventA p.events.length p.eventC, .slice p.boardA p.boards.length p.boardC, .slice p.bufferA p.buffers.length p.bufferC, .slice p.portA p.ports.length p.portC], .agg #[.int .i64 x.id, .int .i64 x.prio, .slice x.progA x.prog.length x.progC, .int .i64 x.state, .int .i64 x.pc, .int .i64 x.left, .int .i64 x.wake, .int .i64 x.on, .string x.held, .string x.got, .int .i64 x.code, .int .i64 x.since]] ?_ ?_ ?_
   ·intro w0 hS0
    obtain ⟨⟨⟨⟨q0, q1, q2, q3, q4, q5, q6, q7⟩, ⟨x0, x1, x2, x3, x4, x5, x6, x7, x8, x9, x10, x11⟩, hpre⟩, hH⟩, hH2⟩ := hS0; unfold PrevS at hpre
    go_simp
    try with_reducible rfl
   ·intro w0 hS0
    have hq := hS0.1.2.out
    rw [show (Value.agg #[.int .i64 p.id, .int .i64 p.next, .slice (some ⟨gs, 0, none⟩) p.procs.length p.procC, .slice p.semA p.sems.length p.semC, .slice p.eventA p.events.length p.eventC, .slice p.boardA p.boards.length p.boardC, .slice p.bufferA p.buffers.length p.bufferC, .slice p.portA p.ports.length p.portC]) = .agg p.cells by unfold PartD.cells; rw [HAX.out.1]]
    refine (l3ProcOk_any p x w0 HFT.out.1.short HXS.out.1 HNX.out.1 HNX.out.2 hq.2.1 (proc_prog hq.2.1.1 HAX.out.2)).mono ?_
    rintro e w2 ⟨rfl, hb2⟩
    exact ⟨ret_bool HPO.out, specS_of HAX.out.1 HAX.out.2 ⟨hq.1.below hb2, hq.2.1.below hb2, hq.2.2.trans (hb2.mono hq.2.2.size)⟩ (prevS_of HAX.out.1 HLA.out.2 (hq.2.1.below hb2)), hS0.2.out.trans (hb2.mono hS0.2.out.size)⟩
   simp only [pt, sb, s0, s1]
   iterate 21 (refine yl (v := ?_) ?_ ?_; rotate_left; (intro w0 hS0; obtain ⟨⟨⟨⟨q0, q1, q2, q3, q4, q5, q6, q7⟩, ⟨x0, x1, x2, x3, x4, x5, x6, x7, x8, x9, x10, x11⟩, hpre⟩, hH⟩, hH2⟩ := hS0; unfold PrevS at hpre; go_simp; try with_reducible rfl); simp only [pt, sb, s0, s1])
   refine tame_done (by kernel_rfl) ?_ _
   intro w1 hS1
   have HZ : Hid (PartBox w1 w.heap.size p ∧ PartD.At w1 p ∧ Below w.heap.size w w1) := hS1.1.2.out
   have HZW : Hid (Below wr.heap.size wr w1) := hS1.2.out
   clear hS1
   obtain ⟨z0, z1, z2, z3, z4, z5, z6, z7⟩ := HZ.out.1.cells
   go_wp2_with fail
   clear z0 z1 z2 z3 z4 z5 z6 z7
   go_loopw [4] (fun i wr => ∃ n : Nat, n ≤ (j + 1) ∧ i = .int .i64 n ∧ Hid ((∀ m y, m < n → p.procs[m]? = some y → ¬ (y.since = x.since ∧ 0 < x.since)) ∧ Below w1.heap.size w1 wr)) (fun i _ => (j + 1) - (intOf i).toNat)
   case atStart => exact ⟨0, Nat.zero_le _, rfl, ⟨fun m y hm => absurd hm (by omega), Below.refl _ _⟩⟩
   case round =>
    obtain ⟨n, hn, rfl, HI⟩ := hrel
    rename World => wi
    have HZ2 : Hid (PartBox wi w.heap.size p ∧ PartD.At wi p ∧ Below w.heap.size w wi) := ⟨HZ.out.1.below HI.out.2, HZ.out.2.1.below HI.out.2, HZ.out.2.2.trans (HI.out.2.mono HZ.out.2.2.size)⟩
    obtain ⟨z0, z1, z2, z3, z4, z5, z6, z7⟩ := HZ2.out.1.cells
    rw [HAX.out.1] at z2
    by_cases hnk : n < (j + 1)
    ·have j0' : (0 : Int) ≤ (n : Int) := by omega
     have j1' : (n : Int) < (p.procs.length : Int) := by omega
     have j2' : (n : Int) < (((j + 1) : Nat) : Int) := by omega
     obtain ⟨v, hv⟩ : ∃ v, p.procs[n]? = some v := ⟨_, List.getElem?_eq_getElem (by omega)⟩
     obtain ⟨g1, e1, hat1⟩ := proc_at HZ2.out.2.1.1 hv
     obtain ⟨g2, e2, hat2⟩ := proc_at HZ2.out.2.1.1 HAX.out.2
     rw [HAX.out.1] at e1 e2
     cases e1
     cases e2
     have d0 := hat1.2.2.2.2.2.2.2.2.2.2.2
     have d1 := hat2.2.2.2.2.2.2.2.2.2.2.2
     have HV : Hid (p.procs[n]? = some v) := hv
     clear hat1 hat2 hv
     by_cases hsi : v.since = x.since
     ·have es : (v.since == x.since) = true := by simp [hsi]
      have HSI : Hid (v.since = x.since) := hsi
      clear hsi
      by_cases hpos : 0 < x.since
      ·have dpos : decide (0 < x.since) = true := decide_eq_true hpos
       have HN : Hid (partB p.pure = false) := partB_false fun hr => absurd ((partR_iff p).1 hr).2.2.2.2.2 (apart_not HAX.out.2 HV.out hnk ⟨HSI.out, hpos⟩)
       go_wp2_with fail
       go_quiet (fail)
       go_wp2
       go_ret
       exact ⟨ret_bool HN.out.symm, below_drewN HZ2.out.2.2 _⟩
      have dpos : decide (0 < x.since) = false := decide_eq_false hpos
      have HNX2 : Hid (¬ (v.since = x.since ∧ 0 < x.since)) := fun hh => hpos hh.2
      clear hpos
      go_wp2_with fail
      go_quiet (fail)
      go_wp2
      go_roundw
      case rel => exact ⟨n + 1, by omega, by go_num, ⟨fun m y hm hy => by rcases Nat.lt_succ_iff_lt_or_eq.1 hm with h5 | h5; exact HI.out.1 m y h5 hy; subst h5; rw [HV.out] at hy; cases hy; exact HNX2.out, below_drewN HI.out.2 _⟩⟩
      case measure => simp [intOf]; omega
     have es : (v.since == x.since) = false := by simp [hsi]
     have HNX2 : Hid (¬ (v.since = x.since ∧ 0 < x.since)) := fun hh => hsi hh.1
     clear hsi
     go_wp2_with fail
     go_quiet (fail)
     go_wp2
     go_roundw
     case rel => exact ⟨n + 1, by omega, by go_num, ⟨fun m y hm hy => by rcases Nat.lt_succ_iff_lt_or_eq.1 hm with h5 | h5; exact HI.out.1 m y h5 hy; subst h5; rw [HV.out] at hy; cases hy; exact HNX2.out, below_drewN HI.out.2 _⟩⟩
     case measure => simp [intOf]; omega
    ·have j2' : ¬ (n : Int) < (((j + 1) : Nat) : Int) := by omega
     have en : n = (j + 1) := by omega
     have HAP : Hid (ApartD (p.procs.take ((j + 1) + 1))) := apart_snoc HAX.out.2 HA.out.2.1 (fun m y hm hy => HI.out.1 m y (by omega) hy)
     have HY : Hid (thingsB (fun x : ProcD => x.id) (specOk p) 0 (p.procs.take ((j + 1) + 1)) = true) := things_yes HA.out.1 HAX.out.2 HIN.out.1 HLT.out HIN.out.2
     clear en
     have HE : Hid (Below W1.heap.size W1 wi) := HA.out.2.2.trans ((HZW.out.trans (HI.out.2.mono HZW.out.size)).mono HA.out.2.2.size)
     go_wp2
     go_roundw
     case rel => exact ⟨(j + 1) + 1, by omega, by go_num, ⟨HY.out, HAP.out, HE.out⟩⟩
     case measure => simp [intOf]; omega
  ·have i1 : ¬ (k : Int) < (p.procs.length : Int) := by omega
   have ek : p.procs.take k = p.procs := List.take_of_length_le (by omega)
   have HY : Hid (partB p.pure = true) := partB_true ((partR_iff p).2 ⟨H1.out, H2.out, H3.out, H4.out, by have := HA.out.1; rwa [ek] at this, by have := HA.out.2.1; rwa [ek] at this⟩)
   clear ek
   go_wp2
   go_ret
   exact ⟨ret_bool HY.out.symm, HB2.out.2.2⟩

end Go.Proofs.YtkbcplnlehdjfaaGreat

/- A partition in memory of its own. (Made by mklwp.py.) -/
namespace Go.Proofs.YtkbcplnlehdjfaaGreat
open Go.RowKit

def blk (a : Option Addr) : List Nat := (a.map (·.block)).toList
theorem mem_blk {a : Option Addr} {g : Nat} : g ∈ blk a ↔ a.map (·.block) = some g := by
 unfold blk
 cases a <;> simp [eq_comm]
/-- The blocks of a partition's lists. -/
def PartD.blocks (p : PartD) : List Nat := blk p.procA ++ (p.procs.filterMap procN.kid ++ (blk p.semA ++ (blk p.eventA ++ (blk p.boardA ++ (blk p.bufferA ++ (p.buffers.filterMap bufferN.kid ++ (blk p.portA ++ (p.ports.filterMap portN.kid))))))))
/-- All its lists are its own, no two of them in one block. -/
structure PartOwn (w : World) (base : Nat) (p : PartD) : Prop where
 procs : w.ownsRow base 43 12 (.slice p.procA p.procs.length p.procC) p.procs.length (procK.flat p.procs)
 sems : w.ownsRow base 49 3 (.slice p.semA p.sems.length p.semC) p.sems.length (semK.flat p.sems)
 events : w.ownsRow base 138 2 (.slice p.eventA p.events.length p.eventC) p.events.length (eventK.flat p.events)
 boards : w.ownsRow base 141 3 (.slice p.boardA p.boards.length p.boardC) p.boards.length (boardK.flat p.boards)
 buffers : w.ownsRow base 144 3 (.slice p.bufferA p.buffers.length p.bufferC) p.buffers.length (bufferK.flat p.buffers)
 ports : w.ownsRow base 61 5 (.slice p.portA p.ports.length p.portC) p.ports.length (portK.flat p.ports)
 mineP : ∀ x ∈ p.procs, procN.Mine w base x
 mineF : ∀ x ∈ p.buffers, bufferN.Mine w base x
 mineQ : ∀ x ∈ p.ports, portN.Mine w base x
 nodup : p.blocks.Nodup
theorem own_same {w w' : World} {base n size cap : Nat} {e : TypeId} {a : Option Addr} {xs : List Value} (h : w.ownsRow base e size (.slice a n cap) n xs) (hs : ∀ g, g ∈ blk a → w'.heap[g]? = w.heap[g]?) : w'.ownsRow base e size (.slice a n cap) n xs := by
 obtain ⟨hl, h2⟩ := h
 refine ⟨hl, ?_⟩
 rcases h2 with h2 | ⟨g, c, cur, hv, h1, hg, r⟩
 ·exact .inl h2
 ·simp only [Value.slice.injEq] at hv
  exact .inr ⟨g, c, cur, by rw [hv.1, hv.2.2], h1, (hs g (by rw [mem_blk, hv.1]; rfl)).trans hg, r⟩
theorem own_lt {w : World} {base n size cap : Nat} {e : TypeId} {a : Option Addr} {xs : List Value} (h : w.ownsRow base e size (.slice a n cap) n xs) {g : Nat} (hg : g ∈ blk a) : base ≤ g ∧ g < w.heap.size := by
 rcases h.2 with ⟨hv, -⟩ | ⟨g', c, cur, hv, h1, hg', r⟩
 ·simp only [Value.slice.injEq] at hv
  rw [hv.1] at hg
  simp [blk] at hg
 ·simp only [Value.slice.injEq] at hv
  rw [mem_blk, hv.1] at hg
  simp only [Option.map_some, Option.some.injEq] at hg
  subst hg
  exact ⟨h1, (Array.getElem?_eq_some_iff.1 hg').1⟩
theorem mem_kids {α : Type} {N : Nest α} {l : List α} {g : Nat} : g ∈ l.filterMap N.kid ↔ ∃ x ∈ l, N.kid x = some g := List.mem_filterMap
theorem PartOwn.lt {w : World} {base : Nat} {p : PartD} (h : PartOwn w base p) : ∀ g ∈ p.blocks, base ≤ g ∧ g < w.heap.size := fun g hg => by
 simp only [PartD.blocks, List.mem_append] at hg
 rcases hg with hg | hg | hg | hg | hg | hg | hg | hg | hg
 ·exact own_lt h.procs hg
 ·obtain ⟨x, hx, hk⟩ := mem_kids.1 hg
  exact (h.mineP x hx).lt hk
 ·exact own_lt h.sems hg
 ·exact own_lt h.events hg
 ·exact own_lt h.boards hg
 ·exact own_lt h.buffers hg
 ·obtain ⟨x, hx, hk⟩ := mem_kids.1 hg
  exact (h.mineF x hx).lt hk
 ·exact own_lt h.ports hg
 ·obtain ⟨x, hx, hk⟩ := mem_kids.1 hg
  exact (h.mineQ x hx).lt hk
theorem PartOwn.same {w w' : World} {base : Nat} {p : PartD} (h : PartOwn w base p) (hs : ∀ g ∈ p.blocks, w'.heap[g]? = w.heap[g]?) : PartOwn w' base p := by
 have hm : ∀ g, (g ∈ blk p.procA ∨ g ∈ p.procs.filterMap procN.kid ∨ g ∈ blk p.semA ∨ g ∈ blk p.eventA ∨ g ∈ blk p.boardA ∨ g ∈ blk p.bufferA ∨ g ∈ p.buffers.filterMap bufferN.kid ∨ g ∈ blk p.portA ∨ g ∈ p.ports.filterMap portN.kid) → g ∈ p.blocks := fun g hg => by
  simp only [PartD.blocks, List.mem_append]
  exact hg
 exact ⟨own_same h.procs fun g hg => hs g (hm g (.inl hg)), own_same h.sems fun g hg => hs g (hm g (.inr (.inr (.inl hg)))), own_same h.events fun g hg => hs g (hm g (.inr (.inr (.inr (.inl hg))))), own_same h.boards fun g hg => hs g (hm g (.inr (.inr (.inr (.inr (.inl hg)))))), own_same h.buffers fun g hg => hs g (hm g (.inr (.inr (.inr (.inr (.inr (.inl hg))))))), own_same h.ports fun g hg => hs g (hm g (.inr (.inr (.inr (.inr (.inr (.inr (.inr (.inl hg))))))))), fun x hx => (h.mineP x hx).same fun g hk => hs g (hm g (.inr (.inl ((mem_kids.2 ⟨x, hx, hk⟩))))), fun x hx => (h.mineF x hx).same fun g hk => hs g (hm g (.inr (.inr (.inr (.inr (.inr (.inr (.inl ((mem_kids.2 ⟨x, hx, hk⟩)))))))))), fun x hx => (h.mineQ x hx).same fun g hk => hs g (hm g (.inr (.inr (.inr (.inr (.inr (.inr (.inr (.inr ((mem_kids.2 ⟨x, hx, hk⟩))))))))))), h.nodup⟩
theorem PartOwn.below {w w' : World} {base : Nat} {p : PartD} (h : PartOwn w base p) (hb : Below w.heap.size w w') : PartOwn w' base p := h.same fun g hg => hb.block g (h.lt g hg).2
theorem PartOwn.lower {w : World} {base base' : Nat} {p : PartD} (h : PartOwn w base p) (hb : base' ≤ base) : PartOwn w base' p :=
 ⟨own_low h.procs hb, own_low h.sems hb, own_low h.events hb, own_low h.boards hb, own_low h.buffers hb, own_low h.ports hb, fun x hx => (h.mineP x hx).low hb, fun x hx => (h.mineF x hx).low hb, fun x hx => (h.mineQ x hx).low hb, h.nodup⟩
theorem PartOwn.at {w : World} {base : Nat} {p : PartD} (h : PartOwn w base p) : PartD.At w p := by
 refine ⟨⟨own_row h.procs, fun x hx r hr => ?_⟩, ⟨own_row h.sems, fun x hx r hr => ?_⟩, ⟨own_row h.events, fun x hx r hr => ?_⟩, ⟨own_row h.boards, fun x hx r hr => ?_⟩, ⟨own_row h.buffers, fun x hx r hr => ?_⟩, ⟨own_row h.ports, fun x hx r hr => ?_⟩⟩
 ·simp only [procK, List.mem_cons, List.not_mem_nil, or_false] at hr
  subst hr
  exact (h.mineP x hx).row
 ·simp [semK] at hr
 ·simp [eventK] at hr
 ·simp [boardK] at hr
 ·simp only [bufferK, List.mem_cons, List.not_mem_nil, or_false] at hr
  subst hr
  exact (h.mineF x hx).row
 ·simp only [portK, List.mem_cons, List.not_mem_nil, or_false] at hr
  subst hr
  exact (h.mineQ x hx).row

/-- Not too great for a machine. -/
structure PartP.Small (p : PartP) : Prop where
 nProc : p.procs.length ≤ 1048576
 nSem : p.sems.length ≤ 1048576
 nEvent : p.events.length ≤ 1048576
 nBoard : p.boards.length ≤ 1048576
 nBuffer : p.buffers.length ≤ 1048576
 nPort : p.ports.length ≤ 1048576
 procs : ∀ x ∈ p.procs, (x.prog.length ≤ 1048576 ∧ (∀ o ∈ x.prog, o.2.2.2.size ≤ 1048576) ∧ x.held.size ≤ 1048576 ∧ x.got.size ≤ 1048576) ∧ (Lit.int .i64 x.id).wf = true ∧ (Lit.int .i64 x.on).wf = true ∧ (Lit.int .i64 x.since).wf = true
 sems : ∀ x ∈ p.sems, (Lit.int .i64 x.id).wf = true
 events : ∀ x ∈ p.events, (Lit.int .i64 x.id).wf = true
 boards : ∀ x ∈ p.boards, (Lit.int .i64 x.id).wf = true ∧ x.text.size ≤ 1048576
 buffers : ∀ x ∈ p.buffers, (Lit.int .i64 x.id).wf = true ∧ x.items.length ≤ 1048576 ∧ ∀ s ∈ x.items, s.size ≤ 1048576
 ports : ∀ x ∈ p.ports, (Lit.int .i64 x.id).wf = true ∧ x.items.length ≤ 1048576 ∧ ∀ s ∈ x.items, s.size ≤ 1048576
section
variable {p : PartD}
theorem small_short (h : p.pure.Small) : p.Short := by
 have h1 := h.nProc
 have h2 := h.nBuffer
 have h3 := h.nPort
 simp only [PartD.pure, List.length_map] at h1 h2 h3
 exact ⟨h1, h.nSem, h.nEvent, h.nBoard, h2, h3⟩
theorem small_proc (h : p.pure.Small) {x : ProcD} (hx : x ∈ p.procs) : x.Short ∧ x.Wf := by
 have := h.procs x.toProcP (List.mem_map.2 ⟨x, hx, rfl⟩)
 exact ⟨⟨this.1.1, this.1.2.1, this.1.2.2.1, this.1.2.2.2⟩, ⟨this.2.1, this.2.2.1, this.2.2.2⟩⟩
theorem small_buffer (h : p.pure.Small) {x : BufferD} (hx : x ∈ p.buffers) : (Lit.int .i64 x.id).wf = true ∧ x.items.length ≤ 1048576 ∧ ∀ s ∈ x.items, s.size ≤ 1048576 := h.buffers x.toBufferP (List.mem_map.2 ⟨x, hx, rfl⟩)
theorem small_port (h : p.pure.Small) {x : PortD} (hx : x ∈ p.ports) : (Lit.int .i64 x.id).wf = true ∧ x.items.length ≤ 1048576 ∧ ∀ s ∈ x.items, s.size ≤ 1048576 := h.ports x.toPortP (List.mem_map.2 ⟨x, hx, rfl⟩)
theorem small_fit (h : p.pure.Small) : p.Fit := ⟨small_short h, fun b hb => (h.boards b hb).2, fun _ hb => (small_buffer h hb).2, fun _ hb => (small_port h hb).2⟩
theorem small_good (h : p.pure.Small) {w : World} {base : Nat} (ho : PartOwn w base p) : p.Good w :=
 ⟨ho.at, small_short h, fun _ hx => small_proc h hx, h.sems, h.events, h.boards, fun _ hx => small_buffer h hx, fun _ hx => small_port h hx, fun x hx _ hk => ((ho.mineP x hx).lt hk).2, fun x hx _ hk => ((ho.mineF x hx).lt hk).2, fun x hx _ hk => ((ho.mineQ x hx).lt hk).2⟩
end

/-- What holds in every world that keeps what was made from lo on. -/
def Keeps (lo : Nat) (F : World → Prop) (W : World) : Prop := ∀ W', (∀ g, lo ≤ g → g < W.heap.size → W'.heap[g]? = W.heap[g]?) → W.heap.size ≤ W'.heap.size → F W'
theorem Keeps.here {lo : Nat} {F : World → Prop} {W : World} (h : Keeps lo F W) : F W := h W (fun _ _ _ => rfl) (Nat.le_refl _)
theorem Keeps.step {lo : Nat} {F : World → Prop} {W W1 : World} (h : Keeps lo F W) (hs : ∀ g, lo ≤ g → g < W.heap.size → W1.heap[g]? = W.heap[g]?) (hz : W.heap.size ≤ W1.heap.size) : Keeps lo F W1 := fun W' h' hz' =>
 h W' (fun g h1 h2 => (h' g h1 (by omega)).trans (hs g h1 h2)) (by omega)
theorem keep_call {lo i : Nat} {F : World → Prop} {W w1 : World} {v : Value} (h : Keeps (lo + 1) F W) (hb : Below W.heap.size W w1) : Keeps (lo + 1) F (w1.setCell ⟨lo, i, none⟩ v) :=
 h.step (fun g h1 h2 => (Below.heap_setCell w1 _ v g (by show ¬ g = lo; omega)).trans (hb.block g h2)) (by have := hb.size; simp [World.setCell]; omega)

end Go.Proofs.YtkbcplnlehdjfaaGreat

/- Lists that are marked, cell by cell, and read again: what all kinds have in common. -/
namespace Go.Proofs.YtkbcplnlehdjfaaGreat
open Go.RowKit

/-- All but some blocks are as they were. -/
structure KeptBut (w w' : World) (bs : List Nat) : Prop where
 os : w'.os = w.os
 tape : w'.tape = w.tape
 output : w'.output = w.output
 size : w.heap.size ≤ w'.heap.size
 same : ∀ g, g < w.heap.size → g ∉ bs → w'.heap[g]? = w.heap[g]?
section
variable {w w1 w2 : World} {bs bs' : List Nat}
theorem KeptBut.refl (w : World) (bs : List Nat) : KeptBut w w bs := ⟨rfl, rfl, rfl, Nat.le_refl _, fun _ _ _ => rfl⟩
theorem KeptBut.trans (h : KeptBut w w1 bs) (h' : KeptBut w1 w2 bs) : KeptBut w w2 bs :=
 ⟨h'.os.trans h.os, h'.tape.trans h.tape, h'.output.trans h.output, Nat.le_trans h.size h'.size, fun g hg hn => (h'.same g (Nat.lt_of_lt_of_le hg h.size) hn).trans (h.same g hg hn)⟩
theorem KeptBut.mono (h : KeptBut w w1 bs) (hs : ∀ g ∈ bs, g ∈ bs') : KeptBut w w1 bs' := ⟨h.os, h.tape, h.output, h.size, fun g hg hn => h.same g hg fun hm => hn (hs g hm)⟩
theorem KeptBut.of_below (h : Below w.heap.size w w1) : KeptBut w w1 bs := ⟨h.os, h.tape, h.output, h.size, fun g hg _ => h.block g hg⟩
theorem KeptBut.below {base : Nat} (h : KeptBut w w1 bs) (hb : base ≤ w.heap.size) (hs : ∀ g ∈ bs, base ≤ g) : Below base w w1 := ⟨h.os, h.tape, h.output, h.size, fun g hg => h.same g (by omega) fun hm => by have := hs g hm; omega⟩
theorem KeptBut.set {g off : Nat} (vs : List Value) (hg : g ∈ bs) : KeptBut w (setAllW w g off vs) bs :=
 have hb : ∀ (vs : List Value) (w : World) (off : Nat), (setAllW w g off vs).os = w.os ∧ (setAllW w g off vs).tape = w.tape ∧ (setAllW w g off vs).output = w.output := fun vs => by
  induction vs with
  | nil => exact fun _ _ => ⟨rfl, rfl, rfl⟩
  | cons v r ih => exact fun w off => ih (w.setCell ⟨g, off, none⟩ v) (off + 1)
 ⟨(hb vs w off).1, (hb vs w off).2.1, (hb vs w off).2.2, by rw [setAllW_size]; exact Nat.le_refl _, fun k _ hn => setAllW_other vs fun e => hn (by rw [e]; exact hg)⟩
end

theorem setAll_high : ∀ (vs : List Value) (cur : Array Value) (off j : Nat), off + vs.length ≤ j → (setAll cur off vs)[j]? = cur[j]?
 | [], _, _, _, _ => rfl
 | v :: r, cur, off, j, h => by
  simp only [List.length_cons] at h
  rw [setAll, setAll_high r _ _ _ (by omega), Array.getElem?_setIfInBounds_ne (by omega)]

section
variable {α : Type} {K : Kind α}
theorem Kind.flat_ext {xs : List Value} {l : List α} (hl : xs.length = l.length * K.n) (h : ∀ i y r, l[i]? = some y → r < K.n → xs[i * K.n + r]? = (K.vals y)[r]?) : xs = K.flat l := by
 apply List.ext_getElem?
 intro q
 by_cases hq : q < l.length * K.n
 ·have hi : q / K.n < l.length := Nat.div_lt_of_lt_mul (by rw [Nat.mul_comm]; exact hq)
  have hr : q % K.n < K.n := Nat.mod_lt _ K.pos
  have e : q / K.n * K.n + q % K.n = q := by rw [Nat.mul_comm]; exact Nat.div_add_mod q K.n
  obtain ⟨y, hy⟩ : ∃ y, l[q / K.n]? = some y := ⟨_, List.getElem?_eq_getElem hi⟩
  have h1 := h _ y _ hy hr
  rw [← K.flat_get hy hr, e] at h1
  exact h1
 ·rw [List.getElem?_eq_none (by omega), List.getElem?_eq_none (by rw [K.flat_length]; omega)]
/-- Some cells of one element are stored anew. -/
theorem row_part {cur : Array Value} {A B : List α} {x y : α} {j : Nat} {vs : List Value} (h : cur.toList.take ((A ++ x :: B).length * K.n) = K.flat (A ++ x :: B)) (hs : (A ++ x :: B).length * K.n ≤ cur.size) (hj : j + vs.length ≤ K.n)
  (h1 : ∀ r, r < vs.length → (K.vals y)[j + r]? = vs[r]?) (h2 : ∀ r, r < K.n → ¬ (j ≤ r ∧ r < j + vs.length) → (K.vals y)[r]? = (K.vals x)[r]?) :
  (setAll cur (A.length * K.n + j) vs).toList.take ((A ++ y :: B).length * K.n) = K.flat (A ++ y :: B) := by
 have hlen : (A ++ y :: B).length = (A ++ x :: B).length := by simp
 have hA : A.length < (A ++ x :: B).length := by rw [List.length_append, List.length_cons]; omega
 have hle : A.length * K.n + K.n ≤ (A ++ x :: B).length * K.n := by rw [← Nat.succ_mul]; exact Nat.mul_le_mul_right _ hA
 have hcur : ∀ q, q < (A ++ x :: B).length * K.n → cur[q]? = (K.flat (A ++ x :: B))[q]? := fun q hq => by
  rw [← h, List.getElem?_take, if_pos hq, Array.getElem?_toList]
 have e0 : (setAll cur (A.length * K.n + j) vs).toList.length = cur.size := by rw [Array.length_toList, setAll_size]
 refine Kind.flat_ext (by rw [List.length_take, e0, hlen]; omega) fun i z r hz hr => ?_
 have hi : i < (A ++ x :: B).length := by rw [← hlen]; exact (List.getElem?_eq_some_iff.1 hz).1
 have hq : i * K.n + r < (A ++ x :: B).length * K.n := by
  have : (i + 1) * K.n ≤ (A ++ x :: B).length * K.n := Nat.mul_le_mul_right _ hi
  rw [Nat.succ_mul] at this
  omega
 rw [List.getElem?_take, hlen, if_pos hq, Array.getElem?_toList]
 by_cases e : i = A.length
 ·subst e
  have hzy : z = y := by
   rw [List.getElem?_append_right (Nat.le_refl _)] at hz
   simpa using hz.symm
  subst hzy
  have hx : (A ++ x :: B)[A.length]? = some x := by rw [List.getElem?_append_right (Nat.le_refl _)]; simp
  by_cases hr2 : j ≤ r ∧ r < j + vs.length
  ·obtain ⟨d, rfl⟩ : ∃ d, r = j + d := ⟨r - j, by omega⟩
   rw [h1 d (by omega), show A.length * K.n + (j + d) = A.length * K.n + j + d by omega, List.getElem?_eq_getElem (by omega)]
   exact setAll_at vs cur (A.length * K.n + j) d _ (by omega) (List.getElem?_eq_getElem (by omega))
  ·rw [h2 r hr hr2, ← K.flat_get hx hr, ← hcur _ hq]
   by_cases h3 : r < j
   ·exact setAll_low vs cur _ _ (by omega)
   ·exact setAll_high vs cur _ _ (by omega)
 ·have hx : (A ++ x :: B)[i]? = some z := by
   by_cases h3 : i < A.length
   ·rw [List.getElem?_append_left h3] at hz ⊢
    exact hz
   ·rw [List.getElem?_append_right (by omega)] at hz ⊢
    obtain ⟨d, hd⟩ : ∃ d, i - A.length = d + 1 := ⟨i - A.length - 1, by omega⟩
    rw [hd] at hz ⊢
    exact hz
  rw [← K.flat_get hx hr, ← hcur _ hq]
  by_cases h3 : i < A.length
  ·have : (i + 1) * K.n ≤ A.length * K.n := Nat.mul_le_mul_right _ h3
   rw [Nat.succ_mul] at this
   exact setAll_low vs cur _ _ (by omega)
  ·have : (A.length + 1) * K.n ≤ i * K.n := Nat.mul_le_mul_right _ (by omega)
   rw [Nat.succ_mul] at this
   exact setAll_high vs cur _ _ (by omega)

/-- A list lies in its own block g. -/
def RowAt (K : Kind α) (T : TypeId) (w : World) (base g cap : Nat) (l : List α) : Prop := ∃ cur : Array Value, w.heap[g]? = some (.cells cur T (0, 0)) ∧ base ≤ g ∧ l.length ≤ cap ∧ cap ≤ maxLen ∧ cur.size = cap * K.n ∧ cur.toList.take (l.length * K.n) = K.flat l
theorem RowAt.owns {T : TypeId} {w : World} {base g cap : Nat} {l : List α} (h : RowAt K T w base g cap l) : w.ownsRow base T K.n (.slice (some ⟨g, 0, none⟩) l.length cap) l.length (K.flat l) := by
 obtain ⟨cur, h1, h2, h3, h4, h5, h6⟩ := h
 exact ⟨K.flat_length l, .inr ⟨g, cap, cur, rfl, h2, h1, h3, h4, h5, h6⟩⟩
theorem RowAt.of_owns {T : TypeId} {w : World} {base cap : Nat} {a : Option Addr} {l : List α} (h : w.ownsRow base T K.n (.slice a l.length cap) l.length (K.flat l)) (hl : ¬ l.length = 0) : ∃ g, a = some ⟨g, 0, none⟩ ∧ RowAt K T w base g cap l := by
 rcases h.2 with ⟨_, h0⟩ | ⟨g, c, cur, hv, h1, h2, h3, h4, h5, h6⟩
 ·exact absurd h0 hl
 ·simp only [Value.slice.injEq] at hv
  obtain ⟨rfl, -, rfl⟩ := hv
  exact ⟨g, rfl, cur, h2, h1, h3, h4, h5, h6⟩
theorem RowAt.same {T : TypeId} {w w' : World} {base g cap : Nat} {l : List α} (h : RowAt K T w base g cap l) (hs : w'.heap[g]? = w.heap[g]?) : RowAt K T w' base g cap l := by
 obtain ⟨cur, h1, h2⟩ := h
 exact ⟨cur, hs.trans h1, h2⟩
theorem RowAt.lt {T : TypeId} {w : World} {base g cap : Nat} {l : List α} (h : RowAt K T w base g cap l) : g < w.heap.size := by
 obtain ⟨cur, h1, _⟩ := h
 exact (Array.getElem?_eq_some_iff.1 h1).1
theorem RowAt.cell {T : TypeId} {w : World} {base g cap : Nat} {l : List α} (h : RowAt K T w base g cap l) {i : Nat} {x : α} (hx : l[i]? = some x) {r : Nat} (hr : r < K.n) : w.cell? ⟨g, i * K.n + r, none⟩ = (K.vals x)[r]? ∧ w.frozen? ⟨g, i * K.n + r, none⟩ = false := by
 obtain ⟨cur, h1, h2, h3, h4, h5, h6⟩ := h
 refine ⟨?_, frozen_of_row _ _ _ _ _ h1⟩
 have hi : i < l.length := (List.getElem?_eq_some_iff.1 hx).1
 have hq : i * K.n + r < l.length * K.n := by
  have : (i + 1) * K.n ≤ l.length * K.n := Nat.mul_le_mul_right _ hi
  rw [Nat.succ_mul] at this
  omega
 rw [cell_of_row _ _ _ _ _ _ h1, ← K.flat_get hx hr, ← h6, List.getElem?_take, if_pos hq, Array.getElem?_toList]
theorem RowAt.part {T : TypeId} {w : World} {base g cap : Nat} {A B : List α} {x y : α} {j : Nat} {vs : List Value} (h : RowAt K T w base g cap (A ++ x :: B)) (hj : j + vs.length ≤ K.n)
  (h1 : ∀ r, r < vs.length → (K.vals y)[j + r]? = vs[r]?) (h2 : ∀ r, r < K.n → ¬ (j ≤ r ∧ r < j + vs.length) → (K.vals y)[r]? = (K.vals x)[r]?) :
  RowAt K T (setAllW w g (A.length * K.n + j) vs) base g cap (A ++ y :: B) := by
 obtain ⟨cur, c1, c2, c3, c4, c5, c6⟩ := h
 have hl : (A ++ y :: B).length = (A ++ x :: B).length := by simp
 refine ⟨_, setAllW_heap vs c1, c2, by rw [hl]; exact c3, c4, by rw [setAll_size]; exact c5, ?_⟩
 exact row_part c6 (by rw [c5]; exact Nat.mul_le_mul_right _ c3) hj h1 h2

theorem RowAt.at_mid {T : TypeId} {w : World} {base g cap j : Nat} {A B : List α} {x : α} (h : RowAt K T w base g cap (A ++ x :: B)) (hA : A.length = j) {r : Nat} (hr : r < K.n) : (∃ u, w.cell? ⟨g, j * K.n + r, none⟩ = some u) ∧ w.frozen? ⟨g, j * K.n + r, none⟩ = false := by
 have hx : (A ++ x :: B)[j]? = some x := by
  subst hA
  rw [List.getElem?_append_right (Nat.le_refl _)]
  simp
 obtain ⟨h1, h2⟩ := h.cell hx hr
 rw [List.getElem?_eq_getElem (by rw [K.len]; exact hr)] at h1
 exact ⟨⟨_, h1⟩, h2⟩
theorem RowAt.mid_cell {T : TypeId} {w : World} {base g cap j : Nat} {A B : List α} {x : α} (h : RowAt K T w base g cap (A ++ x :: B)) (hA : A.length = j) {r : Nat} (hr : r < K.n) : w.cell? ⟨g, j * K.n + r, none⟩ = (K.vals x)[r]? := by
 have hx : (A ++ x :: B)[j]? = some x := by
  subst hA
  rw [List.getElem?_append_right (Nat.le_refl _)]
  simp
 exact (h.cell hx hr).1
theorem drop_at {l : List α} {k : Nat} {x : α} (hx : l[k]? = some x) : l.drop k = x :: l.drop (k + 1) := by
 obtain ⟨hk, rfl⟩ := List.getElem?_eq_some_iff.1 hx
 exact List.drop_eq_getElem_cons hk
/-- Each element turned by its mark, which counts on. -/
def markL (f : Int → α → α) (c : α → Nat) : Int → List α → List α
 | _, [] => []
 | k, x :: r => f k x :: markL f c (k + c x) r
def cntL (c : α → Nat) : List α → Nat
 | [] => 0
 | x :: r => c x + cntL c r
theorem cntL_append (c : α → Nat) : ∀ l r : List α, cntL c (l ++ r) = cntL c l + cntL c r
 | [], r => by simp [cntL]
 | x :: l, r => by simp only [List.cons_append, cntL, cntL_append c l r]; omega
theorem markL_append (f : Int → α → α) (c : α → Nat) : ∀ (k : Int) (l r : List α), markL f c k (l ++ r) = markL f c k l ++ markL f c (k + cntL c l) r
 | k, [], r => by simp [markL, cntL]
 | k, x :: l, r => by
  simp only [List.cons_append, markL, cntL, markL_append f c (k + c x) l r]
  rw [show k + (c x : Int) + (cntL c l : Int) = k + ((c x + cntL c l : Nat) : Int) by omega]
theorem markL_length (f : Int → α → α) (c : α → Nat) : ∀ (k : Int) (l : List α), (markL f c k l).length = l.length
 | _, [] => rfl
 | k, x :: r => by simp [markL, markL_length f c (k + c x) r]
theorem cntL_const {c : α → Nat} {n : Nat} (h : ∀ x, c x = n) : ∀ l : List α, cntL c l = l.length * n
 | [] => by simp [cntL]
 | x :: r => by rw [cntL, h x, cntL_const h r, List.length_cons, Nat.succ_mul]; omega
theorem cntL_take_lt {c : α → Nat} {l : List α} {i : Nat} {x : α} (hx : l[i]? = some x) : cntL c (l.take i) + c x ≤ cntL c l := by
 have e := split_at hx
 have : cntL c l = cntL c (l.take i ++ x :: l.drop (i + 1)) := by rw [← e]
 rw [this, cntL_append, cntL]
 omega
theorem cntL_up {c : α → Nat} {l : List α} {i : Nat} {x : α} (hx : l[i]? = some x) : cntL c (l.take (i + 1)) = cntL c (l.take i) + c x := by
 rw [take_up hx, cntL_append]
 simp [cntL]
theorem markL_get {f : Int → α → α} {c : α → Nat} {k : Int} {l : List α} {i : Nat} {x : α} (hx : l[i]? = some x) : (markL f c k l)[i]? = some (f (k + cntL c (l.take i)) x) := by
 have hi : i < l.length := (List.getElem?_eq_some_iff.1 hx).1
 have e : markL f c k l = markL f c k (l.take i ++ x :: l.drop (i + 1)) := by rw [← split_at hx]
 have hn : (markL f c k (l.take i)).length = i := by rw [markL_length, List.length_take]; omega
 rw [e, markL_append, List.getElem?_append_right (by omega), hn, Nat.sub_self]
 rfl
theorem markL_up {f : Int → α → α} {c : α → Nat} {k : Int} {l : List α} {i : Nat} {x : α} (hx : l[i]? = some x) : markL f c k (l.take (i + 1)) = markL f c k (l.take i) ++ [f (k + cntL c (l.take i)) x] := by
 rw [take_up hx, markL_append]
 rfl
end

end Go.Proofs.YtkbcplnlehdjfaaGreat

/- Lists of things that have a list each, while they are marked: whose list is whose. -/
namespace Go.Proofs.YtkbcplnlehdjfaaGreat
open Go.RowKit

section
variable {α : Type} {N : Nest α} {w w' : World} {base g : Nat} {A B : List α} {x y : α}
/-- Every thing's list is its own, no two in one block, none in the block of the things themselves. -/
structure Mines (N : Nest α) (w : World) (base g : Nat) (l : List α) : Prop where
 mine : ∀ z ∈ l, N.Mine w base z
 nodup : (g :: l.filterMap N.kid).Nodup
theorem Mines.keep {l : List α} (h : Mines N w base g l) (hk : KeptBut w w' [g]) : Mines N w' base g l :=
 ⟨fun z hz => (h.mine z hz).same fun b hb => hk.same b ((h.mine z hz).lt hb).2 fun hm => by
  simp only [List.mem_cons, List.not_mem_nil, or_false] at hm
  subst hm
  exact (List.nodup_cons.1 h.nodup).1 (List.mem_filterMap.2 ⟨z, hz, hb⟩), h.nodup⟩
/-- The thing itself turns, its list stays. -/
theorem Mines.turn (h : Mines N w base g (A ++ x :: B)) (hk : N.kid y = N.kid x) (hm : N.Mine w base y) : Mines N w base g (A ++ y :: B) := by
 refine ⟨fun z hz => ?_, ?_⟩
 ·rcases List.mem_append.1 hz with hz | hz
  ·exact h.mine z (List.mem_append_left _ hz)
  ·rcases List.mem_cons.1 hz with rfl | hz
   ·exact hm
   ·exact h.mine z (List.mem_append_right _ (List.mem_cons_of_mem _ hz))
 ·have := h.nodup
  rw [List.filterMap_append, List.filterMap_cons] at this ⊢
  rw [hk]
  exact this
/-- Its list alone is written into. -/
theorem Mines.inner (h : Mines N w base g (A ++ x :: B)) (hw : KeptBut w w' (blk (N.ad x))) (hk : N.kid y = N.kid x) (hm : N.Mine w' base y) : Mines N w' base g (A ++ y :: B) := by
 have hmem : ∀ b, b ∈ blk (N.ad x) ↔ N.kid x = some b := fun b => mem_blk
 have hn := (List.nodup_cons.1 h.nodup).2
 rw [List.filterMap_append] at hn
 have key : ∀ z ∈ A ++ B, ∀ b, N.kid z = some b → ¬ N.kid x = some b := fun z hz b hb hx => by
  rw [List.nodup_append] at hn
  rcases List.mem_append.1 hz with hz | hz
  ·exact hn.2.2 b (List.mem_filterMap.2 ⟨z, hz, hb⟩) b (List.mem_filterMap.2 ⟨x, by simp, hx⟩) rfl
  ·have h2 := hn.2.1
   rw [List.filterMap_cons, hx, List.nodup_cons] at h2
   exact h2.1 (List.mem_filterMap.2 ⟨z, hz, hb⟩)
 have hz : ∀ z ∈ A ++ B, N.Mine w base z → N.Mine w' base z := fun z hz hmz => hmz.same fun b hb => hw.same b (hmz.lt hb).2 fun hm' => key z hz b hb ((hmem b).1 hm')
 refine ⟨fun z hz' => ?_, ?_⟩
 ·rcases List.mem_append.1 hz' with h1 | h1
  ·exact hz z (List.mem_append_left _ h1) (h.mine z (List.mem_append_left _ h1))
  ·rcases List.mem_cons.1 h1 with rfl | h1
   ·exact hm
   ·exact hz z (List.mem_append_right _ h1) (h.mine z (List.mem_append_right _ (List.mem_cons_of_mem _ h1)))
 ·have := h.nodup
  rw [List.filterMap_append, List.filterMap_cons] at this ⊢
  rw [hk]
  exact this
/-- The block of the things is not one of their lists. -/
theorem Mines.apart {l : List α} (h : Mines N w base g l) {z : α} (hz : z ∈ l) : g ∉ blk (N.ad z) := fun hm =>
 (List.nodup_cons.1 h.nodup).1 (List.mem_filterMap.2 ⟨z, hz, mem_blk.1 hm⟩)
end

end Go.Proofs.YtkbcplnlehdjfaaGreat

/- The text that a mark is. -/
namespace Go.Proofs.YtkbcplnlehdjfaaGreat
open Go.RowKit

/-- A number in decimal. -/
def decB (n : Int) : ByteArray := ⟨(Lib.itoa n).toArray⟩
theorem itoa_pos {n : Int} (h : 0 ≤ n) : Lib.itoa n = Lib.decDigits n.toNat := by
 unfold Lib.itoa
 rw [if_neg (by omega)]

theorem dec_len : ∀ (k u : Nat), u < 10 ^ (k + 1) → (Lib.decDigits u).length ≤ k + 1
 | 0, u, h => by rw [Lib.decDigits, dif_pos (by simpa using h)]; simp
 | k + 1, u, h => by
  by_cases h1 : u < 10
  ·rw [Lib.decDigits, dif_pos h1]; simp
  ·rw [Lib.decDigits, dif_neg h1]
   have := dec_len k (u / 10) (by rw [Nat.pow_succ] at h; omega)
   simp; omega
theorem dec_len10 {n : Int} (h : n ≤ 9999999999) : (Lib.decDigits n.toNat).length ≤ 10 := dec_len 9 _ (by simp; omega)
theorem dec_step {a n : Int} {s : ByteArray} (h10 : 10 ≤ a) (h : Lib.decDigits a.toNat ++ s.data.toList = Lib.decDigits n.toNat) :
  Lib.decDigits (a / 10).toNat ++ ((⟨#[UInt8.ofNat (48 + a % 10).toNat]⟩ : ByteArray) ++ s).data.toList = Lib.decDigits n.toNat := by
 rw [← h, Lib.decDigits.eq_def a.toNat, dif_neg (by omega)]
 have e1 : (a / 10).toNat = a.toNat / 10 := by omega
 have e2 : (48 + a % 10).toNat = 48 + a.toNat % 10 := by omega
 simp [e1, e2, ByteArray.data_append]

/-- string of a slice of one byte that has just been laid. -/
theorem conv_one (W : World) (c : Int) : (convert 22 9 (.slice (some ⟨W.heap.size, 0, none⟩) 1 1)).run Tryz.prog (W.alloc (.cells #[.int .u8 c] 5)) = .ok (.string ⟨#[UInt8.ofNat c.toNat]⟩) (W.alloc (.cells #[.int .u8 c] 5)) := by
 rw [run_convert_bytes_string _ 22 9 5 _ 1 1 Tryz.underlying22 Tryz.underlying5 Tryz.underlying9]
 rw [run_bytesToString _ ⟨W.heap.size, 0, none⟩ 1 1 [c] (by simp [go_sem])]
 rfl

theorem bytes_eq {a b : ByteArray} (h : a.data.toList = b.data.toList) : a = b := by
 apply ByteArray.ext
 apply Array.ext'
 exact h
theorem bytes_nil {a : ByteArray} (h : a.data.toList = []) : a = ⟨#[]⟩ := bytes_eq h
theorem decB_list (n : Int) : (decB n).data.toList = Lib.itoa n := by simp [decB]

/-- The text that a mark is. -/
def markB (n : Int) : ByteArray := ⟨#[109]⟩ ++ decB n
def digs (a : Int) : List UInt8 := if a = 0 then [] else Lib.decDigits a.toNat
theorem digs_step {a n : Int} {s : ByteArray} (h0 : 0 < a) (h : digs a ++ s.data.toList = Lib.decDigits n.toNat) : digs (a / 10) ++ ((⟨#[UInt8.ofNat (48 + a % 10).toNat]⟩ : ByteArray) ++ s).data.toList = Lib.decDigits n.toNat := by
 rw [digs, if_neg (by omega)] at h
 have e2 : (48 + a % 10).toNat = 48 + a.toNat % 10 := by omega
 by_cases h10 : 10 ≤ a
 ·rw [digs, if_neg (by omega)]
  exact dec_step h10 h
 ·rw [digs, if_pos (by omega), ← h, Lib.decDigits, dif_pos (by omega), e2, Nat.mod_eq_of_lt (by omega)]
  simp [ByteArray.data_append]
theorem markB_of {n : Int} {s : ByteArray} (h0 : 1 ≤ n) (h : s.data.toList = Lib.decDigits n.toNat) : (⟨#[109]⟩ : ByteArray) ++ s = markB n := by
 have : s = decB n := bytes_eq (by rw [h, decB_list, itoa_pos (by omega)])
 rw [this, markB]

set_option maxHeartbeats 1000000 in
theorem markText_any (n : Int) (hn0 : 1 ≤ n) (hn : n ≤ 99999999) (w : World) :
  Calls Tryz.prog 134 #[.int .i64 n] w fun e w' => e = .returned (.string (markB n)) ∧ Below w.heap.size w w' := by
 have h0 : ¬ n ≤ 0 := by omega
 have hcv := conv_one
 have HN : Hid (1 ≤ n ∧ n ≤ 99999999) := ⟨hn0, hn⟩
 clear hn0 hn
 go_enter Tryz.func134, Tryz.ntmps134
 go_wp2
 clear h0
 go_loopw [0, 3] (fun i t wr => ∃ (a : Int) (s : ByteArray), i = .int .i64 a ∧ t = .string s ∧ Hid (0 ≤ a ∧ a ≤ n ∧ digs a ++ s.data.toList = Lib.decDigits n.toNat) ∧ Below w.heap.size w wr) (fun i _ _ => (intOf i).toNat)
 case atStart => exact ⟨n, ⟨#[]⟩, rfl, rfl, ⟨by have := HN.out; omega, Int.le_refl _, by rw [digs, if_neg (by have := HN.out; omega)]; simp⟩, Below.refl _ _⟩
 case round =>
  obtain ⟨a, s, rfl, rfl, HD, hbel⟩ := hrel
  have hs : ¬ 9223372036854775807 < 1 + s.size := by
   have h1 := congrArg List.length HD.out.2.2
   have h2 := dec_len10 (n := n) (by have := HN.out; omega)
   have h3 : s.data.toList.length = s.size := by simp
   rw [List.length_append] at h1
   omega
  by_cases h10 : 0 < a
  ·have e1 : wrap64 (48 + a.tmod 10) % 256 = 48 + a % 10 := by
    have := HD.out
    rw [Int.tmod_eq_emod_of_nonneg (by omega)]
    unfold wrap64; omega
   have e2 : a.tdiv 10 = a / 10 := Int.tdiv_eq_ediv_of_nonneg (by have := HD.out; omega)
   have e3 : wrap64 (a / 10) = a / 10 := by have := HD.out; have := HN.out; unfold wrap64; omega
   go_wp2
   go_roundw
   case rel =>
    refine ⟨a / 10, _, by rw [e3], rfl, ?_, hbel.alloc hbel.size _⟩
    have HD' := HD.out
    refine ⟨by omega, by omega, ?_⟩
    exact digs_step h10 HD'.2.2
   case measure => simp only [intOf]; have := HD.out; omega
  ·have HS : Hid (s.data.toList = Lib.decDigits n.toNat) := by
    have h := HD.out
    have h2 := h.2.2
    rw [digs, if_pos (by omega)] at h2
    rw [List.nil_append] at h2
    exact h2
   go_wp2
   go_ret
   refine ⟨?_, hbel⟩
   show Ending.returned (.string ((⟨#[109]⟩ : ByteArray) ++ s)) = _
   rw [markB_of HN.out.1 HS.out]


end Go.Proofs.YtkbcplnlehdjfaaGreat
