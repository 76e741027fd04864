/- What the proof leans on, part 3: SoSem, LyEvent, SoEvent, LyBoard, SoBoard, LyBuffer, SoBuffer, LyPort. -/
import Derived.Test.YtkbcplnlehdjfaaGreatOwn0
import Derived.Test.YtkbcplnlehdjfaaGreatOwn1
import Derived.Test.YtkbcplnlehdjfaaGreatOwn2

namespace Go.Proofs.YtkbcplnlehdjfaaGreat
open Go.RowKit
attribute [local go_sem ↓] Go.wp_at_zero Go.wp_at_succ

/-- What holds at the head of each round. -/
def ShSemAt (w : World) (most : Int) (list : List SemD) (k : Nat) (wr : World) : Prop :=
  ∃ l : List (SemD × Nat), l.map (·.1) = list.take k ∧ ShIn semVs (fun x : SemD => x.id) 49 113 w wr most l ∧ thingsB (fun x : SemD => x.id) (fun x : SemD => semB x) 0 (list.take k) = true ∧ (k : Int) ≤ max most 0

set_option maxRecDepth 100000 in
set_option maxHeartbeats 4000000 in
theorem shelfOfSem_any (a : Option Addr) (list : List SemD) (cap : Nat) (most : Int) (w : World) (hl : list.length ≤ 1048576) (h : semK.Lies w a list) (hf : ∀ x ∈ list, SemFit w x) (hw : ∀ x ∈ list, (Lit.int .i64 x.id).wf = true) :
    Calls Tryz.prog 148 #[.slice a list.length cap, .int .i64 most] w fun e w' => ShelfEnds semVs (fun x : SemD => x.id) 49 w most (thingsB (fun x : SemD => x.id) (fun x : SemD => semB x) 0 list && decide ((list.length : Int) ≤ max most 0)) list e w' := by
  have hmk := run_makeMap (P := Tryz.prog) 111
  have hmn := meth_numberSem
  have H0 : Hid (ShIn semVs (fun x : SemD => x.id) 49 113 w (((w.alloc (.cells #[.int .i64 0, .map none] 113)).alloc (.map #[] 0)).alloc (.cells #[.int .i64 most, .map (some (w.heap.size + 1))] 113)) most []) := ShIn.start 113 w most
  have HL : Hid (semK.Lies w a list ∧ (∀ x ∈ list, SemFit w x) ∧ ∀ x ∈ list, (Lit.int .i64 x.id).wf = true) := ⟨h, hf, hw⟩
  clear h hf hw
  go_enter Tryz.func148, Tryz.ntmps148
  go_wp2_with fail
  go_loopw [7, 15] (fun last i wr => ∃ k : Nat, k ≤ list.length ∧ i = .int .i64 k ∧ last = .int .i64 (lastOf (fun x : SemD => x.id) 0 (list.take k)) ∧ Hid (ShSemAt w most list k wr)) (fun _ i _ => list.length - (intOf i).toNat)
  case atStart => exact ⟨0, Nat.zero_le _, rfl, rfl, ⟨[], by simp, H0.out, rfl, by simp; omega⟩⟩
  case round =>
    clear H0 hmk
    obtain ⟨k, hk, rfl, rfl, HA⟩ := hrel
    obtain ⟨l, hlm, hin, hth, hkm⟩ := HA.out
    have HT : Hid (l.map (·.1) = list.take k ∧ thingsB (fun x : SemD => x.id) (fun x : SemD => semB x) 0 (list.take k) = true ∧ (k : Int) ≤ max most 0) := ⟨hlm, hth, hkm⟩
    have HI : Hid (ShIn semVs (fun x : SemD => x.id) 49 113 w wr most l) := hin
    clear HA hlm hin hth hkm
    by_cases hlt : k < list.length
    · have i0 : (0 : Int) ≤ (k : Int) := by omega
      have i1 : (k : Int) < (list.length : Int) := by omega
      obtain ⟨x, hx⟩ : ∃ x, list[k]? = some x := ⟨_, List.getElem?_eq_getElem hlt⟩
      have hmem := List.mem_of_getElem? hx
      have HX : Hid (list[k]? = some x) := hx
      have HF : Hid (SemFit w x ∧ (Lit.int .i64 x.id).wf = true) := ⟨HL.out.2.1 x hmem, HL.out.2.2 x hmem⟩
      obtain ⟨gs, ha, hat⟩ := sem_at (HL.out.1.below HI.out.bel) hx
      obtain ⟨c0, c1, c2⟩ := hat
      subst ha
      clear hx hmem
      go_wp2_with fail
      refine (numberSem_any x _).mono ?_
      rintro e w2 ⟨rfl, hb2⟩
      have HI2 : Hid (ShIn semVs (fun x : SemD => x.id) 49 113 w w2 most l) := (HI.out.below ((Below.refl _ wr).alloc (Nat.le_refl _) (.cells #[.int .i64 x.id, .int .i64 x.n, .int .i64 x.max] 49))).below hb2
      have HB : Hid (w2.heap[wr.heap.size]? = some (.cells (semVs x) 49 (0, 0))) := (hb2.block _ (by simp)).trans (heap_alloc_new _ _)
      have HZ : Hid (w.heap.size + 1 < wr.heap.size) := by show w.heap.size + 1 < wr.heap.size; have := (Array.getElem?_eq_some_iff.1 HI.out.var).1; omega
      clear hb2 HI c0 c1 c2
      obtain ⟨d0, d1, d2⟩ := sem_cells HB.out
      obtain ⟨r0, r1, v0, v1, z0, z1⟩ := HI2.out.cells
      by_cases hle : x.id ≤ lastOf (fun x : SemD => x.id) 0 (list.take k)
      · have HN : Hid ((thingsB (fun x : SemD => x.id) (fun x : SemD => semB x) 0 list && decide ((list.length : Int) ≤ max most 0)) = false) := by
          show _ = false
          rw [things_no HX.out (fun hh => absurd hh.2.1 (by show ¬ lastOf (fun x : SemD => x.id) 0 (list.take k) < x.id; omega))]; rfl
        go_wp2
        refine bodyPost_ret (v := .tuple #[.agg #[.int .i64 0, .map none], .bool false]) (by simp [results, Tryz.results148, go_sem, *]) rfl ?_
        exact ⟨(HI2.out.away _ _).2, .inl ⟨HN.out, rfl⟩⟩
      have HLT : Hid (lastOf (fun x : SemD => x.id) 0 (list.take k) < x.id) := by show _ < _; omega
      have hkl : (keysOf (fun x : SemD => x.id) l).length ≤ 1048576 := by
        rw [keysOf_length]
        have := congrArg List.length HT.out.1
        simp only [List.length_map, List.length_take] at this
        omega
      go_wp2_with fail
      refine (laySem_any most (w.heap.size + 1) (keysOf (fun x : SemD => x.id) l) x w2 HI2.out.shelf.map HF.out.2 hkl (HF.out.1.below HI2.out.bel)).mono ?_
      rintro e w3 ⟨rfl, hno, hyes⟩
      cases hlay : layB most (keysOf (fun x : SemD => x.id) l) x.id (semB x) with
      | false =>
        have HN : Hid ((thingsB (fun x : SemD => x.id) (fun x : SemD => semB x) 0 list && decide ((list.length : Int) ≤ max most 0)) = false) := things_lay_no HX.out HT.out.1 HT.out.2.1 HLT.out hlay
        have HI3 : Hid (ShIn semVs (fun x : SemD => x.id) 49 113 w w3 most l) := HI2.out.below (hno hlay)
        clear hno hyes hlay HI2 r0 r1 v0 v1 z0 z1 d0 d1 d2 HB
        obtain ⟨r0, r1, v0, v1, z0, z1⟩ := HI3.out.cells
        go_wp2
        refine bodyPost_ret (v := .tuple #[.agg #[.int .i64 0, .map none], .bool false]) (by simp [results, Tryz.results148, go_sem, *]) rfl ?_
        exact ⟨(HI3.out.away _ _).2, .inl ⟨HN.out, rfl⟩⟩
      | true =>
        have HY : Hid (thingsB (fun x : SemD => x.id) (fun x : SemD => semB x) 0 (list.take (k + 1)) = true ∧ ((k + 1 : Nat) : Int) ≤ max most 0) := things_lay_yes HX.out HT.out.1 HT.out.2.1 HLT.out hlay
        obtain ⟨g, hin4⟩ := HI2.out.lay (x := x) (e := .returned (.bool true)) (w' := w3) ⟨rfl, (fun h => by cases h), fun _ => hyes hlay⟩ (rises_last HT.out.1 HT.out.2.1 HLT.out)
        have HI4 : Hid (ShIn semVs (fun x : SemD => x.id) 49 113 w w3 most (l ++ [(x, g)])) := hin4
        have HB3 : Hid (w3.heap[wr.heap.size]? = some (.cells (semVs x) 49 (0, 0))) := by
          obtain ⟨g', _, _, _, hgr⟩ := hyes hlay
          exact (hgr.block _ (Array.getElem?_eq_some_iff.1 HB.out).1 (fun e => by have := Option.some.inj e; have := HZ.out; omega)).trans HB.out
        clear hno hyes hlay HI2 r0 r1 v0 v1 z0 z1 d0 d1 d2 HB hin4
        obtain ⟨d0, d1, d2⟩ := sem_cells HB3.out
        go_wp2_with fail
        refine (numberSem_any x _).mono ?_
        rintro e w5 ⟨rfl, hb5⟩
        have HI5 : Hid (ShIn semVs (fun x : SemD => x.id) 49 113 w w5 most (l ++ [(x, g)])) := HI4.out.below hb5
        have HE : Hid (lastOf (fun x : SemD => x.id) 0 (list.take (k + 1)) = x.id) := lastOf_take HX.out 0
        clear hb5 HI4
        go_wp2
        go_roundw
        case rel => exact ⟨k + 1, by omega, by go_num, by rw [HE.out], ⟨l ++ [(x, g)], by rw [List.map_append, HT.out.1, take_up HX.out]; rfl, HI5.out, HY.out.1, HY.out.2⟩⟩
        case measure => simp [intOf]; omega
    · have i1 : ¬ (k : Int) < (list.length : Int) := by omega
      have HK : Hid (list.take k = list ∧ ((list.length : Int) ≤ max most 0)) := ⟨List.take_of_length_le (by omega), by have := HT.out.2.2; omega⟩
      have HY : Hid ((thingsB (fun x : SemD => x.id) (fun x : SemD => semB x) 0 list && decide ((list.length : Int) ≤ max most 0)) = true) := by
        show _ = true
        have h1 := HT.out.2.1
        rw [HK.out.1] at h1
        rw [h1, decide_eq_true HK.out.2]; rfl
      obtain ⟨r0, r1, v0, v1, z0, z1⟩ := HI.out.cells
      go_wp2
      refine bodyPost_ret (v := .tuple #[.agg #[.int .i64 most, .map (some (w.heap.size + 1))], .bool true]) (by simp [results, Tryz.results148, go_sem, *]) rfl ?_
      exact ⟨(HI.out.away _ _).2, .inr ⟨HY.out, w.heap.size + 1, l, rfl, by rw [HT.out.1, HK.out.1], (HI.out.away _ _).1⟩⟩

end Go.Proofs.YtkbcplnlehdjfaaGreat

/- Laying a thing of the kind Event into its shelf. (Made by mkshelf.py.) -/
namespace Go.Proofs.YtkbcplnlehdjfaaGreat
open Go.RowKit
attribute [local go_sem ↓] Go.wp_at_zero Go.wp_at_succ

/-- What every order of laying in keeps. -/
def LaySEvent (w : World) (b : Nat) (m : MapL) (most : Int) (x : EventD) (w' : World) : Prop := (w'.cell? ⟨w.heap.size, 0, none⟩ = some (.int .i64 most) ∧ w'.cell? ⟨w.heap.size, 1, none⟩ = some (.map (some b)) ∧ (∀ ty, (Builtin.len_ #[114] ty #[.map (some b)]).run Tryz.prog w' = .ok (.int .i64 (m.length : Int)) w') ∧ w'.cell? ⟨w.heap.size + 1, 0, none⟩ = some (.int .i64 x.id) ∧ w'.cell? ⟨w.heap.size + 1, 1, none⟩ = some (.bool x.up)) ∧ Hid (LayIn w w' w.heap.size (w.heap.size + 1) b m most (eventVs x) 138 116) ∧ Hid (EventFit w' x)
theorem laySEvent_of {w w' : World} {b : Nat} {m : MapL} {most : Int} {x : EventD} (h : LayIn w w' w.heap.size (w.heap.size + 1) b m most (eventVs x) 138 116) (hf : EventFit w' x) : LaySEvent w b m most x w' :=
  ⟨⟨h.cells.1, h.cells.2, fun ty => h.mp.len Tryz.underlying114 ty, event_cells h.bx⟩, h, hf⟩
set_option maxRecDepth 100000 in
set_option maxHeartbeats 4000000 in
theorem layEvent_no1 (most : Int) (b : Nat) (m : MapL) (x : EventD) (w : World) (h : MapIs w b m) (hw : (Lit.int .i64 x.id).wf = true) (_hm : m.length ≤ 1048576) (hf : EventFit w x) (hA : (lookM m x.id).isSome = true) :
    Calls Tryz.prog 90 #[.agg #[.int .i64 most, .map (some b)], .agg (eventVs x)] w fun e w' => LayEnds w b m (layB most m x.id (eventB x)) x.id (eventVs x) 138 e w' := by
  have HF : Hid (LayIn w ((w.alloc (.cells #[.int .i64 most, .map (some b)] 116)).alloc (.cells (eventVs x) 138)) w.heap.size (w.heap.size + 1) b m most (eventVs x) 138 116) := LayIn.start w h most _ _ _
  have HN : Hid (layB most m x.id (eventB x) = false) := by show layB most m x.id (eventB x) = false; simp [layB, hA]
  have HA : Hid (Ending.returned (.bool (lookM m x.id).isSome) = .returned (.bool true)) := ret_bool hA
  have HW : Hid ((Lit.int .i64 x.id).wf = true) := hw
  have HI : Hid (EventFit ((w.alloc (.cells #[.int .i64 most, .map (some b)] 116)).alloc (.cells (eventVs x) 138)) x) := hf.below ((((Below.refl _ w).alloc (Nat.le_refl _) _)).alloc (by simp) _)
  have hmn := meth_numberEvent
  have hmr := meth_rightEvent
  obtain ⟨s0, s1⟩ := HF.out.cells
  obtain ⟨c0, c1⟩ := event_cells HF.out.bx
  clear h hw hf hA
  unfold eventVs at *
  go_enter Tryz.func90, Tryz.ntmps90
  go_wp2_with fail
  clear s0 s1 c0 c1
  refine tame_region (LaySEvent w b m most x) (by kernel_rfl) (laySEvent_of HF.out.drew (HI.out.below (Below.refl _ _).drew)) ?_
  refine tm 0 (some 5) (v := ?_) rfl (by kernel_rfl) (fun _ _ _ h => h) (does_yield (by kernel_rfl) ?_) ?_
  rotate_left
  · intro w0 hS0
    obtain ⟨⟨q0, q1, q2, q3, q4⟩, hH⟩ := hS0
    go_simp
    try with_reducible rfl
  simp only [pt, sb, s0, s1]
  refine tm 1 (some 6) (v := ?_) rfl (by kernel_rfl) (fun _ _ _ h => h) (does_yield (by kernel_rfl) ?_) ?_
  rotate_left
  · intro w0 hS0
    obtain ⟨⟨q0, q1, q2, q3, q4⟩, hH⟩ := hS0
    go_simp
    try with_reducible rfl
  simp only [pt, sb, s0, s1]
  refine tm 2 (some 7) (v := ?_) rfl (by kernel_rfl) (fun _ _ _ h => h) (does_yield (by kernel_rfl) ?_) ?_
  rotate_left
  · intro w0 hS0
    obtain ⟨⟨q0, q1, q2, q3, q4⟩, hH⟩ := hS0
    go_simp
    try with_reducible rfl
  simp only [pt, sb, s0, s1]
  refine tm 3 (some 8) (v := .int .i64 x.id) rfl (by kernel_rfl) (fun _ _ _ h => h) (does_call (f := 307) (args := #[.agg #[.int .i64 x.id, .bool x.up]]) (by kernel_rfl) ?_ ?_) ?_
  · intro w0 hS0
    obtain ⟨⟨q0, q1, q2, q3, q4⟩, hH⟩ := hS0
    go_simp
    try with_reducible rfl
  · intro w0 hS0
    refine (numberEvent_any x w0).mono ?_
    rintro e w2 ⟨rfl, hb2⟩
    exact ⟨rfl, laySEvent_of (hS0.2.1.out.below hb2) (hS0.2.2.out.below hb2)⟩
  simp only [pt, sb, s0, s1]
  refine tm 4 (some 9) (v := .bool true) rfl (by kernel_rfl) (fun _ _ _ h => h) (does_call (f := 176) (args := #[.agg #[.int .i64 most, .map (some b)], .int .i64 x.id]) (by kernel_rfl) ?_ ?_) ?_
  · intro w0 hS0
    obtain ⟨⟨q0, q1, q2, q3, q4⟩, hH⟩ := hS0
    go_simp
    try with_reducible rfl
  · intro w0 hS0
    refine (hasEvent_any most b m x.id w0 hS0.2.1.out.mp HW.out).mono ?_
    rintro e w2 ⟨rfl, hb2⟩
    exact ⟨HA.out, laySEvent_of (hS0.2.1.out.below hb2) (hS0.2.2.out.below hb2)⟩
  simp only [pt, sb, s0, s1]
  refine tm 5 (some 10) (v := ?_) rfl (by kernel_rfl) (fun _ _ _ h => h) (does_yield (by kernel_rfl) ?_) ?_
  rotate_left
  · intro w0 hS0
    obtain ⟨⟨q0, q1, q2, q3, q4⟩, hH⟩ := hS0
    go_simp
    try with_reducible rfl
  simp only [pt, sb, s0, s1]
  refine tm 6 (some 11) rfl (by kernel_rfl) (fun _ _ _ h => h) (does_skip (by kernel_rfl)) ?_
  simp only [pt, sb, s0, s1]
  refine tm 7 (some 12) rfl (by kernel_rfl) (fun _ _ _ h => h) (does_skip (by kernel_rfl)) ?_
  simp only [pt, sb, s0, s1]
  refine tm 8 (some 13) rfl (by kernel_rfl) (fun _ _ _ h => h) (does_skip (by kernel_rfl)) ?_
  simp only [pt, sb, s0, s1]
  refine tm 9 (some 14) rfl (by kernel_rfl) (fun _ _ _ h => h) (does_skip (by kernel_rfl)) ?_
  simp only [pt, sb, s0, s1]
  refine tm 10 (some 15) rfl (by kernel_rfl) (fun _ _ _ h => h) (does_skip (by kernel_rfl)) ?_
  simp only [pt, sb, s0, s1]
  refine tm 11 (some 16) rfl (by kernel_rfl) (fun _ _ _ h => h) (does_skip (by kernel_rfl)) ?_
  simp only [pt, sb, s0, s1]
  refine tm 12 (some 17) (v := ?_) rfl (by kernel_rfl) (fun _ _ _ h => h) (does_yield (by kernel_rfl) ?_) ?_
  rotate_left
  · intro w0 hS0
    obtain ⟨⟨q0, q1, q2, q3, q4⟩, hH⟩ := hS0
    go_simp
    try with_reducible rfl
  simp only [pt, sb, s0, s1]
  refine tm 13 (some 18) (v := ?_) rfl (by kernel_rfl) (fun _ _ _ h => h) (does_yield (by kernel_rfl) ?_) ?_
  rotate_left
  · intro w0 hS0
    obtain ⟨⟨q0, q1, q2, q3, q4⟩, hH⟩ := hS0
    go_simp
    try with_reducible rfl
  simp only [pt, sb, s0, s1]
  refine tm 14 (some 19) rfl (by kernel_rfl) (fun _ _ _ h => h) (does_skip (by kernel_rfl)) ?_
  simp only [pt, sb, s0, s1]
  refine tm 15 (some 20) rfl (by kernel_rfl) (fun _ _ _ h => h) (does_skip (by kernel_rfl)) ?_
  simp only [pt, sb, s0, s1]
  refine tm 16 (some 21) rfl (by kernel_rfl) (fun _ _ _ h => h) (does_skip (by kernel_rfl)) ?_
  simp only [pt, sb, s0, s1]
  refine tm 17 (some 22) rfl (by kernel_rfl) (fun _ _ _ h => h) (does_skip (by kernel_rfl)) ?_
  simp only [pt, sb, s0, s1]
  refine tm 18 (some 23) rfl (by kernel_rfl) (fun _ _ _ h => h) (does_skip (by kernel_rfl)) ?_
  simp only [pt, sb, s0, s1]
  refine tm 19 (some 24) (v := ?_) rfl (by kernel_rfl) (fun _ _ _ h => h) (does_yield (by kernel_rfl) ?_) ?_
  rotate_left
  · intro w0 hS0
    obtain ⟨⟨q0, q1, q2, q3, q4⟩, hH⟩ := hS0
    go_simp
    try with_reducible rfl
  simp only [pt, sb, s0, s1]
  refine tm 20 (some 25) (v := ?_) rfl (by kernel_rfl) (fun _ _ _ h => h) (does_yield (by kernel_rfl) ?_) ?_
  rotate_left
  · intro w0 hS0
    obtain ⟨⟨q0, q1, q2, q3, q4⟩, hH⟩ := hS0
    go_simp
    try with_reducible rfl
  simp only [pt, sb, s0, s1]
  refine tm 21 (some 26) rfl (by kernel_rfl) (fun _ _ _ h => h) (does_skip (by kernel_rfl)) ?_
  simp only [pt, sb, s0, s1]
  refine tm 22 (some 27) rfl (by kernel_rfl) (fun _ _ _ h => h) (does_skip (by kernel_rfl)) ?_
  simp only [pt, sb, s0, s1]
  refine tm 23 (some 28) rfl (by kernel_rfl) (fun _ _ _ h => h) (does_skip (by kernel_rfl)) ?_
  simp only [pt, sb, s0, s1]
  refine tm 24 (some 29) rfl (by kernel_rfl) (fun _ _ _ h => h) (does_skip (by kernel_rfl)) ?_
  simp only [pt, sb, s0, s1]
  refine tm 25 (some 30) (v := ?_) rfl (by kernel_rfl) (fun _ _ _ h => h) (does_yield (by kernel_rfl) ?_) ?_
  rotate_left
  · intro w0 hS0
    obtain ⟨⟨q0, q1, q2, q3, q4⟩, hH⟩ := hS0
    go_simp
    try with_reducible rfl
  simp only [pt, sb, s0, s1]
  refine tame_done (by kernel_rfl) ?_ _
  intro w1 hS1
  go_wp2
  go_ret
  exact layEnds_no HN.out hS1.2.1.out.bel

set_option maxRecDepth 100000 in
set_option maxHeartbeats 4000000 in
theorem layEvent_no2 (most : Int) (b : Nat) (m : MapL) (x : EventD) (w : World) (h : MapIs w b m) (hw : (Lit.int .i64 x.id).wf = true) (_hm : m.length ≤ 1048576) (hf : EventFit w x) (hA : (lookM m x.id).isSome = false) (hB : most ≤ (m.length : Int)) :
    Calls Tryz.prog 90 #[.agg #[.int .i64 most, .map (some b)], .agg (eventVs x)] w fun e w' => LayEnds w b m (layB most m x.id (eventB x)) x.id (eventVs x) 138 e w' := by
  have HF : Hid (LayIn w ((w.alloc (.cells #[.int .i64 most, .map (some b)] 116)).alloc (.cells (eventVs x) 138)) w.heap.size (w.heap.size + 1) b m most (eventVs x) 138 116) := LayIn.start w h most _ _ _
  have hB2 : ¬ (m.length : Int) < most := by omega
  have HN : Hid (layB most m x.id (eventB x) = false) := by show layB most m x.id (eventB x) = false; simp [layB, hB2]
  have HA : Hid (Ending.returned (.bool (lookM m x.id).isSome) = .returned (.bool false)) := ret_bool hA
  have hBd : decide (most ≤ (m.length : Int)) = true := decide_eq_true hB
  have HW : Hid ((Lit.int .i64 x.id).wf = true) := hw
  have HI : Hid (EventFit ((w.alloc (.cells #[.int .i64 most, .map (some b)] 116)).alloc (.cells (eventVs x) 138)) x) := hf.below ((((Below.refl _ w).alloc (Nat.le_refl _) _)).alloc (by simp) _)
  have hmn := meth_numberEvent
  have hmr := meth_rightEvent
  obtain ⟨s0, s1⟩ := HF.out.cells
  obtain ⟨c0, c1⟩ := event_cells HF.out.bx
  clear h hw hf hA hB hB2
  unfold eventVs at *
  go_enter Tryz.func90, Tryz.ntmps90
  go_wp2_with fail
  clear s0 s1 c0 c1
  refine tame_region (LaySEvent w b m most x) (by kernel_rfl) (laySEvent_of HF.out.drew (HI.out.below (Below.refl _ _).drew)) ?_
  refine tm 0 (some 5) (v := ?_) rfl (by kernel_rfl) (fun _ _ _ h => h) (does_yield (by kernel_rfl) ?_) ?_
  rotate_left
  · intro w0 hS0
    obtain ⟨⟨q0, q1, q2, q3, q4⟩, hH⟩ := hS0
    go_simp
    try with_reducible rfl
  simp only [pt, sb, s0, s1]
  refine tm 1 (some 6) (v := ?_) rfl (by kernel_rfl) (fun _ _ _ h => h) (does_yield (by kernel_rfl) ?_) ?_
  rotate_left
  · intro w0 hS0
    obtain ⟨⟨q0, q1, q2, q3, q4⟩, hH⟩ := hS0
    go_simp
    try with_reducible rfl
  simp only [pt, sb, s0, s1]
  refine tm 2 (some 7) (v := ?_) rfl (by kernel_rfl) (fun _ _ _ h => h) (does_yield (by kernel_rfl) ?_) ?_
  rotate_left
  · intro w0 hS0
    obtain ⟨⟨q0, q1, q2, q3, q4⟩, hH⟩ := hS0
    go_simp
    try with_reducible rfl
  simp only [pt, sb, s0, s1]
  refine tm 3 (some 8) (v := .int .i64 x.id) rfl (by kernel_rfl) (fun _ _ _ h => h) (does_call (f := 307) (args := #[.agg #[.int .i64 x.id, .bool x.up]]) (by kernel_rfl) ?_ ?_) ?_
  · intro w0 hS0
    obtain ⟨⟨q0, q1, q2, q3, q4⟩, hH⟩ := hS0
    go_simp
    try with_reducible rfl
  · intro w0 hS0
    refine (numberEvent_any x w0).mono ?_
    rintro e w2 ⟨rfl, hb2⟩
    exact ⟨rfl, laySEvent_of (hS0.2.1.out.below hb2) (hS0.2.2.out.below hb2)⟩
  simp only [pt, sb, s0, s1]
  refine tm 4 (some 9) (v := .bool false) rfl (by kernel_rfl) (fun _ _ _ h => h) (does_call (f := 176) (args := #[.agg #[.int .i64 most, .map (some b)], .int .i64 x.id]) (by kernel_rfl) ?_ ?_) ?_
  · intro w0 hS0
    obtain ⟨⟨q0, q1, q2, q3, q4⟩, hH⟩ := hS0
    go_simp
    try with_reducible rfl
  · intro w0 hS0
    refine (hasEvent_any most b m x.id w0 hS0.2.1.out.mp HW.out).mono ?_
    rintro e w2 ⟨rfl, hb2⟩
    exact ⟨HA.out, laySEvent_of (hS0.2.1.out.below hb2) (hS0.2.2.out.below hb2)⟩
  simp only [pt, sb, s0, s1]
  refine tm 5 (some 10) (v := ?_) rfl (by kernel_rfl) (fun _ _ _ h => h) (does_yield (by kernel_rfl) ?_) ?_
  rotate_left
  · intro w0 hS0
    obtain ⟨⟨q0, q1, q2, q3, q4⟩, hH⟩ := hS0
    go_simp
    try with_reducible rfl
  simp only [pt, sb, s0, s1]
  refine tm 6 (some 11) (v := ?_) rfl (by kernel_rfl) (fun _ _ _ h => h) (does_yield (by kernel_rfl) ?_) ?_
  rotate_left
  · intro w0 hS0
    obtain ⟨⟨q0, q1, q2, q3, q4⟩, hH⟩ := hS0
    go_simp
    try with_reducible rfl
  simp only [pt, sb, s0, s1]
  refine tm 7 (some 12) (v := ?_) rfl (by kernel_rfl) (fun _ _ _ h => h) (does_yield (by kernel_rfl) ?_) ?_
  rotate_left
  · intro w0 hS0
    obtain ⟨⟨q0, q1, q2, q3, q4⟩, hH⟩ := hS0
    go_simp
    try with_reducible rfl
  simp only [pt, sb, s0, s1]
  refine tm 8 (some 13) (v := ?_) rfl (by kernel_rfl) (fun _ _ _ h => h) (does_yield (by kernel_rfl) ?_) ?_
  rotate_left
  · intro w0 hS0
    obtain ⟨⟨q0, q1, q2, q3, q4⟩, hH⟩ := hS0
    go_simp
    try with_reducible rfl
  simp only [pt, sb, s0, s1]
  refine tm 9 (some 14) (v := ?_) rfl (by kernel_rfl) (fun _ _ _ h => h) (does_yield (by kernel_rfl) ?_) ?_
  rotate_left
  · intro w0 hS0
    obtain ⟨⟨q0, q1, q2, q3, q4⟩, hH⟩ := hS0
    go_simp
    try with_reducible rfl
  simp only [pt, sb, s0, s1]
  refine tm 10 (some 15) (v := ?_) rfl (by kernel_rfl) (fun _ _ _ h => h) (does_yield (by kernel_rfl) ?_) ?_
  rotate_left
  · intro w0 hS0
    obtain ⟨⟨q0, q1, q2, q3, q4⟩, hH⟩ := hS0
    go_simp
    try with_reducible rfl
  simp only [pt, sb, s0, s1]
  refine tm 11 (some 16) (v := ?_) rfl (by kernel_rfl) (fun _ _ _ h => h) (does_yield (by kernel_rfl) ?_) ?_
  rotate_left
  · intro w0 hS0
    obtain ⟨⟨q0, q1, q2, q3, q4⟩, hH⟩ := hS0
    go_simp
    try with_reducible rfl
  simp only [pt, sb, s0, s1]
  refine tm 12 (some 17) (v := ?_) rfl (by kernel_rfl) (fun _ _ _ h => h) (does_yield (by kernel_rfl) ?_) ?_
  rotate_left
  · intro w0 hS0
    obtain ⟨⟨q0, q1, q2, q3, q4⟩, hH⟩ := hS0
    go_simp
    try with_reducible rfl
  simp only [pt, sb, s0, s1]
  refine tm 13 (some 18) (v := ?_) rfl (by kernel_rfl) (fun _ _ _ h => h) (does_yield (by kernel_rfl) ?_) ?_
  rotate_left
  · intro w0 hS0
    obtain ⟨⟨q0, q1, q2, q3, q4⟩, hH⟩ := hS0
    go_simp
    try with_reducible rfl
  simp only [pt, sb, s0, s1]
  refine tm 14 (some 19) rfl (by kernel_rfl) (fun _ _ _ h => h) (does_skip (by kernel_rfl)) ?_
  simp only [pt, sb, s0, s1]
  refine tm 15 (some 20) rfl (by kernel_rfl) (fun _ _ _ h => h) (does_skip (by kernel_rfl)) ?_
  simp only [pt, sb, s0, s1]
  refine tm 16 (some 21) rfl (by kernel_rfl) (fun _ _ _ h => h) (does_skip (by kernel_rfl)) ?_
  simp only [pt, sb, s0, s1]
  refine tm 17 (some 22) rfl (by kernel_rfl) (fun _ _ _ h => h) (does_skip (by kernel_rfl)) ?_
  simp only [pt, sb, s0, s1]
  refine tm 18 (some 23) rfl (by kernel_rfl) (fun _ _ _ h => h) (does_skip (by kernel_rfl)) ?_
  simp only [pt, sb, s0, s1]
  refine tm 19 (some 24) (v := ?_) rfl (by kernel_rfl) (fun _ _ _ h => h) (does_yield (by kernel_rfl) ?_) ?_
  rotate_left
  · intro w0 hS0
    obtain ⟨⟨q0, q1, q2, q3, q4⟩, hH⟩ := hS0
    go_simp
    try with_reducible rfl
  simp only [pt, sb, s0, s1]
  refine tm 20 (some 25) (v := ?_) rfl (by kernel_rfl) (fun _ _ _ h => h) (does_yield (by kernel_rfl) ?_) ?_
  rotate_left
  · intro w0 hS0
    obtain ⟨⟨q0, q1, q2, q3, q4⟩, hH⟩ := hS0
    go_simp
    try with_reducible rfl
  simp only [pt, sb, s0, s1]
  refine tm 21 (some 26) rfl (by kernel_rfl) (fun _ _ _ h => h) (does_skip (by kernel_rfl)) ?_
  simp only [pt, sb, s0, s1]
  refine tm 22 (some 27) rfl (by kernel_rfl) (fun _ _ _ h => h) (does_skip (by kernel_rfl)) ?_
  simp only [pt, sb, s0, s1]
  refine tm 23 (some 28) rfl (by kernel_rfl) (fun _ _ _ h => h) (does_skip (by kernel_rfl)) ?_
  simp only [pt, sb, s0, s1]
  refine tm 24 (some 29) rfl (by kernel_rfl) (fun _ _ _ h => h) (does_skip (by kernel_rfl)) ?_
  simp only [pt, sb, s0, s1]
  refine tm 25 (some 30) (v := ?_) rfl (by kernel_rfl) (fun _ _ _ h => h) (does_yield (by kernel_rfl) ?_) ?_
  rotate_left
  · intro w0 hS0
    obtain ⟨⟨q0, q1, q2, q3, q4⟩, hH⟩ := hS0
    go_simp
    try with_reducible rfl
  simp only [pt, sb, s0, s1]
  refine tame_done (by kernel_rfl) ?_ _
  intro w1 hS1
  go_wp2
  go_ret
  exact layEnds_no HN.out hS1.2.1.out.bel

set_option maxRecDepth 100000 in
set_option maxHeartbeats 4000000 in
theorem layEvent_no3 (most : Int) (b : Nat) (m : MapL) (x : EventD) (w : World) (h : MapIs w b m) (hw : (Lit.int .i64 x.id).wf = true) (_hm : m.length ≤ 1048576) (hf : EventFit w x) (hA : (lookM m x.id).isSome = false) (hB : ¬ most ≤ (m.length : Int)) (hC : inB x.id 1 1000 = false) :
    Calls Tryz.prog 90 #[.agg #[.int .i64 most, .map (some b)], .agg (eventVs x)] w fun e w' => LayEnds w b m (layB most m x.id (eventB x)) x.id (eventVs x) 138 e w' := by
  have HF : Hid (LayIn w ((w.alloc (.cells #[.int .i64 most, .map (some b)] 116)).alloc (.cells (eventVs x) 138)) w.heap.size (w.heap.size + 1) b m most (eventVs x) 138 116) := LayIn.start w h most _ _ _
  have HN : Hid (layB most m x.id (eventB x) = false) := by show layB most m x.id (eventB x) = false; simp [layB, hC]
  have HA : Hid (Ending.returned (.bool (lookM m x.id).isSome) = .returned (.bool false)) := ret_bool hA
  have HC : Hid (Ending.returned (.bool (inB x.id 1 1000)) = .returned (.bool false)) := ret_bool hC
  have hBd : decide (most ≤ (m.length : Int)) = false := decide_eq_false hB
  have HW : Hid ((Lit.int .i64 x.id).wf = true) := hw
  have HI : Hid (EventFit ((w.alloc (.cells #[.int .i64 most, .map (some b)] 116)).alloc (.cells (eventVs x) 138)) x) := hf.below ((((Below.refl _ w).alloc (Nat.le_refl _) _)).alloc (by simp) _)
  have hmn := meth_numberEvent
  have hmr := meth_rightEvent
  obtain ⟨s0, s1⟩ := HF.out.cells
  obtain ⟨c0, c1⟩ := event_cells HF.out.bx
  clear h hw hf hA hC hB
  unfold eventVs at *
  go_enter Tryz.func90, Tryz.ntmps90
  go_wp2_with fail
  clear s0 s1 c0 c1
  refine tame_region (LaySEvent w b m most x) (by kernel_rfl) (laySEvent_of HF.out.drew (HI.out.below (Below.refl _ _).drew)) ?_
  refine tm 0 (some 5) (v := ?_) rfl (by kernel_rfl) (fun _ _ _ h => h) (does_yield (by kernel_rfl) ?_) ?_
  rotate_left
  · intro w0 hS0
    obtain ⟨⟨q0, q1, q2, q3, q4⟩, hH⟩ := hS0
    go_simp
    try with_reducible rfl
  simp only [pt, sb, s0, s1]
  refine tm 1 (some 6) (v := ?_) rfl (by kernel_rfl) (fun _ _ _ h => h) (does_yield (by kernel_rfl) ?_) ?_
  rotate_left
  · intro w0 hS0
    obtain ⟨⟨q0, q1, q2, q3, q4⟩, hH⟩ := hS0
    go_simp
    try with_reducible rfl
  simp only [pt, sb, s0, s1]
  refine tm 2 (some 7) (v := ?_) rfl (by kernel_rfl) (fun _ _ _ h => h) (does_yield (by kernel_rfl) ?_) ?_
  rotate_left
  · intro w0 hS0
    obtain ⟨⟨q0, q1, q2, q3, q4⟩, hH⟩ := hS0
    go_simp
    try with_reducible rfl
  simp only [pt, sb, s0, s1]
  refine tm 3 (some 8) (v := .int .i64 x.id) rfl (by kernel_rfl) (fun _ _ _ h => h) (does_call (f := 307) (args := #[.agg #[.int .i64 x.id, .bool x.up]]) (by kernel_rfl) ?_ ?_) ?_
  · intro w0 hS0
    obtain ⟨⟨q0, q1, q2, q3, q4⟩, hH⟩ := hS0
    go_simp
    try with_reducible rfl
  · intro w0 hS0
    refine (numberEvent_any x w0).mono ?_
    rintro e w2 ⟨rfl, hb2⟩
    exact ⟨rfl, laySEvent_of (hS0.2.1.out.below hb2) (hS0.2.2.out.below hb2)⟩
  simp only [pt, sb, s0, s1]
  refine tm 4 (some 9) (v := .bool false) rfl (by kernel_rfl) (fun _ _ _ h => h) (does_call (f := 176) (args := #[.agg #[.int .i64 most, .map (some b)], .int .i64 x.id]) (by kernel_rfl) ?_ ?_) ?_
  · intro w0 hS0
    obtain ⟨⟨q0, q1, q2, q3, q4⟩, hH⟩ := hS0
    go_simp
    try with_reducible rfl
  · intro w0 hS0
    refine (hasEvent_any most b m x.id w0 hS0.2.1.out.mp HW.out).mono ?_
    rintro e w2 ⟨rfl, hb2⟩
    exact ⟨HA.out, laySEvent_of (hS0.2.1.out.below hb2) (hS0.2.2.out.below hb2)⟩
  simp only [pt, sb, s0, s1]
  refine tm 5 (some 10) (v := ?_) rfl (by kernel_rfl) (fun _ _ _ h => h) (does_yield (by kernel_rfl) ?_) ?_
  rotate_left
  · intro w0 hS0
    obtain ⟨⟨q0, q1, q2, q3, q4⟩, hH⟩ := hS0
    go_simp
    try with_reducible rfl
  simp only [pt, sb, s0, s1]
  refine tm 6 (some 11) (v := ?_) rfl (by kernel_rfl) (fun _ _ _ h => h) (does_yield (by kernel_rfl) ?_) ?_
  rotate_left
  · intro w0 hS0
    obtain ⟨⟨q0, q1, q2, q3, q4⟩, hH⟩ := hS0
    go_simp
    try with_reducible rfl
  simp only [pt, sb, s0, s1]
  refine tm 7 (some 12) (v := ?_) rfl (by kernel_rfl) (fun _ _ _ h => h) (does_yield (by kernel_rfl) ?_) ?_
  rotate_left
  · intro w0 hS0
    obtain ⟨⟨q0, q1, q2, q3, q4⟩, hH⟩ := hS0
    go_simp
    try with_reducible rfl
  simp only [pt, sb, s0, s1]
  refine tm 8 (some 13) (v := ?_) rfl (by kernel_rfl) (fun _ _ _ h => h) (does_yield (by kernel_rfl) ?_) ?_
  rotate_left
  · intro w0 hS0
    obtain ⟨⟨q0, q1, q2, q3, q4⟩, hH⟩ := hS0
    go_simp
    try with_reducible rfl
  simp only [pt, sb, s0, s1]
  refine tm 9 (some 14) (v := ?_) rfl (by kernel_rfl) (fun _ _ _ h => h) (does_yield (by kernel_rfl) ?_) ?_
  rotate_left
  · intro w0 hS0
    obtain ⟨⟨q0, q1, q2, q3, q4⟩, hH⟩ := hS0
    go_simp
    try with_reducible rfl
  simp only [pt, sb, s0, s1]
  refine tm 10 (some 15) (v := ?_) rfl (by kernel_rfl) (fun _ _ _ h => h) (does_yield (by kernel_rfl) ?_) ?_
  rotate_left
  · intro w0 hS0
    obtain ⟨⟨q0, q1, q2, q3, q4⟩, hH⟩ := hS0
    go_simp
    try with_reducible rfl
  simp only [pt, sb, s0, s1]
  refine tm 11 (some 16) (v := ?_) rfl (by kernel_rfl) (fun _ _ _ h => h) (does_yield (by kernel_rfl) ?_) ?_
  rotate_left
  · intro w0 hS0
    obtain ⟨⟨q0, q1, q2, q3, q4⟩, hH⟩ := hS0
    go_simp
    try with_reducible rfl
  simp only [pt, sb, s0, s1]
  refine tm 12 (some 17) (v := ?_) rfl (by kernel_rfl) (fun _ _ _ h => h) (does_yield (by kernel_rfl) ?_) ?_
  rotate_left
  · intro w0 hS0
    obtain ⟨⟨q0, q1, q2, q3, q4⟩, hH⟩ := hS0
    go_simp
    try with_reducible rfl
  simp only [pt, sb, s0, s1]
  refine tm 13 (some 18) (v := ?_) rfl (by kernel_rfl) (fun _ _ _ h => h) (does_yield (by kernel_rfl) ?_) ?_
  rotate_left
  · intro w0 hS0
    obtain ⟨⟨q0, q1, q2, q3, q4⟩, hH⟩ := hS0
    go_simp
    try with_reducible rfl
  simp only [pt, sb, s0, s1]
  refine tm 14 (some 19) (v := ?_) rfl (by kernel_rfl) (fun _ _ _ h => h) (does_yield (by kernel_rfl) ?_) ?_
  rotate_left
  · intro w0 hS0
    obtain ⟨⟨q0, q1, q2, q3, q4⟩, hH⟩ := hS0
    go_simp
    try with_reducible rfl
  simp only [pt, sb, s0, s1]
  refine tm 15 (some 20) (v := ?_) rfl (by kernel_rfl) (fun _ _ _ h => h) (does_yield (by kernel_rfl) ?_) ?_
  rotate_left
  · intro w0 hS0
    obtain ⟨⟨q0, q1, q2, q3, q4⟩, hH⟩ := hS0
    go_simp
    try with_reducible rfl
  simp only [pt, sb, s0, s1]
  refine tm 16 (some 21) (v := .int .i64 x.id) rfl (by kernel_rfl) (fun _ _ _ h => h) (does_call (f := 307) (args := #[.agg #[.int .i64 x.id, .bool x.up]]) (by kernel_rfl) ?_ ?_) ?_
  · intro w0 hS0
    obtain ⟨⟨q0, q1, q2, q3, q4⟩, hH⟩ := hS0
    go_simp
    try with_reducible rfl
  · intro w0 hS0
    refine (numberEvent_any x w0).mono ?_
    rintro e w2 ⟨rfl, hb2⟩
    exact ⟨rfl, laySEvent_of (hS0.2.1.out.below hb2) (hS0.2.2.out.below hb2)⟩
  simp only [pt, sb, s0, s1]
  refine tm 17 (some 22) (v := .bool false) rfl (by kernel_rfl) (fun _ _ _ h => h) (does_call (f := 164) (args := #[.int .i64 x.id]) (by kernel_rfl) ?_ ?_) ?_
  · intro w0 hS0
    obtain ⟨⟨q0, q1, q2, q3, q4⟩, hH⟩ := hS0
    go_simp
    try with_reducible rfl
  · intro w0 hS0
    refine (isNumber_any x.id w0).mono ?_
    rintro e w2 ⟨rfl, rfl⟩
    exact ⟨HC.out, hS0⟩
  simp only [pt, sb, s0, s1]
  refine tm 18 (some 23) (v := ?_) rfl (by kernel_rfl) (fun _ _ _ h => h) (does_yield (by kernel_rfl) ?_) ?_
  rotate_left
  · intro w0 hS0
    obtain ⟨⟨q0, q1, q2, q3, q4⟩, hH⟩ := hS0
    go_simp
    try with_reducible rfl
  simp only [pt, sb, s0, s1]
  refine tm 19 (some 24) (v := ?_) rfl (by kernel_rfl) (fun _ _ _ h => h) (does_yield (by kernel_rfl) ?_) ?_
  rotate_left
  · intro w0 hS0
    obtain ⟨⟨q0, q1, q2, q3, q4⟩, hH⟩ := hS0
    go_simp
    try with_reducible rfl
  simp only [pt, sb, s0, s1]
  refine tm 20 (some 25) (v := ?_) rfl (by kernel_rfl) (fun _ _ _ h => h) (does_yield (by kernel_rfl) ?_) ?_
  rotate_left
  · intro w0 hS0
    obtain ⟨⟨q0, q1, q2, q3, q4⟩, hH⟩ := hS0
    go_simp
    try with_reducible rfl
  simp only [pt, sb, s0, s1]
  refine tm 21 (some 26) rfl (by kernel_rfl) (fun _ _ _ h => h) (does_skip (by kernel_rfl)) ?_
  simp only [pt, sb, s0, s1]
  refine tm 22 (some 27) rfl (by kernel_rfl) (fun _ _ _ h => h) (does_skip (by kernel_rfl)) ?_
  simp only [pt, sb, s0, s1]
  refine tm 23 (some 28) rfl (by kernel_rfl) (fun _ _ _ h => h) (does_skip (by kernel_rfl)) ?_
  simp only [pt, sb, s0, s1]
  refine tm 24 (some 29) rfl (by kernel_rfl) (fun _ _ _ h => h) (does_skip (by kernel_rfl)) ?_
  simp only [pt, sb, s0, s1]
  refine tm 25 (some 30) (v := ?_) rfl (by kernel_rfl) (fun _ _ _ h => h) (does_yield (by kernel_rfl) ?_) ?_
  rotate_left
  · intro w0 hS0
    obtain ⟨⟨q0, q1, q2, q3, q4⟩, hH⟩ := hS0
    go_simp
    try with_reducible rfl
  simp only [pt, sb, s0, s1]
  refine tame_done (by kernel_rfl) ?_ _
  intro w1 hS1
  go_wp2
  go_ret
  exact layEnds_no HN.out hS1.2.1.out.bel

set_option maxRecDepth 100000 in
set_option maxHeartbeats 4000000 in
theorem layEvent_no4 (most : Int) (b : Nat) (m : MapL) (x : EventD) (w : World) (h : MapIs w b m) (hw : (Lit.int .i64 x.id).wf = true) (_hm : m.length ≤ 1048576) (hf : EventFit w x) (hA : (lookM m x.id).isSome = false) (hB : ¬ most ≤ (m.length : Int)) (hC : inB x.id 1 1000 = true) (hD : eventB x = false) :
    Calls Tryz.prog 90 #[.agg #[.int .i64 most, .map (some b)], .agg (eventVs x)] w fun e w' => LayEnds w b m (layB most m x.id (eventB x)) x.id (eventVs x) 138 e w' := by
  have HF : Hid (LayIn w ((w.alloc (.cells #[.int .i64 most, .map (some b)] 116)).alloc (.cells (eventVs x) 138)) w.heap.size (w.heap.size + 1) b m most (eventVs x) 138 116) := LayIn.start w h most _ _ _
  have HN : Hid (layB most m x.id (eventB x) = false) := by show layB most m x.id (eventB x) = false; simp [layB, hD]
  have HA : Hid (Ending.returned (.bool (lookM m x.id).isSome) = .returned (.bool false)) := ret_bool hA
  have HC : Hid (Ending.returned (.bool (inB x.id 1 1000)) = .returned (.bool true)) := ret_bool hC
  have HD : Hid (Ending.returned (.bool (eventB x)) = .returned (.bool false)) := ret_bool hD
  have hBd : decide (most ≤ (m.length : Int)) = false := decide_eq_false hB
  have HW : Hid ((Lit.int .i64 x.id).wf = true) := hw
  have HI : Hid (EventFit ((w.alloc (.cells #[.int .i64 most, .map (some b)] 116)).alloc (.cells (eventVs x) 138)) x) := hf.below ((((Below.refl _ w).alloc (Nat.le_refl _) _)).alloc (by simp) _)
  have hmn := meth_numberEvent
  have hmr := meth_rightEvent
  obtain ⟨s0, s1⟩ := HF.out.cells
  obtain ⟨c0, c1⟩ := event_cells HF.out.bx
  clear h hw hf hA hC hD hB
  unfold eventVs at *
  go_enter Tryz.func90, Tryz.ntmps90
  go_wp2_with fail
  clear s0 s1 c0 c1
  refine tame_region (LaySEvent w b m most x) (by kernel_rfl) (laySEvent_of HF.out.drew (HI.out.below (Below.refl _ _).drew)) ?_
  refine tm 0 (some 5) (v := ?_) rfl (by kernel_rfl) (fun _ _ _ h => h) (does_yield (by kernel_rfl) ?_) ?_
  rotate_left
  · intro w0 hS0
    obtain ⟨⟨q0, q1, q2, q3, q4⟩, hH⟩ := hS0
    go_simp
    try with_reducible rfl
  simp only [pt, sb, s0, s1]
  refine tm 1 (some 6) (v := ?_) rfl (by kernel_rfl) (fun _ _ _ h => h) (does_yield (by kernel_rfl) ?_) ?_
  rotate_left
  · intro w0 hS0
    obtain ⟨⟨q0, q1, q2, q3, q4⟩, hH⟩ := hS0
    go_simp
    try with_reducible rfl
  simp only [pt, sb, s0, s1]
  refine tm 2 (some 7) (v := ?_) rfl (by kernel_rfl) (fun _ _ _ h => h) (does_yield (by kernel_rfl) ?_) ?_
  rotate_left
  · intro w0 hS0
    obtain ⟨⟨q0, q1, q2, q3, q4⟩, hH⟩ := hS0
    go_simp
    try with_reducible rfl
  simp only [pt, sb, s0, s1]
  refine tm 3 (some 8) (v := .int .i64 x.id) rfl (by kernel_rfl) (fun _ _ _ h => h) (does_call (f := 307) (args := #[.agg #[.int .i64 x.id, .bool x.up]]) (by kernel_rfl) ?_ ?_) ?_
  · intro w0 hS0
    obtain ⟨⟨q0, q1, q2, q3, q4⟩, hH⟩ := hS0
    go_simp
    try with_reducible rfl
  · intro w0 hS0
    refine (numberEvent_any x w0).mono ?_
    rintro e w2 ⟨rfl, hb2⟩
    exact ⟨rfl, laySEvent_of (hS0.2.1.out.below hb2) (hS0.2.2.out.below hb2)⟩
  simp only [pt, sb, s0, s1]
  refine tm 4 (some 9) (v := .bool false) rfl (by kernel_rfl) (fun _ _ _ h => h) (does_call (f := 176) (args := #[.agg #[.int .i64 most, .map (some b)], .int .i64 x.id]) (by kernel_rfl) ?_ ?_) ?_
  · intro w0 hS0
    obtain ⟨⟨q0, q1, q2, q3, q4⟩, hH⟩ := hS0
    go_simp
    try with_reducible rfl
  · intro w0 hS0
    refine (hasEvent_any most b m x.id w0 hS0.2.1.out.mp HW.out).mono ?_
    rintro e w2 ⟨rfl, hb2⟩
    exact ⟨HA.out, laySEvent_of (hS0.2.1.out.below hb2) (hS0.2.2.out.below hb2)⟩
  simp only [pt, sb, s0, s1]
  refine tm 5 (some 10) (v := ?_) rfl (by kernel_rfl) (fun _ _ _ h => h) (does_yield (by kernel_rfl) ?_) ?_
  rotate_left
  · intro w0 hS0
    obtain ⟨⟨q0, q1, q2, q3, q4⟩, hH⟩ := hS0
    go_simp
    try with_reducible rfl
  simp only [pt, sb, s0, s1]
  refine tm 6 (some 11) (v := ?_) rfl (by kernel_rfl) (fun _ _ _ h => h) (does_yield (by kernel_rfl) ?_) ?_
  rotate_left
  · intro w0 hS0
    obtain ⟨⟨q0, q1, q2, q3, q4⟩, hH⟩ := hS0
    go_simp
    try with_reducible rfl
  simp only [pt, sb, s0, s1]
  refine tm 7 (some 12) (v := ?_) rfl (by kernel_rfl) (fun _ _ _ h => h) (does_yield (by kernel_rfl) ?_) ?_
  rotate_left
  · intro w0 hS0
    obtain ⟨⟨q0, q1, q2, q3, q4⟩, hH⟩ := hS0
    go_simp
    try with_reducible rfl
  simp only [pt, sb, s0, s1]
  refine tm 8 (some 13) (v := ?_) rfl (by kernel_rfl) (fun _ _ _ h => h) (does_yield (by kernel_rfl) ?_) ?_
  rotate_left
  · intro w0 hS0
    obtain ⟨⟨q0, q1, q2, q3, q4⟩, hH⟩ := hS0
    go_simp
    try with_reducible rfl
  simp only [pt, sb, s0, s1]
  refine tm 9 (some 14) (v := ?_) rfl (by kernel_rfl) (fun _ _ _ h => h) (does_yield (by kernel_rfl) ?_) ?_
  rotate_left
  · intro w0 hS0
    obtain ⟨⟨q0, q1, q2, q3, q4⟩, hH⟩ := hS0
    go_simp
    try with_reducible rfl
  simp only [pt, sb, s0, s1]
  refine tm 10 (some 15) (v := ?_) rfl (by kernel_rfl) (fun _ _ _ h => h) (does_yield (by kernel_rfl) ?_) ?_
  rotate_left
  · intro w0 hS0
    obtain ⟨⟨q0, q1, q2, q3, q4⟩, hH⟩ := hS0
    go_simp
    try with_reducible rfl
  simp only [pt, sb, s0, s1]
  refine tm 11 (some 16) (v := ?_) rfl (by kernel_rfl) (fun _ _ _ h => h) (does_yield (by kernel_rfl) ?_) ?_
  rotate_left
  · intro w0 hS0
    obtain ⟨⟨q0, q1, q2, q3, q4⟩, hH⟩ := hS0
    go_simp
    try with_reducible rfl
  simp only [pt, sb, s0, s1]
  refine tm 12 (some 17) (v := ?_) rfl (by kernel_rfl) (fun _ _ _ h => h) (does_yield (by kernel_rfl) ?_) ?_
  rotate_left
  · intro w0 hS0
    obtain ⟨⟨q0, q1, q2, q3, q4⟩, hH⟩ := hS0
    go_simp
    try with_reducible rfl
  simp only [pt, sb, s0, s1]
  refine tm 13 (some 18) (v := ?_) rfl (by kernel_rfl) (fun _ _ _ h => h) (does_yield (by kernel_rfl) ?_) ?_
  rotate_left
  · intro w0 hS0
    obtain ⟨⟨q0, q1, q2, q3, q4⟩, hH⟩ := hS0
    go_simp
    try with_reducible rfl
  simp only [pt, sb, s0, s1]
  refine tm 14 (some 19) (v := ?_) rfl (by kernel_rfl) (fun _ _ _ h => h) (does_yield (by kernel_rfl) ?_) ?_
  rotate_left
  · intro w0 hS0
    obtain ⟨⟨q0, q1, q2, q3, q4⟩, hH⟩ := hS0
    go_simp
    try with_reducible rfl
  simp only [pt, sb, s0, s1]
  refine tm 15 (some 20) (v := ?_) rfl (by kernel_rfl) (fun _ _ _ h => h) (does_yield (by kernel_rfl) ?_) ?_
  rotate_left
  · intro w0 hS0
    obtain ⟨⟨q0, q1, q2, q3, q4⟩, hH⟩ := hS0
    go_simp
    try with_reducible rfl
  simp only [pt, sb, s0, s1]
  refine tm 16 (some 21) (v := .int .i64 x.id) rfl (by kernel_rfl) (fun _ _ _ h => h) (does_call (f := 307) (args := #[.agg #[.int .i64 x.id, .bool x.up]]) (by kernel_rfl) ?_ ?_) ?_
  · intro w0 hS0
    obtain ⟨⟨q0, q1, q2, q3, q4⟩, hH⟩ := hS0
    go_simp
    try with_reducible rfl
  · intro w0 hS0
    refine (numberEvent_any x w0).mono ?_
    rintro e w2 ⟨rfl, hb2⟩
    exact ⟨rfl, laySEvent_of (hS0.2.1.out.below hb2) (hS0.2.2.out.below hb2)⟩
  simp only [pt, sb, s0, s1]
  refine tm 17 (some 22) (v := .bool true) rfl (by kernel_rfl) (fun _ _ _ h => h) (does_call (f := 164) (args := #[.int .i64 x.id]) (by kernel_rfl) ?_ ?_) ?_
  · intro w0 hS0
    obtain ⟨⟨q0, q1, q2, q3, q4⟩, hH⟩ := hS0
    go_simp
    try with_reducible rfl
  · intro w0 hS0
    refine (isNumber_any x.id w0).mono ?_
    rintro e w2 ⟨rfl, rfl⟩
    exact ⟨HC.out, hS0⟩
  simp only [pt, sb, s0, s1]
  refine tm 18 (some 23) (v := ?_) rfl (by kernel_rfl) (fun _ _ _ h => h) (does_yield (by kernel_rfl) ?_) ?_
  rotate_left
  · intro w0 hS0
    obtain ⟨⟨q0, q1, q2, q3, q4⟩, hH⟩ := hS0
    go_simp
    try with_reducible rfl
  simp only [pt, sb, s0, s1]
  refine tm 19 (some 24) (v := ?_) rfl (by kernel_rfl) (fun _ _ _ h => h) (does_yield (by kernel_rfl) ?_) ?_
  rotate_left
  · intro w0 hS0
    obtain ⟨⟨q0, q1, q2, q3, q4⟩, hH⟩ := hS0
    go_simp
    try with_reducible rfl
  simp only [pt, sb, s0, s1]
  refine tm 20 (some 25) (v := ?_) rfl (by kernel_rfl) (fun _ _ _ h => h) (does_yield (by kernel_rfl) ?_) ?_
  rotate_left
  · intro w0 hS0
    obtain ⟨⟨q0, q1, q2, q3, q4⟩, hH⟩ := hS0
    go_simp
    try with_reducible rfl
  simp only [pt, sb, s0, s1]
  refine tm 21 (some 26) (v := ?_) rfl (by kernel_rfl) (fun _ _ _ h => h) (does_yield (by kernel_rfl) ?_) ?_
  rotate_left
  · intro w0 hS0
    obtain ⟨⟨q0, q1, q2, q3, q4⟩, hH⟩ := hS0
    go_simp
    try with_reducible rfl
  simp only [pt, sb, s0, s1]
  refine tm 22 (some 27) (v := ?_) rfl (by kernel_rfl) (fun _ _ _ h => h) (does_yield (by kernel_rfl) ?_) ?_
  rotate_left
  · intro w0 hS0
    obtain ⟨⟨q0, q1, q2, q3, q4⟩, hH⟩ := hS0
    go_simp
    try with_reducible rfl
  simp only [pt, sb, s0, s1]
  refine tm 23 (some 28) (v := .bool false) rfl (by kernel_rfl) (fun _ _ _ h => h) (does_call (f := 308) (args := #[.agg #[.int .i64 x.id, .bool x.up]]) (by kernel_rfl) ?_ ?_) ?_
  · intro w0 hS0
    obtain ⟨⟨q0, q1, q2, q3, q4⟩, hH⟩ := hS0
    go_simp
    try with_reducible rfl
  · intro w0 hS0
    refine (rightEvent_any x w0 hS0.2.2.out).mono ?_
    rintro e w2 ⟨rfl, hb2⟩
    exact ⟨HD.out, laySEvent_of (hS0.2.1.out.below hb2) (hS0.2.2.out.below hb2)⟩
  simp only [pt, sb, s0, s1]
  refine tm 24 (some 29) (v := ?_) rfl (by kernel_rfl) (fun _ _ _ h => h) (does_yield (by kernel_rfl) ?_) ?_
  rotate_left
  · intro w0 hS0
    obtain ⟨⟨q0, q1, q2, q3, q4⟩, hH⟩ := hS0
    go_simp
    try with_reducible rfl
  simp only [pt, sb, s0, s1]
  refine tm 25 (some 30) (v := ?_) rfl (by kernel_rfl) (fun _ _ _ h => h) (does_yield (by kernel_rfl) ?_) ?_
  rotate_left
  · intro w0 hS0
    obtain ⟨⟨q0, q1, q2, q3, q4⟩, hH⟩ := hS0
    go_simp
    try with_reducible rfl
  simp only [pt, sb, s0, s1]
  refine tame_done (by kernel_rfl) ?_ _
  intro w1 hS1
  go_wp2
  go_ret
  exact layEnds_no HN.out hS1.2.1.out.bel

set_option maxRecDepth 100000 in
set_option maxHeartbeats 4000000 in
theorem layEvent_yes (most : Int) (b : Nat) (m : MapL) (x : EventD) (w : World) (h : MapIs w b m) (hw : (Lit.int .i64 x.id).wf = true) (hm : m.length ≤ 1048576) (hf : EventFit w x) (hA : (lookM m x.id).isSome = false) (hB : ¬ most ≤ (m.length : Int)) (hC : inB x.id 1 1000 = true) (hD : eventB x = true) :
    Calls Tryz.prog 90 #[.agg #[.int .i64 most, .map (some b)], .agg (eventVs x)] w fun e w' => LayEnds w b m (layB most m x.id (eventB x)) x.id (eventVs x) 138 e w' := by
  have HF : Hid (LayIn w ((w.alloc (.cells #[.int .i64 most, .map (some b)] 116)).alloc (.cells (eventVs x) 138)) w.heap.size (w.heap.size + 1) b m most (eventVs x) 138 116) := LayIn.start w h most _ _ _
  have HN : Hid (layB most m x.id (eventB x) = true) := by show layB most m x.id (eventB x) = true; simp [layB, hA, hC, hD]; omega
  have HA : Hid (Ending.returned (.bool (lookM m x.id).isSome) = .returned (.bool false)) := ret_bool hA
  have HC : Hid (Ending.returned (.bool (inB x.id 1 1000)) = .returned (.bool true)) := ret_bool hC
  have HD : Hid (Ending.returned (.bool (eventB x)) = .returned (.bool true)) := ret_bool hD
  have HL : Hid (lookM m x.id = none ∧ ¬ w.heap.size + 1 = b ∧ m.length ≤ 1048576) := ⟨Option.isSome_eq_false_iff.1 hA |> Option.isNone_iff_eq_none.1, by have := h.lt; omega, hm⟩
  have hBd : decide (most ≤ (m.length : Int)) = false := decide_eq_false hB
  have HW : Hid ((Lit.int .i64 x.id).wf = true) := hw
  have HI : Hid (EventFit ((w.alloc (.cells #[.int .i64 most, .map (some b)] 116)).alloc (.cells (eventVs x) 138)) x) := hf.below ((((Below.refl _ w).alloc (Nat.le_refl _) _)).alloc (by simp) _)
  have hmn := meth_numberEvent
  have hmr := meth_rightEvent
  obtain ⟨s0, s1⟩ := HF.out.cells
  obtain ⟨c0, c1⟩ := event_cells HF.out.bx
  clear h hw hf hA hC hD hB
  unfold eventVs at *
  go_enter Tryz.func90, Tryz.ntmps90
  go_wp2_with fail
  clear s0 s1 c0 c1
  refine tame_region (LaySEvent w b m most x) (by kernel_rfl) (laySEvent_of HF.out.drew (HI.out.below (Below.refl _ _).drew)) ?_
  refine tm 0 (some 5) (v := ?_) rfl (by kernel_rfl) (fun _ _ _ h => h) (does_yield (by kernel_rfl) ?_) ?_
  rotate_left
  · intro w0 hS0
    obtain ⟨⟨q0, q1, q2, q3, q4⟩, hH⟩ := hS0
    go_simp
    try with_reducible rfl
  simp only [pt, sb, s0, s1]
  refine tm 1 (some 6) (v := ?_) rfl (by kernel_rfl) (fun _ _ _ h => h) (does_yield (by kernel_rfl) ?_) ?_
  rotate_left
  · intro w0 hS0
    obtain ⟨⟨q0, q1, q2, q3, q4⟩, hH⟩ := hS0
    go_simp
    try with_reducible rfl
  simp only [pt, sb, s0, s1]
  refine tm 2 (some 7) (v := ?_) rfl (by kernel_rfl) (fun _ _ _ h => h) (does_yield (by kernel_rfl) ?_) ?_
  rotate_left
  · intro w0 hS0
    obtain ⟨⟨q0, q1, q2, q3, q4⟩, hH⟩ := hS0
    go_simp
    try with_reducible rfl
  simp only [pt, sb, s0, s1]
  refine tm 3 (some 8) (v := .int .i64 x.id) rfl (by kernel_rfl) (fun _ _ _ h => h) (does_call (f := 307) (args := #[.agg #[.int .i64 x.id, .bool x.up]]) (by kernel_rfl) ?_ ?_) ?_
  · intro w0 hS0
    obtain ⟨⟨q0, q1, q2, q3, q4⟩, hH⟩ := hS0
    go_simp
    try with_reducible rfl
  · intro w0 hS0
    refine (numberEvent_any x w0).mono ?_
    rintro e w2 ⟨rfl, hb2⟩
    exact ⟨rfl, laySEvent_of (hS0.2.1.out.below hb2) (hS0.2.2.out.below hb2)⟩
  simp only [pt, sb, s0, s1]
  refine tm 4 (some 9) (v := .bool false) rfl (by kernel_rfl) (fun _ _ _ h => h) (does_call (f := 176) (args := #[.agg #[.int .i64 most, .map (some b)], .int .i64 x.id]) (by kernel_rfl) ?_ ?_) ?_
  · intro w0 hS0
    obtain ⟨⟨q0, q1, q2, q3, q4⟩, hH⟩ := hS0
    go_simp
    try with_reducible rfl
  · intro w0 hS0
    refine (hasEvent_any most b m x.id w0 hS0.2.1.out.mp HW.out).mono ?_
    rintro e w2 ⟨rfl, hb2⟩
    exact ⟨HA.out, laySEvent_of (hS0.2.1.out.below hb2) (hS0.2.2.out.below hb2)⟩
  simp only [pt, sb, s0, s1]
  refine tm 5 (some 10) (v := ?_) rfl (by kernel_rfl) (fun _ _ _ h => h) (does_yield (by kernel_rfl) ?_) ?_
  rotate_left
  · intro w0 hS0
    obtain ⟨⟨q0, q1, q2, q3, q4⟩, hH⟩ := hS0
    go_simp
    try with_reducible rfl
  simp only [pt, sb, s0, s1]
  refine tm 6 (some 11) (v := ?_) rfl (by kernel_rfl) (fun _ _ _ h => h) (does_yield (by kernel_rfl) ?_) ?_
  rotate_left
  · intro w0 hS0
    obtain ⟨⟨q0, q1, q2, q3, q4⟩, hH⟩ := hS0
    go_simp
    try with_reducible rfl
  simp only [pt, sb, s0, s1]
  refine tm 7 (some 12) (v := ?_) rfl (by kernel_rfl) (fun _ _ _ h => h) (does_yield (by kernel_rfl) ?_) ?_
  rotate_left
  · intro w0 hS0
    obtain ⟨⟨q0, q1, q2, q3, q4⟩, hH⟩ := hS0
    go_simp
    try with_reducible rfl
  simp only [pt, sb, s0, s1]
  refine tm 8 (some 13) (v := ?_) rfl (by kernel_rfl) (fun _ _ _ h => h) (does_yield (by kernel_rfl) ?_) ?_
  rotate_left
  · intro w0 hS0
    obtain ⟨⟨q0, q1, q2, q3, q4⟩, hH⟩ := hS0
    go_simp
    try with_reducible rfl
  simp only [pt, sb, s0, s1]
  refine tm 9 (some 14) (v := ?_) rfl (by kernel_rfl) (fun _ _ _ h => h) (does_yield (by kernel_rfl) ?_) ?_
  rotate_left
  · intro w0 hS0
    obtain ⟨⟨q0, q1, q2, q3, q4⟩, hH⟩ := hS0
    go_simp
    try with_reducible rfl
  simp only [pt, sb, s0, s1]
  refine tm 10 (some 15) (v := ?_) rfl (by kernel_rfl) (fun _ _ _ h => h) (does_yield (by kernel_rfl) ?_) ?_
  rotate_left
  · intro w0 hS0
    obtain ⟨⟨q0, q1, q2, q3, q4⟩, hH⟩ := hS0
    go_simp
    try with_reducible rfl
  simp only [pt, sb, s0, s1]
  refine tm 11 (some 16) (v := ?_) rfl (by kernel_rfl) (fun _ _ _ h => h) (does_yield (by kernel_rfl) ?_) ?_
  rotate_left
  · intro w0 hS0
    obtain ⟨⟨q0, q1, q2, q3, q4⟩, hH⟩ := hS0
    go_simp
    try with_reducible rfl
  simp only [pt, sb, s0, s1]
  refine tm 12 (some 17) (v := ?_) rfl (by kernel_rfl) (fun _ _ _ h => h) (does_yield (by kernel_rfl) ?_) ?_
  rotate_left
  · intro w0 hS0
    obtain ⟨⟨q0, q1, q2, q3, q4⟩, hH⟩ := hS0
    go_simp
    try with_reducible rfl
  simp only [pt, sb, s0, s1]
  refine tm 13 (some 18) (v := ?_) rfl (by kernel_rfl) (fun _ _ _ h => h) (does_yield (by kernel_rfl) ?_) ?_
  rotate_left
  · intro w0 hS0
    obtain ⟨⟨q0, q1, q2, q3, q4⟩, hH⟩ := hS0
    go_simp
    try with_reducible rfl
  simp only [pt, sb, s0, s1]
  refine tm 14 (some 19) (v := ?_) rfl (by kernel_rfl) (fun _ _ _ h => h) (does_yield (by kernel_rfl) ?_) ?_
  rotate_left
  · intro w0 hS0
    obtain ⟨⟨q0, q1, q2, q3, q4⟩, hH⟩ := hS0
    go_simp
    try with_reducible rfl
  simp only [pt, sb, s0, s1]
  refine tm 15 (some 20) (v := ?_) rfl (by kernel_rfl) (fun _ _ _ h => h) (does_yield (by kernel_rfl) ?_) ?_
  rotate_left
  · intro w0 hS0
    obtain ⟨⟨q0, q1, q2, q3, q4⟩, hH⟩ := hS0
    go_simp
    try with_reducible rfl
  simp only [pt, sb, s0, s1]
  refine tm 16 (some 21) (v := .int .i64 x.id) rfl (by kernel_rfl) (fun _ _ _ h => h) (does_call (f := 307) (args := #[.agg #[.int .i64 x.id, .bool x.up]]) (by kernel_rfl) ?_ ?_) ?_
  · intro w0 hS0
    obtain ⟨⟨q0, q1, q2, q3, q4⟩, hH⟩ := hS0
    go_simp
    try with_reducible rfl
  · intro w0 hS0
    refine (numberEvent_any x w0).mono ?_
    rintro e w2 ⟨rfl, hb2⟩
    exact ⟨rfl, laySEvent_of (hS0.2.1.out.below hb2) (hS0.2.2.out.below hb2)⟩
  simp only [pt, sb, s0, s1]
  refine tm 17 (some 22) (v := .bool true) rfl (by kernel_rfl) (fun _ _ _ h => h) (does_call (f := 164) (args := #[.int .i64 x.id]) (by kernel_rfl) ?_ ?_) ?_
  · intro w0 hS0
    obtain ⟨⟨q0, q1, q2, q3, q4⟩, hH⟩ := hS0
    go_simp
    try with_reducible rfl
  · intro w0 hS0
    refine (isNumber_any x.id w0).mono ?_
    rintro e w2 ⟨rfl, rfl⟩
    exact ⟨HC.out, hS0⟩
  simp only [pt, sb, s0, s1]
  refine tm 18 (some 23) (v := ?_) rfl (by kernel_rfl) (fun _ _ _ h => h) (does_yield (by kernel_rfl) ?_) ?_
  rotate_left
  · intro w0 hS0
    obtain ⟨⟨q0, q1, q2, q3, q4⟩, hH⟩ := hS0
    go_simp
    try with_reducible rfl
  simp only [pt, sb, s0, s1]
  refine tm 19 (some 24) (v := ?_) rfl (by kernel_rfl) (fun _ _ _ h => h) (does_yield (by kernel_rfl) ?_) ?_
  rotate_left
  · intro w0 hS0
    obtain ⟨⟨q0, q1, q2, q3, q4⟩, hH⟩ := hS0
    go_simp
    try with_reducible rfl
  simp only [pt, sb, s0, s1]
  refine tm 20 (some 25) (v := ?_) rfl (by kernel_rfl) (fun _ _ _ h => h) (does_yield (by kernel_rfl) ?_) ?_
  rotate_left
  · intro w0 hS0
    obtain ⟨⟨q0, q1, q2, q3, q4⟩, hH⟩ := hS0
    go_simp
    try with_reducible rfl
  simp only [pt, sb, s0, s1]
  refine tm 21 (some 26) (v := ?_) rfl (by kernel_rfl) (fun _ _ _ h => h) (does_yield (by kernel_rfl) ?_) ?_
  rotate_left
  · intro w0 hS0
    obtain ⟨⟨q0, q1, q2, q3, q4⟩, hH⟩ := hS0
    go_simp
    try with_reducible rfl
  simp only [pt, sb, s0, s1]
  refine tm 22 (some 27) (v := ?_) rfl (by kernel_rfl) (fun _ _ _ h => h) (does_yield (by kernel_rfl) ?_) ?_
  rotate_left
  · intro w0 hS0
    obtain ⟨⟨q0, q1, q2, q3, q4⟩, hH⟩ := hS0
    go_simp
    try with_reducible rfl
  simp only [pt, sb, s0, s1]
  refine tm 23 (some 28) (v := .bool true) rfl (by kernel_rfl) (fun _ _ _ h => h) (does_call (f := 308) (args := #[.agg #[.int .i64 x.id, .bool x.up]]) (by kernel_rfl) ?_ ?_) ?_
  · intro w0 hS0
    obtain ⟨⟨q0, q1, q2, q3, q4⟩, hH⟩ := hS0
    go_simp
    try with_reducible rfl
  · intro w0 hS0
    refine (rightEvent_any x w0 hS0.2.2.out).mono ?_
    rintro e w2 ⟨rfl, hb2⟩
    exact ⟨HD.out, laySEvent_of (hS0.2.1.out.below hb2) (hS0.2.2.out.below hb2)⟩
  simp only [pt, sb, s0, s1]
  refine tm 24 (some 29) (v := ?_) rfl (by kernel_rfl) (fun _ _ _ h => h) (does_yield (by kernel_rfl) ?_) ?_
  rotate_left
  · intro w0 hS0
    obtain ⟨⟨q0, q1, q2, q3, q4⟩, hH⟩ := hS0
    go_simp
    try with_reducible rfl
  simp only [pt, sb, s0, s1]
  refine tm 25 (some 30) (v := ?_) rfl (by kernel_rfl) (fun _ _ _ h => h) (does_yield (by kernel_rfl) ?_) ?_
  rotate_left
  · intro w0 hS0
    obtain ⟨⟨q0, q1, q2, q3, q4⟩, hH⟩ := hS0
    go_simp
    try with_reducible rfl
  simp only [pt, sb, s0, s1]
  refine tame_done (by kernel_rfl) ?_ _
  intro w1 hS1
  go_wp2_with fail
  refine last_region (LaySEvent w b m most x) 5 (by kernel_rfl) (laySEvent_of hS1.2.1.out.drew (hS1.2.2.out.below (Below.refl _ _).drew)) ?_
  refine ls 0 6 (some 31) (v := ?_) rfl (by kernel_rfl) (fun _ _ _ h => h) (does_yield (by kernel_rfl) ?_) ?_
  rotate_left
  · intro w0 hS0
    obtain ⟨⟨q0, q1, q2, q3, q4⟩, hH⟩ := hS0
    go_simp
    try with_reducible rfl
  simp only [pt, sb, s0, s1]
  refine ls 1 6 (some 32) (v := ?_) rfl (by kernel_rfl) (fun _ _ _ h => h) (does_yield (by kernel_rfl) ?_) ?_
  rotate_left
  · intro w0 hS0
    obtain ⟨⟨q0, q1, q2, q3, q4⟩, hH⟩ := hS0
    go_simp
    try with_reducible rfl
  simp only [pt, sb, s0, s1]
  refine ls 2 6 (some 33) (v := ?_) rfl (by kernel_rfl) (fun _ _ _ h => h) (does_yield (by kernel_rfl) ?_) ?_
  rotate_left
  · intro w0 hS0
    obtain ⟨⟨q0, q1, q2, q3, q4⟩, hH⟩ := hS0
    go_simp
    try with_reducible rfl
  simp only [pt, sb, s0, s1]
  refine ls 3 6 (some 34) (v := ?_) rfl (by kernel_rfl) (fun _ _ _ h => h) (does_yield (by kernel_rfl) ?_) ?_
  rotate_left
  · intro w0 hS0
    obtain ⟨⟨q0, q1, q2, q3, q4⟩, hH⟩ := hS0
    go_simp
    try with_reducible rfl
  simp only [pt, sb, s0, s1]
  refine ls 4 6 (some 35) (v := .int .i64 x.id) rfl (by kernel_rfl) (fun _ _ _ h => h) (does_call (f := 307) (args := #[.agg #[.int .i64 x.id, .bool x.up]]) (by kernel_rfl) ?_ ?_) ?_
  · intro w0 hS0
    obtain ⟨⟨q0, q1, q2, q3, q4⟩, hH⟩ := hS0
    go_simp
    try with_reducible rfl
  · intro w0 hS0
    refine (numberEvent_any x w0).mono ?_
    rintro e w2 ⟨rfl, hb2⟩
    exact ⟨rfl, laySEvent_of (hS0.2.1.out.below hb2) (hS0.2.2.out.below hb2)⟩
  simp only [pt, sb, s0, s1]
  refine last_done rfl (by kernel_rfl) (by kernel_rfl) (by kernel_rfl) ?_
  intro w1 hS1
  obtain ⟨w2, hput, hend⟩ := hS1.2.1.out.put (by omega) Tryz.underlying114 HW.out HL.out.1 HL.out.2.2 HL.out.2.1
  have HE : Hid (LayEnds w b m true x.id (eventVs x) 138 (.returned (.bool true)) w2) := hend
  clear hend hS1
  go_simp
  go_wp2
  go_ret
  rw [HN.out]
  exact HE.out

theorem layEvent_any (most : Int) (b : Nat) (m : MapL) (x : EventD) (w : World) (h : MapIs w b m) (hw : (Lit.int .i64 x.id).wf = true) (hm : m.length ≤ 1048576) (hf : EventFit w x) :
    Calls Tryz.prog 90 #[.agg #[.int .i64 most, .map (some b)], .agg (eventVs x)] w fun e w' => LayEnds w b m (layB most m x.id (eventB x)) x.id (eventVs x) 138 e w' := by
  cases hA : (lookM m x.id).isSome with
  | true => exact layEvent_no1 most b m x w h hw hm hf hA
  | false =>
    by_cases hB : most ≤ (m.length : Int)
    · exact layEvent_no2 most b m x w h hw hm hf hA hB
    cases hC : inB x.id 1 1000 with
    | false => exact layEvent_no3 most b m x w h hw hm hf hA hB hC
    | true =>
      cases hD : eventB x with
      | false => rw [← hD]; exact layEvent_no4 most b m x w h hw hm hf hA hB hC hD
      | true => rw [← hD]; exact layEvent_yes most b m x w h hw hm hf hA hB hC hD

end Go.Proofs.YtkbcplnlehdjfaaGreat

/- A shelf of a list of things of the kind Event. (Made by mkshelfof.py.) -/
namespace Go.Proofs.YtkbcplnlehdjfaaGreat
open Go.RowKit
attribute [local go_sem ↓] Go.wp_at_zero Go.wp_at_succ

/-- What holds at the head of each round. -/
def ShEventAt (w : World) (most : Int) (list : List EventD) (k : Nat) (wr : World) : Prop :=
  ∃ l : List (EventD × Nat), l.map (·.1) = list.take k ∧ ShIn eventVs (fun x : EventD => x.id) 138 116 w wr most l ∧ thingsB (fun x : EventD => x.id) (fun x : EventD => eventB x) 0 (list.take k) = true ∧ (k : Int) ≤ max most 0

set_option maxRecDepth 100000 in
set_option maxHeartbeats 4000000 in
theorem shelfOfEvent_any (a : Option Addr) (list : List EventD) (cap : Nat) (most : Int) (w : World) (hl : list.length ≤ 1048576) (h : eventK.Lies w a list) (hf : ∀ x ∈ list, EventFit w x) (hw : ∀ x ∈ list, (Lit.int .i64 x.id).wf = true) :
    Calls Tryz.prog 149 #[.slice a list.length cap, .int .i64 most] w fun e w' => ShelfEnds eventVs (fun x : EventD => x.id) 138 w most (thingsB (fun x : EventD => x.id) (fun x : EventD => eventB x) 0 list && decide ((list.length : Int) ≤ max most 0)) list e w' := by
  have hmk := run_makeMap (P := Tryz.prog) 114
  have hmn := meth_numberEvent
  have H0 : Hid (ShIn eventVs (fun x : EventD => x.id) 138 116 w (((w.alloc (.cells #[.int .i64 0, .map none] 116)).alloc (.map #[] 0)).alloc (.cells #[.int .i64 most, .map (some (w.heap.size + 1))] 116)) most []) := ShIn.start 116 w most
  have HL : Hid (eventK.Lies w a list ∧ (∀ x ∈ list, EventFit w x) ∧ ∀ x ∈ list, (Lit.int .i64 x.id).wf = true) := ⟨h, hf, hw⟩
  clear h hf hw
  go_enter Tryz.func149, Tryz.ntmps149
  go_wp2_with fail
  go_loopw [7, 15] (fun last i wr => ∃ k : Nat, k ≤ list.length ∧ i = .int .i64 k ∧ last = .int .i64 (lastOf (fun x : EventD => x.id) 0 (list.take k)) ∧ Hid (ShEventAt w most list k wr)) (fun _ i _ => list.length - (intOf i).toNat)
  case atStart => exact ⟨0, Nat.zero_le _, rfl, rfl, ⟨[], by simp, H0.out, rfl, by simp; omega⟩⟩
  case round =>
    clear H0 hmk
    obtain ⟨k, hk, rfl, rfl, HA⟩ := hrel
    obtain ⟨l, hlm, hin, hth, hkm⟩ := HA.out
    have HT : Hid (l.map (·.1) = list.take k ∧ thingsB (fun x : EventD => x.id) (fun x : EventD => eventB x) 0 (list.take k) = true ∧ (k : Int) ≤ max most 0) := ⟨hlm, hth, hkm⟩
    have HI : Hid (ShIn eventVs (fun x : EventD => x.id) 138 116 w wr most l) := hin
    clear HA hlm hin hth hkm
    by_cases hlt : k < list.length
    · have i0 : (0 : Int) ≤ (k : Int) := by omega
      have i1 : (k : Int) < (list.length : Int) := by omega
      obtain ⟨x, hx⟩ : ∃ x, list[k]? = some x := ⟨_, List.getElem?_eq_getElem hlt⟩
      have hmem := List.mem_of_getElem? hx
      have HX : Hid (list[k]? = some x) := hx
      have HF : Hid (EventFit w x ∧ (Lit.int .i64 x.id).wf = true) := ⟨HL.out.2.1 x hmem, HL.out.2.2 x hmem⟩
      obtain ⟨gs, ha, hat⟩ := event_at (HL.out.1.below HI.out.bel) hx
      obtain ⟨c0, c1⟩ := hat
      subst ha
      clear hx hmem
      go_wp2_with fail
      refine (numberEvent_any x _).mono ?_
      rintro e w2 ⟨rfl, hb2⟩
      have HI2 : Hid (ShIn eventVs (fun x : EventD => x.id) 138 116 w w2 most l) := (HI.out.below ((Below.refl _ wr).alloc (Nat.le_refl _) (.cells #[.int .i64 x.id, .bool x.up] 138))).below hb2
      have HB : Hid (w2.heap[wr.heap.size]? = some (.cells (eventVs x) 138 (0, 0))) := (hb2.block _ (by simp)).trans (heap_alloc_new _ _)
      have HZ : Hid (w.heap.size + 1 < wr.heap.size) := by show w.heap.size + 1 < wr.heap.size; have := (Array.getElem?_eq_some_iff.1 HI.out.var).1; omega
      clear hb2 HI c0 c1
      obtain ⟨d0, d1⟩ := event_cells HB.out
      obtain ⟨r0, r1, v0, v1, z0, z1⟩ := HI2.out.cells
      by_cases hle : x.id ≤ lastOf (fun x : EventD => x.id) 0 (list.take k)
      · have HN : Hid ((thingsB (fun x : EventD => x.id) (fun x : EventD => eventB x) 0 list && decide ((list.length : Int) ≤ max most 0)) = false) := by
          show _ = false
          rw [things_no HX.out (fun hh => absurd hh.2.1 (by show ¬ lastOf (fun x : EventD => x.id) 0 (list.take k) < x.id; omega))]; rfl
        go_wp2
        refine bodyPost_ret (v := .tuple #[.agg #[.int .i64 0, .map none], .bool false]) (by simp [results, Tryz.results149, go_sem, *]) rfl ?_
        exact ⟨(HI2.out.away _ _).2, .inl ⟨HN.out, rfl⟩⟩
      have HLT : Hid (lastOf (fun x : EventD => x.id) 0 (list.take k) < x.id) := by show _ < _; omega
      have hkl : (keysOf (fun x : EventD => x.id) l).length ≤ 1048576 := by
        rw [keysOf_length]
        have := congrArg List.length HT.out.1
        simp only [List.length_map, List.length_take] at this
        omega
      go_wp2_with fail
      refine (layEvent_any most (w.heap.size + 1) (keysOf (fun x : EventD => x.id) l) x w2 HI2.out.shelf.map HF.out.2 hkl (HF.out.1.below HI2.out.bel)).mono ?_
      rintro e w3 ⟨rfl, hno, hyes⟩
      cases hlay : layB most (keysOf (fun x : EventD => x.id) l) x.id (eventB x) with
      | false =>
        have HN : Hid ((thingsB (fun x : EventD => x.id) (fun x : EventD => eventB x) 0 list && decide ((list.length : Int) ≤ max most 0)) = false) := things_lay_no HX.out HT.out.1 HT.out.2.1 HLT.out hlay
        have HI3 : Hid (ShIn eventVs (fun x : EventD => x.id) 138 116 w w3 most l) := HI2.out.below (hno hlay)
        clear hno hyes hlay HI2 r0 r1 v0 v1 z0 z1 d0 d1 HB
        obtain ⟨r0, r1, v0, v1, z0, z1⟩ := HI3.out.cells
        go_wp2
        refine bodyPost_ret (v := .tuple #[.agg #[.int .i64 0, .map none], .bool false]) (by simp [results, Tryz.results149, go_sem, *]) rfl ?_
        exact ⟨(HI3.out.away _ _).2, .inl ⟨HN.out, rfl⟩⟩
      | true =>
        have HY : Hid (thingsB (fun x : EventD => x.id) (fun x : EventD => eventB x) 0 (list.take (k + 1)) = true ∧ ((k + 1 : Nat) : Int) ≤ max most 0) := things_lay_yes HX.out HT.out.1 HT.out.2.1 HLT.out hlay
        obtain ⟨g, hin4⟩ := HI2.out.lay (x := x) (e := .returned (.bool true)) (w' := w3) ⟨rfl, (fun h => by cases h), fun _ => hyes hlay⟩ (rises_last HT.out.1 HT.out.2.1 HLT.out)
        have HI4 : Hid (ShIn eventVs (fun x : EventD => x.id) 138 116 w w3 most (l ++ [(x, g)])) := hin4
        have HB3 : Hid (w3.heap[wr.heap.size]? = some (.cells (eventVs x) 138 (0, 0))) := by
          obtain ⟨g', _, _, _, hgr⟩ := hyes hlay
          exact (hgr.block _ (Array.getElem?_eq_some_iff.1 HB.out).1 (fun e => by have := Option.some.inj e; have := HZ.out; omega)).trans HB.out
        clear hno hyes hlay HI2 r0 r1 v0 v1 z0 z1 d0 d1 HB hin4
        obtain ⟨d0, d1⟩ := event_cells HB3.out
        go_wp2_with fail
        refine (numberEvent_any x _).mono ?_
        rintro e w5 ⟨rfl, hb5⟩
        have HI5 : Hid (ShIn eventVs (fun x : EventD => x.id) 138 116 w w5 most (l ++ [(x, g)])) := HI4.out.below hb5
        have HE : Hid (lastOf (fun x : EventD => x.id) 0 (list.take (k + 1)) = x.id) := lastOf_take HX.out 0
        clear hb5 HI4
        go_wp2
        go_roundw
        case rel => exact ⟨k + 1, by omega, by go_num, by rw [HE.out], ⟨l ++ [(x, g)], by rw [List.map_append, HT.out.1, take_up HX.out]; rfl, HI5.out, HY.out.1, HY.out.2⟩⟩
        case measure => simp [intOf]; omega
    · have i1 : ¬ (k : Int) < (list.length : Int) := by omega
      have HK : Hid (list.take k = list ∧ ((list.length : Int) ≤ max most 0)) := ⟨List.take_of_length_le (by omega), by have := HT.out.2.2; omega⟩
      have HY : Hid ((thingsB (fun x : EventD => x.id) (fun x : EventD => eventB x) 0 list && decide ((list.length : Int) ≤ max most 0)) = true) := by
        show _ = true
        have h1 := HT.out.2.1
        rw [HK.out.1] at h1
        rw [h1, decide_eq_true HK.out.2]; rfl
      obtain ⟨r0, r1, v0, v1, z0, z1⟩ := HI.out.cells
      go_wp2
      refine bodyPost_ret (v := .tuple #[.agg #[.int .i64 most, .map (some (w.heap.size + 1))], .bool true]) (by simp [results, Tryz.results149, go_sem, *]) rfl ?_
      exact ⟨(HI.out.away _ _).2, .inr ⟨HY.out, w.heap.size + 1, l, rfl, by rw [HT.out.1, HK.out.1], (HI.out.away _ _).1⟩⟩

end Go.Proofs.YtkbcplnlehdjfaaGreat

/- Laying a thing of the kind Board into its shelf. (Made by mkshelf.py.) -/
namespace Go.Proofs.YtkbcplnlehdjfaaGreat
open Go.RowKit
attribute [local go_sem ↓] Go.wp_at_zero Go.wp_at_succ

/-- What every order of laying in keeps. -/
def LaySBoard (w : World) (b : Nat) (m : MapL) (most : Int) (x : BoardD) (w' : World) : Prop := (w'.cell? ⟨w.heap.size, 0, none⟩ = some (.int .i64 most) ∧ w'.cell? ⟨w.heap.size, 1, none⟩ = some (.map (some b)) ∧ (∀ ty, (Builtin.len_ #[117] ty #[.map (some b)]).run Tryz.prog w' = .ok (.int .i64 (m.length : Int)) w') ∧ w'.cell? ⟨w.heap.size + 1, 0, none⟩ = some (.int .i64 x.id) ∧ w'.cell? ⟨w.heap.size + 1, 1, none⟩ = some (.bool x.shown) ∧ w'.cell? ⟨w.heap.size + 1, 2, none⟩ = some (.string x.text)) ∧ Hid (LayIn w w' w.heap.size (w.heap.size + 1) b m most (boardVs x) 141 119) ∧ Hid (BoardFit w' x)
theorem laySBoard_of {w w' : World} {b : Nat} {m : MapL} {most : Int} {x : BoardD} (h : LayIn w w' w.heap.size (w.heap.size + 1) b m most (boardVs x) 141 119) (hf : BoardFit w' x) : LaySBoard w b m most x w' :=
  ⟨⟨h.cells.1, h.cells.2, fun ty => h.mp.len Tryz.underlying117 ty, board_cells h.bx⟩, h, hf⟩
set_option maxRecDepth 100000 in
set_option maxHeartbeats 4000000 in
theorem layBoard_no1 (most : Int) (b : Nat) (m : MapL) (x : BoardD) (w : World) (h : MapIs w b m) (hw : (Lit.int .i64 x.id).wf = true) (_hm : m.length ≤ 1048576) (hf : BoardFit w x) (hA : (lookM m x.id).isSome = true) :
    Calls Tryz.prog 91 #[.agg #[.int .i64 most, .map (some b)], .agg (boardVs x)] w fun e w' => LayEnds w b m (layB most m x.id (boardB x)) x.id (boardVs x) 141 e w' := by
  have HF : Hid (LayIn w ((w.alloc (.cells #[.int .i64 most, .map (some b)] 119)).alloc (.cells (boardVs x) 141)) w.heap.size (w.heap.size + 1) b m most (boardVs x) 141 119) := LayIn.start w h most _ _ _
  have HN : Hid (layB most m x.id (boardB x) = false) := by show layB most m x.id (boardB x) = false; simp [layB, hA]
  have HA : Hid (Ending.returned (.bool (lookM m x.id).isSome) = .returned (.bool true)) := ret_bool hA
  have HW : Hid ((Lit.int .i64 x.id).wf = true) := hw
  have HI : Hid (BoardFit ((w.alloc (.cells #[.int .i64 most, .map (some b)] 119)).alloc (.cells (boardVs x) 141)) x) := hf.below ((((Below.refl _ w).alloc (Nat.le_refl _) _)).alloc (by simp) _)
  have hmn := meth_numberBoard
  have hmr := meth_rightBoard
  obtain ⟨s0, s1⟩ := HF.out.cells
  obtain ⟨c0, c1, c2⟩ := board_cells HF.out.bx
  clear h hw hf hA
  unfold boardVs at *
  go_enter Tryz.func91, Tryz.ntmps91
  go_wp2_with fail
  clear s0 s1 c0 c1 c2
  refine tame_region (LaySBoard w b m most x) (by kernel_rfl) (laySBoard_of HF.out.drew (HI.out.below (Below.refl _ _).drew)) ?_
  refine tm 0 (some 5) (v := ?_) rfl (by kernel_rfl) (fun _ _ _ h => h) (does_yield (by kernel_rfl) ?_) ?_
  rotate_left
  · intro w0 hS0
    obtain ⟨⟨q0, q1, q2, q3, q4, q5⟩, hH⟩ := hS0
    go_simp
    try with_reducible rfl
  simp only [pt, sb, s0, s1]
  refine tm 1 (some 6) (v := ?_) rfl (by kernel_rfl) (fun _ _ _ h => h) (does_yield (by kernel_rfl) ?_) ?_
  rotate_left
  · intro w0 hS0
    obtain ⟨⟨q0, q1, q2, q3, q4, q5⟩, hH⟩ := hS0
    go_simp
    try with_reducible rfl
  simp only [pt, sb, s0, s1]
  refine tm 2 (some 7) (v := ?_) rfl (by kernel_rfl) (fun _ _ _ h => h) (does_yield (by kernel_rfl) ?_) ?_
  rotate_left
  · intro w0 hS0
    obtain ⟨⟨q0, q1, q2, q3, q4, q5⟩, hH⟩ := hS0
    go_simp
    try with_reducible rfl
  simp only [pt, sb, s0, s1]
  refine tm 3 (some 8) (v := .int .i64 x.id) rfl (by kernel_rfl) (fun _ _ _ h => h) (does_call (f := 310) (args := #[.agg #[.int .i64 x.id, .bool x.shown, .string x.text]]) (by kernel_rfl) ?_ ?_) ?_
  · intro w0 hS0
    obtain ⟨⟨q0, q1, q2, q3, q4, q5⟩, hH⟩ := hS0
    go_simp
    try with_reducible rfl
  · intro w0 hS0
    refine (numberBoard_any x w0).mono ?_
    rintro e w2 ⟨rfl, hb2⟩
    exact ⟨rfl, laySBoard_of (hS0.2.1.out.below hb2) (hS0.2.2.out.below hb2)⟩
  simp only [pt, sb, s0, s1]
  refine tm 4 (some 9) (v := .bool true) rfl (by kernel_rfl) (fun _ _ _ h => h) (does_call (f := 177) (args := #[.agg #[.int .i64 most, .map (some b)], .int .i64 x.id]) (by kernel_rfl) ?_ ?_) ?_
  · intro w0 hS0
    obtain ⟨⟨q0, q1, q2, q3, q4, q5⟩, hH⟩ := hS0
    go_simp
    try with_reducible rfl
  · intro w0 hS0
    refine (hasBoard_any most b m x.id w0 hS0.2.1.out.mp HW.out).mono ?_
    rintro e w2 ⟨rfl, hb2⟩
    exact ⟨HA.out, laySBoard_of (hS0.2.1.out.below hb2) (hS0.2.2.out.below hb2)⟩
  simp only [pt, sb, s0, s1]
  refine tm 5 (some 10) (v := ?_) rfl (by kernel_rfl) (fun _ _ _ h => h) (does_yield (by kernel_rfl) ?_) ?_
  rotate_left
  · intro w0 hS0
    obtain ⟨⟨q0, q1, q2, q3, q4, q5⟩, hH⟩ := hS0
    go_simp
    try with_reducible rfl
  simp only [pt, sb, s0, s1]
  refine tm 6 (some 11) rfl (by kernel_rfl) (fun _ _ _ h => h) (does_skip (by kernel_rfl)) ?_
  simp only [pt, sb, s0, s1]
  refine tm 7 (some 12) rfl (by kernel_rfl) (fun _ _ _ h => h) (does_skip (by kernel_rfl)) ?_
  simp only [pt, sb, s0, s1]
  refine tm 8 (some 13) rfl (by kernel_rfl) (fun _ _ _ h => h) (does_skip (by kernel_rfl)) ?_
  simp only [pt, sb, s0, s1]
  refine tm 9 (some 14) rfl (by kernel_rfl) (fun _ _ _ h => h) (does_skip (by kernel_rfl)) ?_
  simp only [pt, sb, s0, s1]
  refine tm 10 (some 15) rfl (by kernel_rfl) (fun _ _ _ h => h) (does_skip (by kernel_rfl)) ?_
  simp only [pt, sb, s0, s1]
  refine tm 11 (some 16) rfl (by kernel_rfl) (fun _ _ _ h => h) (does_skip (by kernel_rfl)) ?_
  simp only [pt, sb, s0, s1]
  refine tm 12 (some 17) (v := ?_) rfl (by kernel_rfl) (fun _ _ _ h => h) (does_yield (by kernel_rfl) ?_) ?_
  rotate_left
  · intro w0 hS0
    obtain ⟨⟨q0, q1, q2, q3, q4, q5⟩, hH⟩ := hS0
    go_simp
    try with_reducible rfl
  simp only [pt, sb, s0, s1]
  refine tm 13 (some 18) (v := ?_) rfl (by kernel_rfl) (fun _ _ _ h => h) (does_yield (by kernel_rfl) ?_) ?_
  rotate_left
  · intro w0 hS0
    obtain ⟨⟨q0, q1, q2, q3, q4, q5⟩, hH⟩ := hS0
    go_simp
    try with_reducible rfl
  simp only [pt, sb, s0, s1]
  refine tm 14 (some 19) rfl (by kernel_rfl) (fun _ _ _ h => h) (does_skip (by kernel_rfl)) ?_
  simp only [pt, sb, s0, s1]
  refine tm 15 (some 20) rfl (by kernel_rfl) (fun _ _ _ h => h) (does_skip (by kernel_rfl)) ?_
  simp only [pt, sb, s0, s1]
  refine tm 16 (some 21) rfl (by kernel_rfl) (fun _ _ _ h => h) (does_skip (by kernel_rfl)) ?_
  simp only [pt, sb, s0, s1]
  refine tm 17 (some 22) rfl (by kernel_rfl) (fun _ _ _ h => h) (does_skip (by kernel_rfl)) ?_
  simp only [pt, sb, s0, s1]
  refine tm 18 (some 23) rfl (by kernel_rfl) (fun _ _ _ h => h) (does_skip (by kernel_rfl)) ?_
  simp only [pt, sb, s0, s1]
  refine tm 19 (some 24) (v := ?_) rfl (by kernel_rfl) (fun _ _ _ h => h) (does_yield (by kernel_rfl) ?_) ?_
  rotate_left
  · intro w0 hS0
    obtain ⟨⟨q0, q1, q2, q3, q4, q5⟩, hH⟩ := hS0
    go_simp
    try with_reducible rfl
  simp only [pt, sb, s0, s1]
  refine tm 20 (some 25) (v := ?_) rfl (by kernel_rfl) (fun _ _ _ h => h) (does_yield (by kernel_rfl) ?_) ?_
  rotate_left
  · intro w0 hS0
    obtain ⟨⟨q0, q1, q2, q3, q4, q5⟩, hH⟩ := hS0
    go_simp
    try with_reducible rfl
  simp only [pt, sb, s0, s1]
  refine tm 21 (some 26) rfl (by kernel_rfl) (fun _ _ _ h => h) (does_skip (by kernel_rfl)) ?_
  simp only [pt, sb, s0, s1]
  refine tm 22 (some 27) rfl (by kernel_rfl) (fun _ _ _ h => h) (does_skip (by kernel_rfl)) ?_
  simp only [pt, sb, s0, s1]
  refine tm 23 (some 28) rfl (by kernel_rfl) (fun _ _ _ h => h) (does_skip (by kernel_rfl)) ?_
  simp only [pt, sb, s0, s1]
  refine tm 24 (some 29) rfl (by kernel_rfl) (fun _ _ _ h => h) (does_skip (by kernel_rfl)) ?_
  simp only [pt, sb, s0, s1]
  refine tm 25 (some 30) (v := ?_) rfl (by kernel_rfl) (fun _ _ _ h => h) (does_yield (by kernel_rfl) ?_) ?_
  rotate_left
  · intro w0 hS0
    obtain ⟨⟨q0, q1, q2, q3, q4, q5⟩, hH⟩ := hS0
    go_simp
    try with_reducible rfl
  simp only [pt, sb, s0, s1]
  refine tame_done (by kernel_rfl) ?_ _
  intro w1 hS1
  go_wp2
  go_ret
  exact layEnds_no HN.out hS1.2.1.out.bel

set_option maxRecDepth 100000 in
set_option maxHeartbeats 4000000 in
theorem layBoard_no2 (most : Int) (b : Nat) (m : MapL) (x : BoardD) (w : World) (h : MapIs w b m) (hw : (Lit.int .i64 x.id).wf = true) (_hm : m.length ≤ 1048576) (hf : BoardFit w x) (hA : (lookM m x.id).isSome = false) (hB : most ≤ (m.length : Int)) :
    Calls Tryz.prog 91 #[.agg #[.int .i64 most, .map (some b)], .agg (boardVs x)] w fun e w' => LayEnds w b m (layB most m x.id (boardB x)) x.id (boardVs x) 141 e w' := by
  have HF : Hid (LayIn w ((w.alloc (.cells #[.int .i64 most, .map (some b)] 119)).alloc (.cells (boardVs x) 141)) w.heap.size (w.heap.size + 1) b m most (boardVs x) 141 119) := LayIn.start w h most _ _ _
  have hB2 : ¬ (m.length : Int) < most := by omega
  have HN : Hid (layB most m x.id (boardB x) = false) := by show layB most m x.id (boardB x) = false; simp [layB, hB2]
  have HA : Hid (Ending.returned (.bool (lookM m x.id).isSome) = .returned (.bool false)) := ret_bool hA
  have hBd : decide (most ≤ (m.length : Int)) = true := decide_eq_true hB
  have HW : Hid ((Lit.int .i64 x.id).wf = true) := hw
  have HI : Hid (BoardFit ((w.alloc (.cells #[.int .i64 most, .map (some b)] 119)).alloc (.cells (boardVs x) 141)) x) := hf.below ((((Below.refl _ w).alloc (Nat.le_refl _) _)).alloc (by simp) _)
  have hmn := meth_numberBoard
  have hmr := meth_rightBoard
  obtain ⟨s0, s1⟩ := HF.out.cells
  obtain ⟨c0, c1, c2⟩ := board_cells HF.out.bx
  clear h hw hf hA hB hB2
  unfold boardVs at *
  go_enter Tryz.func91, Tryz.ntmps91
  go_wp2_with fail
  clear s0 s1 c0 c1 c2
  refine tame_region (LaySBoard w b m most x) (by kernel_rfl) (laySBoard_of HF.out.drew (HI.out.below (Below.refl _ _).drew)) ?_
  refine tm 0 (some 5) (v := ?_) rfl (by kernel_rfl) (fun _ _ _ h => h) (does_yield (by kernel_rfl) ?_) ?_
  rotate_left
  · intro w0 hS0
    obtain ⟨⟨q0, q1, q2, q3, q4, q5⟩, hH⟩ := hS0
    go_simp
    try with_reducible rfl
  simp only [pt, sb, s0, s1]
  refine tm 1 (some 6) (v := ?_) rfl (by kernel_rfl) (fun _ _ _ h => h) (does_yield (by kernel_rfl) ?_) ?_
  rotate_left
  · intro w0 hS0
    obtain ⟨⟨q0, q1, q2, q3, q4, q5⟩, hH⟩ := hS0
    go_simp
    try with_reducible rfl
  simp only [pt, sb, s0, s1]
  refine tm 2 (some 7) (v := ?_) rfl (by kernel_rfl) (fun _ _ _ h => h) (does_yield (by kernel_rfl) ?_) ?_
  rotate_left
  · intro w0 hS0
    obtain ⟨⟨q0, q1, q2, q3, q4, q5⟩, hH⟩ := hS0
    go_simp
    try with_reducible rfl
  simp only [pt, sb, s0, s1]
  refine tm 3 (some 8) (v := .int .i64 x.id) rfl (by kernel_rfl) (fun _ _ _ h => h) (does_call (f := 310) (args := #[.agg #[.int .i64 x.id, .bool x.shown, .string x.text]]) (by kernel_rfl) ?_ ?_) ?_
  · intro w0 hS0
    obtain ⟨⟨q0, q1, q2, q3, q4, q5⟩, hH⟩ := hS0
    go_simp
    try with_reducible rfl
  · intro w0 hS0
    refine (numberBoard_any x w0).mono ?_
    rintro e w2 ⟨rfl, hb2⟩
    exact ⟨rfl, laySBoard_of (hS0.2.1.out.below hb2) (hS0.2.2.out.below hb2)⟩
  simp only [pt, sb, s0, s1]
  refine tm 4 (some 9) (v := .bool false) rfl (by kernel_rfl) (fun _ _ _ h => h) (does_call (f := 177) (args := #[.agg #[.int .i64 most, .map (some b)], .int .i64 x.id]) (by kernel_rfl) ?_ ?_) ?_
  · intro w0 hS0
    obtain ⟨⟨q0, q1, q2, q3, q4, q5⟩, hH⟩ := hS0
    go_simp
    try with_reducible rfl
  · intro w0 hS0
    refine (hasBoard_any most b m x.id w0 hS0.2.1.out.mp HW.out).mono ?_
    rintro e w2 ⟨rfl, hb2⟩
    exact ⟨HA.out, laySBoard_of (hS0.2.1.out.below hb2) (hS0.2.2.out.below hb2)⟩
  simp only [pt, sb, s0, s1]
  refine tm 5 (some 10) (v := ?_) rfl (by kernel_rfl) (fun _ _ _ h => h) (does_yield (by kernel_rfl) ?_) ?_
  rotate_left
  · intro w0 hS0
    obtain ⟨⟨q0, q1, q2, q3, q4, q5⟩, hH⟩ := hS0
    go_simp
    try with_reducible rfl
  simp only [pt, sb, s0, s1]
  refine tm 6 (some 11) (v := ?_) rfl (by kernel_rfl) (fun _ _ _ h => h) (does_yield (by kernel_rfl) ?_) ?_
  rotate_left
  · intro w0 hS0
    obtain ⟨⟨q0, q1, q2, q3, q4, q5⟩, hH⟩ := hS0
    go_simp
    try with_reducible rfl
  simp only [pt, sb, s0, s1]
  refine tm 7 (some 12) (v := ?_) rfl (by kernel_rfl) (fun _ _ _ h => h) (does_yield (by kernel_rfl) ?_) ?_
  rotate_left
  · intro w0 hS0
    obtain ⟨⟨q0, q1, q2, q3, q4, q5⟩, hH⟩ := hS0
    go_simp
    try with_reducible rfl
  simp only [pt, sb, s0, s1]
  refine tm 8 (some 13) (v := ?_) rfl (by kernel_rfl) (fun _ _ _ h => h) (does_yield (by kernel_rfl) ?_) ?_
  rotate_left
  · intro w0 hS0
    obtain ⟨⟨q0, q1, q2, q3, q4, q5⟩, hH⟩ := hS0
    go_simp
    try with_reducible rfl
  simp only [pt, sb, s0, s1]
  refine tm 9 (some 14) (v := ?_) rfl (by kernel_rfl) (fun _ _ _ h => h) (does_yield (by kernel_rfl) ?_) ?_
  rotate_left
  · intro w0 hS0
    obtain ⟨⟨q0, q1, q2, q3, q4, q5⟩, hH⟩ := hS0
    go_simp
    try with_reducible rfl
  simp only [pt, sb, s0, s1]
  refine tm 10 (some 15) (v := ?_) rfl (by kernel_rfl) (fun _ _ _ h => h) (does_yield (by kernel_rfl) ?_) ?_
  rotate_left
  · intro w0 hS0
    obtain ⟨⟨q0, q1, q2, q3, q4, q5⟩, hH⟩ := hS0
    go_simp
    try with_reducible rfl
  simp only [pt, sb, s0, s1]
  refine tm 11 (some 16) (v := ?_) rfl (by kernel_rfl) (fun _ _ _ h => h) (does_yield (by kernel_rfl) ?_) ?_
  rotate_left
  · intro w0 hS0
    obtain ⟨⟨q0, q1, q2, q3, q4, q5⟩, hH⟩ := hS0
    go_simp
    try with_reducible rfl
  simp only [pt, sb, s0, s1]
  refine tm 12 (some 17) (v := ?_) rfl (by kernel_rfl) (fun _ _ _ h => h) (does_yield (by kernel_rfl) ?_) ?_
  rotate_left
  · intro w0 hS0
    obtain ⟨⟨q0, q1, q2, q3, q4, q5⟩, hH⟩ := hS0
    go_simp
    try with_reducible rfl
  simp only [pt, sb, s0, s1]
  refine tm 13 (some 18) (v := ?_) rfl (by kernel_rfl) (fun _ _ _ h => h) (does_yield (by kernel_rfl) ?_) ?_
  rotate_left
  · intro w0 hS0
    obtain ⟨⟨q0, q1, q2, q3, q4, q5⟩, hH⟩ := hS0
    go_simp
    try with_reducible rfl
  simp only [pt, sb, s0, s1]
  refine tm 14 (some 19) rfl (by kernel_rfl) (fun _ _ _ h => h) (does_skip (by kernel_rfl)) ?_
  simp only [pt, sb, s0, s1]
  refine tm 15 (some 20) rfl (by kernel_rfl) (fun _ _ _ h => h) (does_skip (by kernel_rfl)) ?_
  simp only [pt, sb, s0, s1]
  refine tm 16 (some 21) rfl (by kernel_rfl) (fun _ _ _ h => h) (does_skip (by kernel_rfl)) ?_
  simp only [pt, sb, s0, s1]
  refine tm 17 (some 22) rfl (by kernel_rfl) (fun _ _ _ h => h) (does_skip (by kernel_rfl)) ?_
  simp only [pt, sb, s0, s1]
  refine tm 18 (some 23) rfl (by kernel_rfl) (fun _ _ _ h => h) (does_skip (by kernel_rfl)) ?_
  simp only [pt, sb, s0, s1]
  refine tm 19 (some 24) (v := ?_) rfl (by kernel_rfl) (fun _ _ _ h => h) (does_yield (by kernel_rfl) ?_) ?_
  rotate_left
  · intro w0 hS0
    obtain ⟨⟨q0, q1, q2, q3, q4, q5⟩, hH⟩ := hS0
    go_simp
    try with_reducible rfl
  simp only [pt, sb, s0, s1]
  refine tm 20 (some 25) (v := ?_) rfl (by kernel_rfl) (fun _ _ _ h => h) (does_yield (by kernel_rfl) ?_) ?_
  rotate_left
  · intro w0 hS0
    obtain ⟨⟨q0, q1, q2, q3, q4, q5⟩, hH⟩ := hS0
    go_simp
    try with_reducible rfl
  simp only [pt, sb, s0, s1]
  refine tm 21 (some 26) rfl (by kernel_rfl) (fun _ _ _ h => h) (does_skip (by kernel_rfl)) ?_
  simp only [pt, sb, s0, s1]
  refine tm 22 (some 27) rfl (by kernel_rfl) (fun _ _ _ h => h) (does_skip (by kernel_rfl)) ?_
  simp only [pt, sb, s0, s1]
  refine tm 23 (some 28) rfl (by kernel_rfl) (fun _ _ _ h => h) (does_skip (by kernel_rfl)) ?_
  simp only [pt, sb, s0, s1]
  refine tm 24 (some 29) rfl (by kernel_rfl) (fun _ _ _ h => h) (does_skip (by kernel_rfl)) ?_
  simp only [pt, sb, s0, s1]
  refine tm 25 (some 30) (v := ?_) rfl (by kernel_rfl) (fun _ _ _ h => h) (does_yield (by kernel_rfl) ?_) ?_
  rotate_left
  · intro w0 hS0
    obtain ⟨⟨q0, q1, q2, q3, q4, q5⟩, hH⟩ := hS0
    go_simp
    try with_reducible rfl
  simp only [pt, sb, s0, s1]
  refine tame_done (by kernel_rfl) ?_ _
  intro w1 hS1
  go_wp2
  go_ret
  exact layEnds_no HN.out hS1.2.1.out.bel

set_option maxRecDepth 100000 in
set_option maxHeartbeats 4000000 in
theorem layBoard_no3 (most : Int) (b : Nat) (m : MapL) (x : BoardD) (w : World) (h : MapIs w b m) (hw : (Lit.int .i64 x.id).wf = true) (_hm : m.length ≤ 1048576) (hf : BoardFit w x) (hA : (lookM m x.id).isSome = false) (hB : ¬ most ≤ (m.length : Int)) (hC : inB x.id 1 1000 = false) :
    Calls Tryz.prog 91 #[.agg #[.int .i64 most, .map (some b)], .agg (boardVs x)] w fun e w' => LayEnds w b m (layB most m x.id (boardB x)) x.id (boardVs x) 141 e w' := by
  have HF : Hid (LayIn w ((w.alloc (.cells #[.int .i64 most, .map (some b)] 119)).alloc (.cells (boardVs x) 141)) w.heap.size (w.heap.size + 1) b m most (boardVs x) 141 119) := LayIn.start w h most _ _ _
  have HN : Hid (layB most m x.id (boardB x) = false) := by show layB most m x.id (boardB x) = false; simp [layB, hC]
  have HA : Hid (Ending.returned (.bool (lookM m x.id).isSome) = .returned (.bool false)) := ret_bool hA
  have HC : Hid (Ending.returned (.bool (inB x.id 1 1000)) = .returned (.bool false)) := ret_bool hC
  have hBd : decide (most ≤ (m.length : Int)) = false := decide_eq_false hB
  have HW : Hid ((Lit.int .i64 x.id).wf = true) := hw
  have HI : Hid (BoardFit ((w.alloc (.cells #[.int .i64 most, .map (some b)] 119)).alloc (.cells (boardVs x) 141)) x) := hf.below ((((Below.refl _ w).alloc (Nat.le_refl _) _)).alloc (by simp) _)
  have hmn := meth_numberBoard
  have hmr := meth_rightBoard
  obtain ⟨s0, s1⟩ := HF.out.cells
  obtain ⟨c0, c1, c2⟩ := board_cells HF.out.bx
  clear h hw hf hA hC hB
  unfold boardVs at *
  go_enter Tryz.func91, Tryz.ntmps91
  go_wp2_with fail
  clear s0 s1 c0 c1 c2
  refine tame_region (LaySBoard w b m most x) (by kernel_rfl) (laySBoard_of HF.out.drew (HI.out.below (Below.refl _ _).drew)) ?_
  refine tm 0 (some 5) (v := ?_) rfl (by kernel_rfl) (fun _ _ _ h => h) (does_yield (by kernel_rfl) ?_) ?_
  rotate_left
  · intro w0 hS0
    obtain ⟨⟨q0, q1, q2, q3, q4, q5⟩, hH⟩ := hS0
    go_simp
    try with_reducible rfl
  simp only [pt, sb, s0, s1]
  refine tm 1 (some 6) (v := ?_) rfl (by kernel_rfl) (fun _ _ _ h => h) (does_yield (by kernel_rfl) ?_) ?_
  rotate_left
  · intro w0 hS0
    obtain ⟨⟨q0, q1, q2, q3, q4, q5⟩, hH⟩ := hS0
    go_simp
    try with_reducible rfl
  simp only [pt, sb, s0, s1]
  refine tm 2 (some 7) (v := ?_) rfl (by kernel_rfl) (fun _ _ _ h => h) (does_yield (by kernel_rfl) ?_) ?_
  rotate_left
  · intro w0 hS0
    obtain ⟨⟨q0, q1, q2, q3, q4, q5⟩, hH⟩ := hS0
    go_simp
    try with_reducible rfl
  simp only [pt, sb, s0, s1]
  refine tm 3 (some 8) (v := .int .i64 x.id) rfl (by kernel_rfl) (fun _ _ _ h => h) (does_call (f := 310) (args := #[.agg #[.int .i64 x.id, .bool x.shown, .string x.text]]) (by kernel_rfl) ?_ ?_) ?_
  · intro w0 hS0
    obtain ⟨⟨q0, q1, q2, q3, q4, q5⟩, hH⟩ := hS0
    go_simp
    try with_reducible rfl
  · intro w0 hS0
    refine (numberBoard_any x w0).mono ?_
    rintro e w2 ⟨rfl, hb2⟩
    exact ⟨rfl, laySBoard_of (hS0.2.1.out.below hb2) (hS0.2.2.out.below hb2)⟩
  simp only [pt, sb, s0, s1]
  refine tm 4 (some 9) (v := .bool false) rfl (by kernel_rfl) (fun _ _ _ h => h) (does_call (f := 177) (args := #[.agg #[.int .i64 most, .map (some b)], .int .i64 x.id]) (by kernel_rfl) ?_ ?_) ?_
  · intro w0 hS0
    obtain ⟨⟨q0, q1, q2, q3, q4, q5⟩, hH⟩ := hS0
    go_simp
    try with_reducible rfl
  · intro w0 hS0
    refine (hasBoard_any most b m x.id w0 hS0.2.1.out.mp HW.out).mono ?_
    rintro e w2 ⟨rfl, hb2⟩
    exact ⟨HA.out, laySBoard_of (hS0.2.1.out.below hb2) (hS0.2.2.out.below hb2)⟩
  simp only [pt, sb, s0, s1]
  refine tm 5 (some 10) (v := ?_) rfl (by kernel_rfl) (fun _ _ _ h => h) (does_yield (by kernel_rfl) ?_) ?_
  rotate_left
  · intro w0 hS0
    obtain ⟨⟨q0, q1, q2, q3, q4, q5⟩, hH⟩ := hS0
    go_simp
    try with_reducible rfl
  simp only [pt, sb, s0, s1]
  refine tm 6 (some 11) (v := ?_) rfl (by kernel_rfl) (fun _ _ _ h => h) (does_yield (by kernel_rfl) ?_) ?_
  rotate_left
  · intro w0 hS0
    obtain ⟨⟨q0, q1, q2, q3, q4, q5⟩, hH⟩ := hS0
    go_simp
    try with_reducible rfl
  simp only [pt, sb, s0, s1]
  refine tm 7 (some 12) (v := ?_) rfl (by kernel_rfl) (fun _ _ _ h => h) (does_yield (by kernel_rfl) ?_) ?_
  rotate_left
  · intro w0 hS0
    obtain ⟨⟨q0, q1, q2, q3, q4, q5⟩, hH⟩ := hS0
    go_simp
    try with_reducible rfl
  simp only [pt, sb, s0, s1]
  refine tm 8 (some 13) (v := ?_) rfl (by kernel_rfl) (fun _ _ _ h => h) (does_yield (by kernel_rfl) ?_) ?_
  rotate_left
  · intro w0 hS0
    obtain ⟨⟨q0, q1, q2, q3, q4, q5⟩, hH⟩ := hS0
    go_simp
    try with_reducible rfl
  simp only [pt, sb, s0, s1]
  refine tm 9 (some 14) (v := ?_) rfl (by kernel_rfl) (fun _ _ _ h => h) (does_yield (by kernel_rfl) ?_) ?_
  rotate_left
  · intro w0 hS0
    obtain ⟨⟨q0, q1, q2, q3, q4, q5⟩, hH⟩ := hS0
    go_simp
    try with_reducible rfl
  simp only [pt, sb, s0, s1]
  refine tm 10 (some 15) (v := ?_) rfl (by kernel_rfl) (fun _ _ _ h => h) (does_yield (by kernel_rfl) ?_) ?_
  rotate_left
  · intro w0 hS0
    obtain ⟨⟨q0, q1, q2, q3, q4, q5⟩, hH⟩ := hS0
    go_simp
    try with_reducible rfl
  simp only [pt, sb, s0, s1]
  refine tm 11 (some 16) (v := ?_) rfl (by kernel_rfl) (fun _ _ _ h => h) (does_yield (by kernel_rfl) ?_) ?_
  rotate_left
  · intro w0 hS0
    obtain ⟨⟨q0, q1, q2, q3, q4, q5⟩, hH⟩ := hS0
    go_simp
    try with_reducible rfl
  simp only [pt, sb, s0, s1]
  refine tm 12 (some 17) (v := ?_) rfl (by kernel_rfl) (fun _ _ _ h => h) (does_yield (by kernel_rfl) ?_) ?_
  rotate_left
  · intro w0 hS0
    obtain ⟨⟨q0, q1, q2, q3, q4, q5⟩, hH⟩ := hS0
    go_simp
    try with_reducible rfl
  simp only [pt, sb, s0, s1]
  refine tm 13 (some 18) (v := ?_) rfl (by kernel_rfl) (fun _ _ _ h => h) (does_yield (by kernel_rfl) ?_) ?_
  rotate_left
  · intro w0 hS0
    obtain ⟨⟨q0, q1, q2, q3, q4, q5⟩, hH⟩ := hS0
    go_simp
    try with_reducible rfl
  simp only [pt, sb, s0, s1]
  refine tm 14 (some 19) (v := ?_) rfl (by kernel_rfl) (fun _ _ _ h => h) (does_yield (by kernel_rfl) ?_) ?_
  rotate_left
  · intro w0 hS0
    obtain ⟨⟨q0, q1, q2, q3, q4, q5⟩, hH⟩ := hS0
    go_simp
    try with_reducible rfl
  simp only [pt, sb, s0, s1]
  refine tm 15 (some 20) (v := ?_) rfl (by kernel_rfl) (fun _ _ _ h => h) (does_yield (by kernel_rfl) ?_) ?_
  rotate_left
  · intro w0 hS0
    obtain ⟨⟨q0, q1, q2, q3, q4, q5⟩, hH⟩ := hS0
    go_simp
    try with_reducible rfl
  simp only [pt, sb, s0, s1]
  refine tm 16 (some 21) (v := .int .i64 x.id) rfl (by kernel_rfl) (fun _ _ _ h => h) (does_call (f := 310) (args := #[.agg #[.int .i64 x.id, .bool x.shown, .string x.text]]) (by kernel_rfl) ?_ ?_) ?_
  · intro w0 hS0
    obtain ⟨⟨q0, q1, q2, q3, q4, q5⟩, hH⟩ := hS0
    go_simp
    try with_reducible rfl
  · intro w0 hS0
    refine (numberBoard_any x w0).mono ?_
    rintro e w2 ⟨rfl, hb2⟩
    exact ⟨rfl, laySBoard_of (hS0.2.1.out.below hb2) (hS0.2.2.out.below hb2)⟩
  simp only [pt, sb, s0, s1]
  refine tm 17 (some 22) (v := .bool false) rfl (by kernel_rfl) (fun _ _ _ h => h) (does_call (f := 164) (args := #[.int .i64 x.id]) (by kernel_rfl) ?_ ?_) ?_
  · intro w0 hS0
    obtain ⟨⟨q0, q1, q2, q3, q4, q5⟩, hH⟩ := hS0
    go_simp
    try with_reducible rfl
  · intro w0 hS0
    refine (isNumber_any x.id w0).mono ?_
    rintro e w2 ⟨rfl, rfl⟩
    exact ⟨HC.out, hS0⟩
  simp only [pt, sb, s0, s1]
  refine tm 18 (some 23) (v := ?_) rfl (by kernel_rfl) (fun _ _ _ h => h) (does_yield (by kernel_rfl) ?_) ?_
  rotate_left
  · intro w0 hS0
    obtain ⟨⟨q0, q1, q2, q3, q4, q5⟩, hH⟩ := hS0
    go_simp
    try with_reducible rfl
  simp only [pt, sb, s0, s1]
  refine tm 19 (some 24) (v := ?_) rfl (by kernel_rfl) (fun _ _ _ h => h) (does_yield (by kernel_rfl) ?_) ?_
  rotate_left
  · intro w0 hS0
    obtain ⟨⟨q0, q1, q2, q3, q4, q5⟩, hH⟩ := hS0
    go_simp
    try with_reducible rfl
  simp only [pt, sb, s0, s1]
  refine tm 20 (some 25) (v := ?_) rfl (by kernel_rfl) (fun _ _ _ h => h) (does_yield (by kernel_rfl) ?_) ?_
  rotate_left
  · intro w0 hS0
    obtain ⟨⟨q0, q1, q2, q3, q4, q5⟩, hH⟩ := hS0
    go_simp
    try with_reducible rfl
  simp only [pt, sb, s0, s1]
  refine tm 21 (some 26) rfl (by kernel_rfl) (fun _ _ _ h => h) (does_skip (by kernel_rfl)) ?_
  simp only [pt, sb, s0, s1]
  refine tm 22 (some 27) rfl (by kernel_rfl) (fun _ _ _ h => h) (does_skip (by kernel_rfl)) ?_
  simp only [pt, sb, s0, s1]
  refine tm 23 (some 28) rfl (by kernel_rfl) (fun _ _ _ h => h) (does_skip (by kernel_rfl)) ?_
  simp only [pt, sb, s0, s1]
  refine tm 24 (some 29) rfl (by kernel_rfl) (fun _ _ _ h => h) (does_skip (by kernel_rfl)) ?_
  simp only [pt, sb, s0, s1]
  refine tm 25 (some 30) (v := ?_) rfl (by kernel_rfl) (fun _ _ _ h => h) (does_yield (by kernel_rfl) ?_) ?_
  rotate_left
  · intro w0 hS0
    obtain ⟨⟨q0, q1, q2, q3, q4, q5⟩, hH⟩ := hS0
    go_simp
    try with_reducible rfl
  simp only [pt, sb, s0, s1]
  refine tame_done (by kernel_rfl) ?_ _
  intro w1 hS1
  go_wp2
  go_ret
  exact layEnds_no HN.out hS1.2.1.out.bel

set_option maxRecDepth 100000 in
set_option maxHeartbeats 4000000 in
theorem layBoard_no4 (most : Int) (b : Nat) (m : MapL) (x : BoardD) (w : World) (h : MapIs w b m) (hw : (Lit.int .i64 x.id).wf = true) (_hm : m.length ≤ 1048576) (hf : BoardFit w x) (hA : (lookM m x.id).isSome = false) (hB : ¬ most ≤ (m.length : Int)) (hC : inB x.id 1 1000 = true) (hD : boardB x = false) :
    Calls Tryz.prog 91 #[.agg #[.int .i64 most, .map (some b)], .agg (boardVs x)] w fun e w' => LayEnds w b m (layB most m x.id (boardB x)) x.id (boardVs x) 141 e w' := by
  have HF : Hid (LayIn w ((w.alloc (.cells #[.int .i64 most, .map (some b)] 119)).alloc (.cells (boardVs x) 141)) w.heap.size (w.heap.size + 1) b m most (boardVs x) 141 119) := LayIn.start w h most _ _ _
  have HN : Hid (layB most m x.id (boardB x) = false) := by show layB most m x.id (boardB x) = false; simp [layB, hD]
  have HA : Hid (Ending.returned (.bool (lookM m x.id).isSome) = .returned (.bool false)) := ret_bool hA
  have HC : Hid (Ending.returned (.bool (inB x.id 1 1000)) = .returned (.bool true)) := ret_bool hC
  have HD : Hid (Ending.returned (.bool (boardB x)) = .returned (.bool false)) := ret_bool hD
  have hBd : decide (most ≤ (m.length : Int)) = false := decide_eq_false hB
  have HW : Hid ((Lit.int .i64 x.id).wf = true) := hw
  have HI : Hid (BoardFit ((w.alloc (.cells #[.int .i64 most, .map (some b)] 119)).alloc (.cells (boardVs x) 141)) x) := hf.below ((((Below.refl _ w).alloc (Nat.le_refl _) _)).alloc (by simp) _)
  have hmn := meth_numberBoard
  have hmr := meth_rightBoard
  obtain ⟨s0, s1⟩ := HF.out.cells
  obtain ⟨c0, c1, c2⟩ := board_cells HF.out.bx
  clear h hw hf hA hC hD hB
  unfold boardVs at *
  go_enter Tryz.func91, Tryz.ntmps91
  go_wp2_with fail
  clear s0 s1 c0 c1 c2
  refine tame_region (LaySBoard w b m most x) (by kernel_rfl) (laySBoard_of HF.out.drew (HI.out.below (Below.refl _ _).drew)) ?_
  refine tm 0 (some 5) (v := ?_) rfl (by kernel_rfl) (fun _ _ _ h => h) (does_yield (by kernel_rfl) ?_) ?_
  rotate_left
  · intro w0 hS0
    obtain ⟨⟨q0, q1, q2, q3, q4, q5⟩, hH⟩ := hS0
    go_simp
    try with_reducible rfl
  simp only [pt, sb, s0, s1]
  refine tm 1 (some 6) (v := ?_) rfl (by kernel_rfl) (fun _ _ _ h => h) (does_yield (by kernel_rfl) ?_) ?_
  rotate_left
  · intro w0 hS0
    obtain ⟨⟨q0, q1, q2, q3, q4, q5⟩, hH⟩ := hS0
    go_simp
    try with_reducible rfl
  simp only [pt, sb, s0, s1]
  refine tm 2 (some 7) (v := ?_) rfl (by kernel_rfl) (fun _ _ _ h => h) (does_yield (by kernel_rfl) ?_) ?_
  rotate_left
  · intro w0 hS0
    obtain ⟨⟨q0, q1, q2, q3, q4, q5⟩, hH⟩ := hS0
    go_simp
    try with_reducible rfl
  simp only [pt, sb, s0, s1]
  refine tm 3 (some 8) (v := .int .i64 x.id) rfl (by kernel_rfl) (fun _ _ _ h => h) (does_call (f := 310) (args := #[.agg #[.int .i64 x.id, .bool x.shown, .string x.text]]) (by kernel_rfl) ?_ ?_) ?_
  · intro w0 hS0
    obtain ⟨⟨q0, q1, q2, q3, q4, q5⟩, hH⟩ := hS0
    go_simp
    try with_reducible rfl
  · intro w0 hS0
    refine (numberBoard_any x w0).mono ?_
    rintro e w2 ⟨rfl, hb2⟩
    exact ⟨rfl, laySBoard_of (hS0.2.1.out.below hb2) (hS0.2.2.out.below hb2)⟩
  simp only [pt, sb, s0, s1]
  refine tm 4 (some 9) (v := .bool false) rfl (by kernel_rfl) (fun _ _ _ h => h) (does_call (f := 177) (args := #[.agg #[.int .i64 most, .map (some b)], .int .i64 x.id]) (by kernel_rfl) ?_ ?_) ?_
  · intro w0 hS0
    obtain ⟨⟨q0, q1, q2, q3, q4, q5⟩, hH⟩ := hS0
    go_simp
    try with_reducible rfl
  · intro w0 hS0
    refine (hasBoard_any most b m x.id w0 hS0.2.1.out.mp HW.out).mono ?_
    rintro e w2 ⟨rfl, hb2⟩
    exact ⟨HA.out, laySBoard_of (hS0.2.1.out.below hb2) (hS0.2.2.out.below hb2)⟩
  simp only [pt, sb, s0, s1]
  refine tm 5 (some 10) (v := ?_) rfl (by kernel_rfl) (fun _ _ _ h => h) (does_yield (by kernel_rfl) ?_) ?_
  rotate_left
  · intro w0 hS0
    obtain ⟨⟨q0, q1, q2, q3, q4, q5⟩, hH⟩ := hS0
    go_simp
    try with_reducible rfl
  simp only [pt, sb, s0, s1]
  refine tm 6 (some 11) (v := ?_) rfl (by kernel_rfl) (fun _ _ _ h => h) (does_yield (by kernel_rfl) ?_) ?_
  rotate_left
  · intro w0 hS0
    obtain ⟨⟨q0, q1, q2, q3, q4, q5⟩, hH⟩ := hS0
    go_simp
    try with_reducible rfl
  simp only [pt, sb, s0, s1]
  refine tm 7 (some 12) (v := ?_) rfl (by kernel_rfl) (fun _ _ _ h => h) (does_yield (by kernel_rfl) ?_) ?_
  rotate_left
  · intro w0 hS0
    obtain ⟨⟨q0, q1, q2, q3, q4, q5⟩, hH⟩ := hS0
    go_simp
    try with_reducible rfl
  simp only [pt, sb, s0, s1]
  refine tm 8 (some 13) (v := ?_) rfl (by kernel_rfl) (fun _ _ _ h => h) (does_yield (by kernel_rfl) ?_) ?_
  rotate_left
  · intro w0 hS0
    obtain ⟨⟨q0, q1, q2, q3, q4, q5⟩, hH⟩ := hS0
    go_simp
    try with_reducible rfl
  simp only [pt, sb, s0, s1]
  refine tm 9 (some 14) (v := ?_) rfl (by kernel_rfl) (fun _ _ _ h => h) (does_yield (by kernel_rfl) ?_) ?_
  rotate_left
  · intro w0 hS0
    obtain ⟨⟨q0, q1, q2, q3, q4, q5⟩, hH⟩ := hS0
    go_simp
    try with_reducible rfl
  simp only [pt, sb, s0, s1]
  refine tm 10 (some 15) (v := ?_) rfl (by kernel_rfl) (fun _ _ _ h => h) (does_yield (by kernel_rfl) ?_) ?_
  rotate_left
  · intro w0 hS0
    obtain ⟨⟨q0, q1, q2, q3, q4, q5⟩, hH⟩ := hS0
    go_simp
    try with_reducible rfl
  simp only [pt, sb, s0, s1]
  refine tm 11 (some 16) (v := ?_) rfl (by kernel_rfl) (fun _ _ _ h => h) (does_yield (by kernel_rfl) ?_) ?_
  rotate_left
  · intro w0 hS0
    obtain ⟨⟨q0, q1, q2, q3, q4, q5⟩, hH⟩ := hS0
    go_simp
    try with_reducible rfl
  simp only [pt, sb, s0, s1]
  refine tm 12 (some 17) (v := ?_) rfl (by kernel_rfl) (fun _ _ _ h => h) (does_yield (by kernel_rfl) ?_) ?_
  rotate_left
  · intro w0 hS0
    obtain ⟨⟨q0, q1, q2, q3, q4, q5⟩, hH⟩ := hS0
    go_simp
    try with_reducible rfl
  simp only [pt, sb, s0, s1]
  refine tm 13 (some 18) (v := ?_) rfl (by kernel_rfl) (fun _ _ _ h => h) (does_yield (by kernel_rfl) ?_) ?_
  rotate_left
  · intro w0 hS0
    obtain ⟨⟨q0, q1, q2, q3, q4, q5⟩, hH⟩ := hS0
    go_simp
    try with_reducible rfl
  simp only [pt, sb, s0, s1]
  refine tm 14 (some 19) (v := ?_) rfl (by kernel_rfl) (fun _ _ _ h => h) (does_yield (by kernel_rfl) ?_) ?_
  rotate_left
  · intro w0 hS0
    obtain ⟨⟨q0, q1, q2, q3, q4, q5⟩, hH⟩ := hS0
    go_simp
    try with_reducible rfl
  simp only [pt, sb, s0, s1]
  refine tm 15 (some 20) (v := ?_) rfl (by kernel_rfl) (fun _ _ _ h => h) (does_yield (by kernel_rfl) ?_) ?_
  rotate_left
  · intro w0 hS0
    obtain ⟨⟨q0, q1, q2, q3, q4, q5⟩, hH⟩ := hS0
    go_simp
    try with_reducible rfl
  simp only [pt, sb, s0, s1]
  refine tm 16 (some 21) (v := .int .i64 x.id) rfl (by kernel_rfl) (fun _ _ _ h => h) (does_call (f := 310) (args := #[.agg #[.int .i64 x.id, .bool x.shown, .string x.text]]) (by kernel_rfl) ?_ ?_) ?_
  · intro w0 hS0
    obtain ⟨⟨q0, q1, q2, q3, q4, q5⟩, hH⟩ := hS0
    go_simp
    try with_reducible rfl
  · intro w0 hS0
    refine (numberBoard_any x w0).mono ?_
    rintro e w2 ⟨rfl, hb2⟩
    exact ⟨rfl, laySBoard_of (hS0.2.1.out.below hb2) (hS0.2.2.out.below hb2)⟩
  simp only [pt, sb, s0, s1]
  refine tm 17 (some 22) (v := .bool true) rfl (by kernel_rfl) (fun _ _ _ h => h) (does_call (f := 164) (args := #[.int .i64 x.id]) (by kernel_rfl) ?_ ?_) ?_
  · intro w0 hS0
    obtain ⟨⟨q0, q1, q2, q3, q4, q5⟩, hH⟩ := hS0
    go_simp
    try with_reducible rfl
  · intro w0 hS0
    refine (isNumber_any x.id w0).mono ?_
    rintro e w2 ⟨rfl, rfl⟩
    exact ⟨HC.out, hS0⟩
  simp only [pt, sb, s0, s1]
  refine tm 18 (some 23) (v := ?_) rfl (by kernel_rfl) (fun _ _ _ h => h) (does_yield (by kernel_rfl) ?_) ?_
  rotate_left
  · intro w0 hS0
    obtain ⟨⟨q0, q1, q2, q3, q4, q5⟩, hH⟩ := hS0
    go_simp
    try with_reducible rfl
  simp only [pt, sb, s0, s1]
  refine tm 19 (some 24) (v := ?_) rfl (by kernel_rfl) (fun _ _ _ h => h) (does_yield (by kernel_rfl) ?_) ?_
  rotate_left
  · intro w0 hS0
    obtain ⟨⟨q0, q1, q2, q3, q4, q5⟩, hH⟩ := hS0
    go_simp
    try with_reducible rfl
  simp only [pt, sb, s0, s1]
  refine tm 20 (some 25) (v := ?_) rfl (by kernel_rfl) (fun _ _ _ h => h) (does_yield (by kernel_rfl) ?_) ?_
  rotate_left
  · intro w0 hS0
    obtain ⟨⟨q0, q1, q2, q3, q4, q5⟩, hH⟩ := hS0
    go_simp
    try with_reducible rfl
  simp only [pt, sb, s0, s1]
  refine tm 21 (some 26) (v := ?_) rfl (by kernel_rfl) (fun _ _ _ h => h) (does_yield (by kernel_rfl) ?_) ?_
  rotate_left
  · intro w0 hS0
    obtain ⟨⟨q0, q1, q2, q3, q4, q5⟩, hH⟩ := hS0
    go_simp
    try with_reducible rfl
  simp only [pt, sb, s0, s1]
  refine tm 22 (some 27) (v := ?_) rfl (by kernel_rfl) (fun _ _ _ h => h) (does_yield (by kernel_rfl) ?_) ?_
  rotate_left
  · intro w0 hS0
    obtain ⟨⟨q0, q1, q2, q3, q4, q5⟩, hH⟩ := hS0
    go_simp
    try with_reducible rfl
  simp only [pt, sb, s0, s1]
  refine tm 23 (some 28) (v := .bool false) rfl (by kernel_rfl) (fun _ _ _ h => h) (does_call (f := 311) (args := #[.agg #[.int .i64 x.id, .bool x.shown, .string x.text]]) (by kernel_rfl) ?_ ?_) ?_
  · intro w0 hS0
    obtain ⟨⟨q0, q1, q2, q3, q4, q5⟩, hH⟩ := hS0
    go_simp
    try with_reducible rfl
  · intro w0 hS0
    refine (rightBoard_any x w0 hS0.2.2.out).mono ?_
    rintro e w2 ⟨rfl, hb2⟩
    exact ⟨HD.out, laySBoard_of (hS0.2.1.out.below hb2) (hS0.2.2.out.below hb2)⟩
  simp only [pt, sb, s0, s1]
  refine tm 24 (some 29) (v := ?_) rfl (by kernel_rfl) (fun _ _ _ h => h) (does_yield (by kernel_rfl) ?_) ?_
  rotate_left
  · intro w0 hS0
    obtain ⟨⟨q0, q1, q2, q3, q4, q5⟩, hH⟩ := hS0
    go_simp
    try with_reducible rfl
  simp only [pt, sb, s0, s1]
  refine tm 25 (some 30) (v := ?_) rfl (by kernel_rfl) (fun _ _ _ h => h) (does_yield (by kernel_rfl) ?_) ?_
  rotate_left
  · intro w0 hS0
    obtain ⟨⟨q0, q1, q2, q3, q4, q5⟩, hH⟩ := hS0
    go_simp
    try with_reducible rfl
  simp only [pt, sb, s0, s1]
  refine tame_done (by kernel_rfl) ?_ _
  intro w1 hS1
  go_wp2
  go_ret
  exact layEnds_no HN.out hS1.2.1.out.bel

set_option maxRecDepth 100000 in
set_option maxHeartbeats 4000000 in
theorem layBoard_yes (most : Int) (b : Nat) (m : MapL) (x : BoardD) (w : World) (h : MapIs w b m) (hw : (Lit.int .i64 x.id).wf = true) (hm : m.length ≤ 1048576) (hf : BoardFit w x) (hA : (lookM m x.id).isSome = false) (hB : ¬ most ≤ (m.length : Int)) (hC : inB x.id 1 1000 = true) (hD : boardB x = true) :
    Calls Tryz.prog 91 #[.agg #[.int .i64 most, .map (some b)], .agg (boardVs x)] w fun e w' => LayEnds w b m (layB most m x.id (boardB x)) x.id (boardVs x) 141 e w' := by
  have HF : Hid (LayIn w ((w.alloc (.cells #[.int .i64 most, .map (some b)] 119)).alloc (.cells (boardVs x) 141)) w.heap.size (w.heap.size + 1) b m most (boardVs x) 141 119) := LayIn.start w h most _ _ _
  have HN : Hid (layB most m x.id (boardB x) = true) := by show layB most m x.id (boardB x) = true; simp [layB, hA, hC, hD]; omega
  have HA : Hid (Ending.returned (.bool (lookM m x.id).isSome) = .returned (.bool false)) := ret_bool hA
  have HC : Hid (Ending.returned (.bool (inB x.id 1 1000)) = .returned (.bool true)) := ret_bool hC
  have HD : Hid (Ending.returned (.bool (boardB x)) = .returned (.bool true)) := ret_bool hD
  have HL : Hid (lookM m x.id = none ∧ ¬ w.heap.size + 1 = b ∧ m.length ≤ 1048576) := ⟨Option.isSome_eq_false_iff.1 hA |> Option.isNone_iff_eq_none.1, by have := h.lt; omega, hm⟩
  have hBd : decide (most ≤ (m.length : Int)) = false := decide_eq_false hB
  have HW : Hid ((Lit.int .i64 x.id).wf = true) := hw
  have HI : Hid (BoardFit ((w.alloc (.cells #[.int .i64 most, .map (some b)] 119)).alloc (.cells (boardVs x) 141)) x) := hf.below ((((Below.refl _ w).alloc (Nat.le_refl _) _)).alloc (by simp) _)
  have hmn := meth_numberBoard
  have hmr := meth_rightBoard
  obtain ⟨s0, s1⟩ := HF.out.cells
  obtain ⟨c0, c1, c2⟩ := board_cells HF.out.bx
  clear h hw hf hA hC hD hB
  unfold boardVs at *
  go_enter Tryz.func91, Tryz.ntmps91
  go_wp2_with fail
  clear s0 s1 c0 c1 c2
  refine tame_region (LaySBoard w b m most x) (by kernel_rfl) (laySBoard_of HF.out.drew (HI.out.below (Below.refl _ _).drew)) ?_
  refine tm 0 (some 5) (v := ?_) rfl (by kernel_rfl) (fun _ _ _ h => h) (does_yield (by kernel_rfl) ?_) ?_
  rotate_left
  · intro w0 hS0
    obtain ⟨⟨q0, q1, q2, q3, q4, q5⟩, hH⟩ := hS0
    go_simp
    try with_reducible rfl
  simp only [pt, sb, s0, s1]
  refine tm 1 (some 6) (v := ?_) rfl (by kernel_rfl) (fun _ _ _ h => h) (does_yield (by kernel_rfl) ?_) ?_
  rotate_left
  · intro w0 hS0
    obtain ⟨⟨q0, q1, q2, q3, q4, q5⟩, hH⟩ := hS0
    go_simp
    try with_reducible rfl
  simp only [pt, sb, s0, s1]
  refine tm 2 (some 7) (v := ?_) rfl (by kernel_rfl) (fun _ _ _ h => h) (does_yield (by kernel_rfl) ?_) ?_
  rotate_left
  · intro w0 hS0
    obtain ⟨⟨q0, q1, q2, q3, q4, q5⟩, hH⟩ := hS0
    go_simp
    try with_reducible rfl
  simp only [pt, sb, s0, s1]
  refine tm 3 (some 8) (v := .int .i64 x.id) rfl (by kernel_rfl) (fun _ _ _ h => h) (does_call (f := 310) (args := #[.agg #[.int .i64 x.id, .bool x.shown, .string x.text]]) (by kernel_rfl) ?_ ?_) ?_
  · intro w0 hS0
    obtain ⟨⟨q0, q1, q2, q3, q4, q5⟩, hH⟩ := hS0
    go_simp
    try with_reducible rfl
  · intro w0 hS0
    refine (numberBoard_any x w0).mono ?_
    rintro e w2 ⟨rfl, hb2⟩
    exact ⟨rfl, laySBoard_of (hS0.2.1.out.below hb2) (hS0.2.2.out.below hb2)⟩
  simp only [pt, sb, s0, s1]
  refine tm 4 (some 9) (v := .bool false) rfl (by kernel_rfl) (fun _ _ _ h => h) (does_call (f := 177) (args := #[.agg #[.int .i64 most, .map (some b)], .int .i64 x.id]) (by kernel_rfl) ?_ ?_) ?_
  · intro w0 hS0
    obtain ⟨⟨q0, q1, q2, q3, q4, q5⟩, hH⟩ := hS0
    go_simp
    try with_reducible rfl
  · intro w0 hS0
    refine (hasBoard_any most b m x.id w0 hS0.2.1.out.mp HW.out).mono ?_
    rintro e w2 ⟨rfl, hb2⟩
    exact ⟨HA.out, laySBoard_of (hS0.2.1.out.below hb2) (hS0.2.2.out.below hb2)⟩
  simp only [pt, sb, s0, s1]
  refine tm 5 (some 10) (v := ?_) rfl (by kernel_rfl) (fun _ _ _ h => h) (does_yield (by kernel_rfl) ?_) ?_
  rotate_left
  · intro w0 hS0
    obtain ⟨⟨q0, q1, q2, q3, q4, q5⟩, hH⟩ := hS0
    go_simp
    try with_reducible rfl
  simp only [pt, sb, s0, s1]
  refine tm 6 (some 11) (v := ?_) rfl (by kernel_rfl) (fun _ _ _ h => h) (does_yield (by kernel_rfl) ?_) ?_
  rotate_left
  · intro w0 hS0
    obtain ⟨⟨q0, q1, q2, q3, q4, q5⟩, hH⟩ := hS0
    go_simp
    try with_reducible rfl
  simp only [pt, sb, s0, s1]
  refine tm 7 (some 12) (v := ?_) rfl (by kernel_rfl) (fun _ _ _ h => h) (does_yield (by kernel_rfl) ?_) ?_
  rotate_left
  · intro w0 hS0
    obtain ⟨⟨q0, q1, q2, q3, q4, q5⟩, hH⟩ := hS0
    go_simp
    try with_reducible rfl
  simp only [pt, sb, s0, s1]
  refine tm 8 (some 13) (v := ?_) rfl (by kernel_rfl) (fun _ _ _ h => h) (does_yield (by kernel_rfl) ?_) ?_
  rotate_left
  · intro w0 hS0
    obtain ⟨⟨q0, q1, q2, q3, q4, q5⟩, hH⟩ := hS0
    go_simp
    try with_reducible rfl
  simp only [pt, sb, s0, s1]
  refine tm 9 (some 14) (v := ?_) rfl (by kernel_rfl) (fun _ _ _ h => h) (does_yield (by kernel_rfl) ?_) ?_
  rotate_left
  · intro w0 hS0
    obtain ⟨⟨q0, q1, q2, q3, q4, q5⟩, hH⟩ := hS0
    go_simp
    try with_reducible rfl
  simp only [pt, sb, s0, s1]
  refine tm 10 (some 15) (v := ?_) rfl (by kernel_rfl) (fun _ _ _ h => h) (does_yield (by kernel_rfl) ?_) ?_
  rotate_left
  · intro w0 hS0
    obtain ⟨⟨q0, q1, q2, q3, q4, q5⟩, hH⟩ := hS0
    go_simp
    try with_reducible rfl
  simp only [pt, sb, s0, s1]
  refine tm 11 (some 16) (v := ?_) rfl (by kernel_rfl) (fun _ _ _ h => h) (does_yield (by kernel_rfl) ?_) ?_
  rotate_left
  · intro w0 hS0
    obtain ⟨⟨q0, q1, q2, q3, q4, q5⟩, hH⟩ := hS0
    go_simp
    try with_reducible rfl
  simp only [pt, sb, s0, s1]
  refine tm 12 (some 17) (v := ?_) rfl (by kernel_rfl) (fun _ _ _ h => h) (does_yield (by kernel_rfl) ?_) ?_
  rotate_left
  · intro w0 hS0
    obtain ⟨⟨q0, q1, q2, q3, q4, q5⟩, hH⟩ := hS0
    go_simp
    try with_reducible rfl
  simp only [pt, sb, s0, s1]
  refine tm 13 (some 18) (v := ?_) rfl (by kernel_rfl) (fun _ _ _ h => h) (does_yield (by kernel_rfl) ?_) ?_
  rotate_left
  · intro w0 hS0
    obtain ⟨⟨q0, q1, q2, q3, q4, q5⟩, hH⟩ := hS0
    go_simp
    try with_reducible rfl
  simp only [pt, sb, s0, s1]
  refine tm 14 (some 19) (v := ?_) rfl (by kernel_rfl) (fun _ _ _ h => h) (does_yield (by kernel_rfl) ?_) ?_
  rotate_left
  · intro w0 hS0
    obtain ⟨⟨q0, q1, q2, q3, q4, q5⟩, hH⟩ := hS0
    go_simp
    try with_reducible rfl
  simp only [pt, sb, s0, s1]
  refine tm 15 (some 20) (v := ?_) rfl (by kernel_rfl) (fun _ _ _ h => h) (does_yield (by kernel_rfl) ?_) ?_
  rotate_left
  · intro w0 hS0
    obtain ⟨⟨q0, q1, q2, q3, q4, q5⟩, hH⟩ := hS0
    go_simp
    try with_reducible rfl
  simp only [pt, sb, s0, s1]
  refine tm 16 (some 21) (v := .int .i64 x.id) rfl (by kernel_rfl) (fun _ _ _ h => h) (does_call (f := 310) (args := #[.agg #[.int .i64 x.id, .bool x.shown, .string x.text]]) (by kernel_rfl) ?_ ?_) ?_
  · intro w0 hS0
    obtain ⟨⟨q0, q1, q2, q3, q4, q5⟩, hH⟩ := hS0
    go_simp
    try with_reducible rfl
  · intro w0 hS0
    refine (numberBoard_any x w0).mono ?_
    rintro e w2 ⟨rfl, hb2⟩
    exact ⟨rfl, laySBoard_of (hS0.2.1.out.below hb2) (hS0.2.2.out.below hb2)⟩
  simp only [pt, sb, s0, s1]
  refine tm 17 (some 22) (v := .bool true) rfl (by kernel_rfl) (fun _ _ _ h => h) (does_call (f := 164) (args := #[.int .i64 x.id]) (by kernel_rfl) ?_ ?_) ?_
  · intro w0 hS0
    obtain ⟨⟨q0, q1, q2, q3, q4, q5⟩, hH⟩ := hS0
    go_simp
    try with_reducible rfl
  · intro w0 hS0
    refine (isNumber_any x.id w0).mono ?_
    rintro e w2 ⟨rfl, rfl⟩
    exact ⟨HC.out, hS0⟩
  simp only [pt, sb, s0, s1]
  refine tm 18 (some 23) (v := ?_) rfl (by kernel_rfl) (fun _ _ _ h => h) (does_yield (by kernel_rfl) ?_) ?_
  rotate_left
  · intro w0 hS0
    obtain ⟨⟨q0, q1, q2, q3, q4, q5⟩, hH⟩ := hS0
    go_simp
    try with_reducible rfl
  simp only [pt, sb, s0, s1]
  refine tm 19 (some 24) (v := ?_) rfl (by kernel_rfl) (fun _ _ _ h => h) (does_yield (by kernel_rfl) ?_) ?_
  rotate_left
  · intro w0 hS0
    obtain ⟨⟨q0, q1, q2, q3, q4, q5⟩, hH⟩ := hS0
    go_simp
    try with_reducible rfl
  simp only [pt, sb, s0, s1]
  refine tm 20 (some 25) (v := ?_) rfl (by kernel_rfl) (fun _ _ _ h => h) (does_yield (by kernel_rfl) ?_) ?_
  rotate_left
  · intro w0 hS0
    obtain ⟨⟨q0, q1, q2, q3, q4, q5⟩, hH⟩ := hS0
    go_simp
    try with_reducible rfl
  simp only [pt, sb, s0, s1]
  refine tm 21 (some 26) (v := ?_) rfl (by kernel_rfl) (fun _ _ _ h => h) (does_yield (by kernel_rfl) ?_) ?_
  rotate_left
  · intro w0 hS0
    obtain ⟨⟨q0, q1, q2, q3, q4, q5⟩, hH⟩ := hS0
    go_simp
    try with_reducible rfl
  simp only [pt, sb, s0, s1]
  refine tm 22 (some 27) (v := ?_) rfl (by kernel_rfl) (fun _ _ _ h => h) (does_yield (by kernel_rfl) ?_) ?_
  rotate_left
  · intro w0 hS0
    obtain ⟨⟨q0, q1, q2, q3, q4, q5⟩, hH⟩ := hS0
    go_simp
    try with_reducible rfl
  simp only [pt, sb, s0, s1]
  refine tm 23 (some 28) (v := .bool true) rfl (by kernel_rfl) (fun _ _ _ h => h) (does_call (f := 311) (args := #[.agg #[.int .i64 x.id, .bool x.shown, .string x.text]]) (by kernel_rfl) ?_ ?_) ?_
  · intro w0 hS0
    obtain ⟨⟨q0, q1, q2, q3, q4, q5⟩, hH⟩ := hS0
    go_simp
    try with_reducible rfl
  · intro w0 hS0
    refine (rightBoard_any x w0 hS0.2.2.out).mono ?_
    rintro e w2 ⟨rfl, hb2⟩
    exact ⟨HD.out, laySBoard_of (hS0.2.1.out.below hb2) (hS0.2.2.out.below hb2)⟩
  simp only [pt, sb, s0, s1]
  refine tm 24 (some 29) (v := ?_) rfl (by kernel_rfl) (fun _ _ _ h => h) (does_yield (by kernel_rfl) ?_) ?_
  rotate_left
  · intro w0 hS0
    obtain ⟨⟨q0, q1, q2, q3, q4, q5⟩, hH⟩ := hS0
    go_simp
    try with_reducible rfl
  simp only [pt, sb, s0, s1]
  refine tm 25 (some 30) (v := ?_) rfl (by kernel_rfl) (fun _ _ _ h => h) (does_yield (by kernel_rfl) ?_) ?_
  rotate_left
  · intro w0 hS0
    obtain ⟨⟨q0, q1, q2, q3, q4, q5⟩, hH⟩ := hS0
    go_simp
    try with_reducible rfl
  simp only [pt, sb, s0, s1]
  refine tame_done (by kernel_rfl) ?_ _
  intro w1 hS1
  go_wp2_with fail
  refine last_region (LaySBoard w b m most x) 5 (by kernel_rfl) (laySBoard_of hS1.2.1.out.drew (hS1.2.2.out.below (Below.refl _ _).drew)) ?_
  refine ls 0 6 (some 31) (v := ?_) rfl (by kernel_rfl) (fun _ _ _ h => h) (does_yield (by kernel_rfl) ?_) ?_
  rotate_left
  · intro w0 hS0
    obtain ⟨⟨q0, q1, q2, q3, q4, q5⟩, hH⟩ := hS0
    go_simp
    try with_reducible rfl
  simp only [pt, sb, s0, s1]
  refine ls 1 6 (some 32) (v := ?_) rfl (by kernel_rfl) (fun _ _ _ h => h) (does_yield (by kernel_rfl) ?_) ?_
  rotate_left
  · intro w0 hS0
    obtain ⟨⟨q0, q1, q2, q3, q4, q5⟩, hH⟩ := hS0
    go_simp
    try with_reducible rfl
  simp only [pt, sb, s0, s1]
  refine ls 2 6 (some 33) (v := ?_) rfl (by kernel_rfl) (fun _ _ _ h => h) (does_yield (by kernel_rfl) ?_) ?_
  rotate_left
  · intro w0 hS0
    obtain ⟨⟨q0, q1, q2, q3, q4, q5⟩, hH⟩ := hS0
    go_simp
    try with_reducible rfl
  simp only [pt, sb, s0, s1]
  refine ls 3 6 (some 34) (v := ?_) rfl (by kernel_rfl) (fun _ _ _ h => h) (does_yield (by kernel_rfl) ?_) ?_
  rotate_left
  · intro w0 hS0
    obtain ⟨⟨q0, q1, q2, q3, q4, q5⟩, hH⟩ := hS0
    go_simp
    try with_reducible rfl
  simp only [pt, sb, s0, s1]
  refine ls 4 6 (some 35) (v := .int .i64 x.id) rfl (by kernel_rfl) (fun _ _ _ h => h) (does_call (f := 310) (args := #[.agg #[.int .i64 x.id, .bool x.shown, .string x.text]]) (by kernel_rfl) ?_ ?_) ?_
  · intro w0 hS0
    obtain ⟨⟨q0, q1, q2, q3, q4, q5⟩, hH⟩ := hS0
    go_simp
    try with_reducible rfl
  · intro w0 hS0
    refine (numberBoard_any x w0).mono ?_
    rintro e w2 ⟨rfl, hb2⟩
    exact ⟨rfl, laySBoard_of (hS0.2.1.out.below hb2) (hS0.2.2.out.below hb2)⟩
  simp only [pt, sb, s0, s1]
  refine last_done rfl (by kernel_rfl) (by kernel_rfl) (by kernel_rfl) ?_
  intro w1 hS1
  obtain ⟨w2, hput, hend⟩ := hS1.2.1.out.put (by omega) Tryz.underlying117 HW.out HL.out.1 HL.out.2.2 HL.out.2.1
  have HE : Hid (LayEnds w b m true x.id (boardVs x) 141 (.returned (.bool true)) w2) := hend
  clear hend hS1
  go_simp
  go_wp2
  go_ret
  rw [HN.out]
  exact HE.out

theorem layBoard_any (most : Int) (b : Nat) (m : MapL) (x : BoardD) (w : World) (h : MapIs w b m) (hw : (Lit.int .i64 x.id).wf = true) (hm : m.length ≤ 1048576) (hf : BoardFit w x) :
    Calls Tryz.prog 91 #[.agg #[.int .i64 most, .map (some b)], .agg (boardVs x)] w fun e w' => LayEnds w b m (layB most m x.id (boardB x)) x.id (boardVs x) 141 e w' := by
  cases hA : (lookM m x.id).isSome with
  | true => exact layBoard_no1 most b m x w h hw hm hf hA
  | false =>
    by_cases hB : most ≤ (m.length : Int)
    · exact layBoard_no2 most b m x w h hw hm hf hA hB
    cases hC : inB x.id 1 1000 with
    | false => exact layBoard_no3 most b m x w h hw hm hf hA hB hC
    | true =>
      cases hD : boardB x with
      | false => rw [← hD]; exact layBoard_no4 most b m x w h hw hm hf hA hB hC hD
      | true => rw [← hD]; exact layBoard_yes most b m x w h hw hm hf hA hB hC hD

end Go.Proofs.YtkbcplnlehdjfaaGreat

/- A shelf of a list of things of the kind Board. (Made by mkshelfof.py.) -/
namespace Go.Proofs.YtkbcplnlehdjfaaGreat
open Go.RowKit
attribute [local go_sem ↓] Go.wp_at_zero Go.wp_at_succ

/-- What holds at the head of each round. -/
def ShBoardAt (w : World) (most : Int) (list : List BoardD) (k : Nat) (wr : World) : Prop :=
  ∃ l : List (BoardD × Nat), l.map (·.1) = list.take k ∧ ShIn boardVs (fun x : BoardD => x.id) 141 119 w wr most l ∧ thingsB (fun x : BoardD => x.id) (fun x : BoardD => boardB x) 0 (list.take k) = true ∧ (k : Int) ≤ max most 0

set_option maxRecDepth 100000 in
set_option maxHeartbeats 4000000 in
theorem shelfOfBoard_any (a : Option Addr) (list : List BoardD) (cap : Nat) (most : Int) (w : World) (hl : list.length ≤ 1048576) (h : boardK.Lies w a list) (hf : ∀ x ∈ list, BoardFit w x) (hw : ∀ x ∈ list, (Lit.int .i64 x.id).wf = true) :
    Calls Tryz.prog 150 #[.slice a list.length cap, .int .i64 most] w fun e w' => ShelfEnds boardVs (fun x : BoardD => x.id) 141 w most (thingsB (fun x : BoardD => x.id) (fun x : BoardD => boardB x) 0 list && decide ((list.length : Int) ≤ max most 0)) list e w' := by
  have hmk := run_makeMap (P := Tryz.prog) 117
  have hmn := meth_numberBoard
  have H0 : Hid (ShIn boardVs (fun x : BoardD => x.id) 141 119 w (((w.alloc (.cells #[.int .i64 0, .map none] 119)).alloc (.map #[] 0)).alloc (.cells #[.int .i64 most, .map (some (w.heap.size + 1))] 119)) most []) := ShIn.start 119 w most
  have HL : Hid (boardK.Lies w a list ∧ (∀ x ∈ list, BoardFit w x) ∧ ∀ x ∈ list, (Lit.int .i64 x.id).wf = true) := ⟨h, hf, hw⟩
  clear h hf hw
  go_enter Tryz.func150, Tryz.ntmps150
  go_wp2_with fail
  go_loopw [7, 15] (fun last i wr => ∃ k : Nat, k ≤ list.length ∧ i = .int .i64 k ∧ last = .int .i64 (lastOf (fun x : BoardD => x.id) 0 (list.take k)) ∧ Hid (ShBoardAt w most list k wr)) (fun _ i _ => list.length - (intOf i).toNat)
  case atStart => exact ⟨0, Nat.zero_le _, rfl, rfl, ⟨[], by simp, H0.out, rfl, by simp; omega⟩⟩
  case round =>
    clear H0 hmk
    obtain ⟨k, hk, rfl, rfl, HA⟩ := hrel
    obtain ⟨l, hlm, hin, hth, hkm⟩ := HA.out
    have HT : Hid (l.map (·.1) = list.take k ∧ thingsB (fun x : BoardD => x.id) (fun x : BoardD => boardB x) 0 (list.take k) = true ∧ (k : Int) ≤ max most 0) := ⟨hlm, hth, hkm⟩
    have HI : Hid (ShIn boardVs (fun x : BoardD => x.id) 141 119 w wr most l) := hin
    clear HA hlm hin hth hkm
    by_cases hlt : k < list.length
    · have i0 : (0 : Int) ≤ (k : Int) := by omega
      have i1 : (k : Int) < (list.length : Int) := by omega
      obtain ⟨x, hx⟩ : ∃ x, list[k]? = some x := ⟨_, List.getElem?_eq_getElem hlt⟩
      have hmem := List.mem_of_getElem? hx
      have HX : Hid (list[k]? = some x) := hx
      have HF : Hid (BoardFit w x ∧ (Lit.int .i64 x.id).wf = true) := ⟨HL.out.2.1 x hmem, HL.out.2.2 x hmem⟩
      obtain ⟨gs, ha, hat⟩ := board_at (HL.out.1.below HI.out.bel) hx
      obtain ⟨c0, c1, c2⟩ := hat
      subst ha
      clear hx hmem
      go_wp2_with fail
      refine (numberBoard_any x _).mono ?_
      rintro e w2 ⟨rfl, hb2⟩
      have HI2 : Hid (ShIn boardVs (fun x : BoardD => x.id) 141 119 w w2 most l) := (HI.out.below ((Below.refl _ wr).alloc (Nat.le_refl _) (.cells #[.int .i64 x.id, .bool x.shown, .string x.text] 141))).below hb2
      have HB : Hid (w2.heap[wr.heap.size]? = some (.cells (boardVs x) 141 (0, 0))) := (hb2.block _ (by simp)).trans (heap_alloc_new _ _)
      have HZ : Hid (w.heap.size + 1 < wr.heap.size) := by show w.heap.size + 1 < wr.heap.size; have := (Array.getElem?_eq_some_iff.1 HI.out.var).1; omega
      clear hb2 HI c0 c1 c2
      obtain ⟨d0, d1, d2⟩ := board_cells HB.out
      obtain ⟨r0, r1, v0, v1, z0, z1⟩ := HI2.out.cells
      by_cases hle : x.id ≤ lastOf (fun x : BoardD => x.id) 0 (list.take k)
      · have HN : Hid ((thingsB (fun x : BoardD => x.id) (fun x : BoardD => boardB x) 0 list && decide ((list.length : Int) ≤ max most 0)) = false) := by
          show _ = false
          rw [things_no HX.out (fun hh => absurd hh.2.1 (by show ¬ lastOf (fun x : BoardD => x.id) 0 (list.take k) < x.id; omega))]; rfl
        go_wp2
        refine bodyPost_ret (v := .tuple #[.agg #[.int .i64 0, .map none], .bool false]) (by simp [results, Tryz.results150, go_sem, *]) rfl ?_
        exact ⟨(HI2.out.away _ _).2, .inl ⟨HN.out, rfl⟩⟩
      have HLT : Hid (lastOf (fun x : BoardD => x.id) 0 (list.take k) < x.id) := by show _ < _; omega
      have hkl : (keysOf (fun x : BoardD => x.id) l).length ≤ 1048576 := by
        rw [keysOf_length]
        have := congrArg List.length HT.out.1
        simp only [List.length_map, List.length_take] at this
        omega
      go_wp2_with fail
      refine (layBoard_any most (w.heap.size + 1) (keysOf (fun x : BoardD => x.id) l) x w2 HI2.out.shelf.map HF.out.2 hkl (HF.out.1.below HI2.out.bel)).mono ?_
      rintro e w3 ⟨rfl, hno, hyes⟩
      cases hlay : layB most (keysOf (fun x : BoardD => x.id) l) x.id (boardB x) with
      | false =>
        have HN : Hid ((thingsB (fun x : BoardD => x.id) (fun x : BoardD => boardB x) 0 list && decide ((list.length : Int) ≤ max most 0)) = false) := things_lay_no HX.out HT.out.1 HT.out.2.1 HLT.out hlay
        have HI3 : Hid (ShIn boardVs (fun x : BoardD => x.id) 141 119 w w3 most l) := HI2.out.below (hno hlay)
        clear hno hyes hlay HI2 r0 r1 v0 v1 z0 z1 d0 d1 d2 HB
        obtain ⟨r0, r1, v0, v1, z0, z1⟩ := HI3.out.cells
        go_wp2
        refine bodyPost_ret (v := .tuple #[.agg #[.int .i64 0, .map none], .bool false]) (by simp [results, Tryz.results150, go_sem, *]) rfl ?_
        exact ⟨(HI3.out.away _ _).2, .inl ⟨HN.out, rfl⟩⟩
      | true =>
        have HY : Hid (thingsB (fun x : BoardD => x.id) (fun x : BoardD => boardB x) 0 (list.take (k + 1)) = true ∧ ((k + 1 : Nat) : Int) ≤ max most 0) := things_lay_yes HX.out HT.out.1 HT.out.2.1 HLT.out hlay
        obtain ⟨g, hin4⟩ := HI2.out.lay (x := x) (e := .returned (.bool true)) (w' := w3) ⟨rfl, (fun h => by cases h), fun _ => hyes hlay⟩ (rises_last HT.out.1 HT.out.2.1 HLT.out)
        have HI4 : Hid (ShIn boardVs (fun x : BoardD => x.id) 141 119 w w3 most (l ++ [(x, g)])) := hin4
        have HB3 : Hid (w3.heap[wr.heap.size]? = some (.cells (boardVs x) 141 (0, 0))) := by
          obtain ⟨g', _, _, _, hgr⟩ := hyes hlay
          exact (hgr.block _ (Array.getElem?_eq_some_iff.1 HB.out).1 (fun e => by have := Option.some.inj e; have := HZ.out; omega)).trans HB.out
        clear hno hyes hlay HI2 r0 r1 v0 v1 z0 z1 d0 d1 d2 HB hin4
        obtain ⟨d0, d1, d2⟩ := board_cells HB3.out
        go_wp2_with fail
        refine (numberBoard_any x _).mono ?_
        rintro e w5 ⟨rfl, hb5⟩
        have HI5 : Hid (ShIn boardVs (fun x : BoardD => x.id) 141 119 w w5 most (l ++ [(x, g)])) := HI4.out.below hb5
        have HE : Hid (lastOf (fun x : BoardD => x.id) 0 (list.take (k + 1)) = x.id) := lastOf_take HX.out 0
        clear hb5 HI4
        go_wp2
        go_roundw
        case rel => exact ⟨k + 1, by omega, by go_num, by rw [HE.out], ⟨l ++ [(x, g)], by rw [List.map_append, HT.out.1, take_up HX.out]; rfl, HI5.out, HY.out.1, HY.out.2⟩⟩
        case measure => simp [intOf]; omega
    · have i1 : ¬ (k : Int) < (list.length : Int) := by omega
      have HK : Hid (list.take k = list ∧ ((list.length : Int) ≤ max most 0)) := ⟨List.take_of_length_le (by omega), by have := HT.out.2.2; omega⟩
      have HY : Hid ((thingsB (fun x : BoardD => x.id) (fun x : BoardD => boardB x) 0 list && decide ((list.length : Int) ≤ max most 0)) = true) := by
        show _ = true
        have h1 := HT.out.2.1
        rw [HK.out.1] at h1
        rw [h1, decide_eq_true HK.out.2]; rfl
      obtain ⟨r0, r1, v0, v1, z0, z1⟩ := HI.out.cells
      go_wp2
      refine bodyPost_ret (v := .tuple #[.agg #[.int .i64 most, .map (some (w.heap.size + 1))], .bool true]) (by simp [results, Tryz.results150, go_sem, *]) rfl ?_
      exact ⟨(HI.out.away _ _).2, .inr ⟨HY.out, w.heap.size + 1, l, rfl, by rw [HT.out.1, HK.out.1], (HI.out.away _ _).1⟩⟩

end Go.Proofs.YtkbcplnlehdjfaaGreat

/- Laying a thing of the kind Buffer into its shelf. (Made by mkshelf.py.) -/
namespace Go.Proofs.YtkbcplnlehdjfaaGreat
open Go.RowKit
attribute [local go_sem ↓] Go.wp_at_zero Go.wp_at_succ

/-- What every order of laying in keeps. -/
def LaySBuffer (w : World) (b : Nat) (m : MapL) (most : Int) (x : BufferD) (w' : World) : Prop := (w'.cell? ⟨w.heap.size, 0, none⟩ = some (.int .i64 most) ∧ w'.cell? ⟨w.heap.size, 1, none⟩ = some (.map (some b)) ∧ (∀ ty, (Builtin.len_ #[120] ty #[.map (some b)]).run Tryz.prog w' = .ok (.int .i64 (m.length : Int)) w') ∧ w'.cell? ⟨w.heap.size + 1, 0, none⟩ = some (.int .i64 x.id) ∧ w'.cell? ⟨w.heap.size + 1, 1, none⟩ = some (.int .i64 x.max) ∧ w'.cell? ⟨w.heap.size + 1, 2, none⟩ = some (.slice x.itemsA x.items.length x.itemsC)) ∧ Hid (LayIn w w' w.heap.size (w.heap.size + 1) b m most (bufferVs x) 144 122) ∧ Hid (BufferFit w' x)
theorem laySBuffer_of {w w' : World} {b : Nat} {m : MapL} {most : Int} {x : BufferD} (h : LayIn w w' w.heap.size (w.heap.size + 1) b m most (bufferVs x) 144 122) (hf : BufferFit w' x) : LaySBuffer w b m most x w' :=
  ⟨⟨h.cells.1, h.cells.2, fun ty => h.mp.len Tryz.underlying120 ty, buffer_cells h.bx⟩, h, hf⟩
set_option maxRecDepth 100000 in
set_option maxHeartbeats 4000000 in
theorem layBuffer_no1 (most : Int) (b : Nat) (m : MapL) (x : BufferD) (w : World) (h : MapIs w b m) (hw : (Lit.int .i64 x.id).wf = true) (_hm : m.length ≤ 1048576) (hf : BufferFit w x) (hA : (lookM m x.id).isSome = true) :
    Calls Tryz.prog 92 #[.agg #[.int .i64 most, .map (some b)], .agg (bufferVs x)] w fun e w' => LayEnds w b m (layB most m x.id (bufferB x.toBufferP)) x.id (bufferVs x) 144 e w' := by
  have HF : Hid (LayIn w ((w.alloc (.cells #[.int .i64 most, .map (some b)] 122)).alloc (.cells (bufferVs x) 144)) w.heap.size (w.heap.size + 1) b m most (bufferVs x) 144 122) := LayIn.start w h most _ _ _
  have HN : Hid (layB most m x.id (bufferB x.toBufferP) = false) := by show layB most m x.id (bufferB x.toBufferP) = false; simp [layB, hA]
  have HA : Hid (Ending.returned (.bool (lookM m x.id).isSome) = .returned (.bool true)) := ret_bool hA
  have HW : Hid ((Lit.int .i64 x.id).wf = true) := hw
  have HI : Hid (BufferFit ((w.alloc (.cells #[.int .i64 most, .map (some b)] 122)).alloc (.cells (bufferVs x) 144)) x) := hf.below ((((Below.refl _ w).alloc (Nat.le_refl _) _)).alloc (by simp) _)
  have hmn := meth_numberBuffer
  have hmr := meth_rightBuffer
  obtain ⟨s0, s1⟩ := HF.out.cells
  obtain ⟨c0, c1, c2⟩ := buffer_cells HF.out.bx
  clear h hw hf hA
  unfold bufferVs at *
  go_enter Tryz.func92, Tryz.ntmps92
  go_wp2_with fail
  clear s0 s1 c0 c1 c2
  refine tame_region (LaySBuffer w b m most x) (by kernel_rfl) (laySBuffer_of HF.out.drew (HI.out.below (Below.refl _ _).drew)) ?_
  refine tm 0 (some 5) (v := ?_) rfl (by kernel_rfl) (fun _ _ _ h => h) (does_yield (by kernel_rfl) ?_) ?_
  rotate_left
  · intro w0 hS0
    obtain ⟨⟨q0, q1, q2, q3, q4, q5⟩, hH⟩ := hS0
    go_simp
    try with_reducible rfl
  simp only [pt, sb, s0, s1]
  refine tm 1 (some 6) (v := ?_) rfl (by kernel_rfl) (fun _ _ _ h => h) (does_yield (by kernel_rfl) ?_) ?_
  rotate_left
  · intro w0 hS0
    obtain ⟨⟨q0, q1, q2, q3, q4, q5⟩, hH⟩ := hS0
    go_simp
    try with_reducible rfl
  simp only [pt, sb, s0, s1]
  refine tm 2 (some 7) (v := ?_) rfl (by kernel_rfl) (fun _ _ _ h => h) (does_yield (by kernel_rfl) ?_) ?_
  rotate_left
  · intro w0 hS0
    obtain ⟨⟨q0, q1, q2, q3, q4, q5⟩, hH⟩ := hS0
    go_simp
    try with_reducible rfl
  simp only [pt, sb, s0, s1]
  refine tm 3 (some 8) (v := .int .i64 x.id) rfl (by kernel_rfl) (fun _ _ _ h => h) (does_call (f := 313) (args := #[.agg #[.int .i64 x.id, .int .i64 x.max, .slice x.itemsA x.items.length x.itemsC]]) (by kernel_rfl) ?_ ?_) ?_
  · intro w0 hS0
    obtain ⟨⟨q0, q1, q2, q3, q4, q5⟩, hH⟩ := hS0
    go_simp
    try with_reducible rfl
  · intro w0 hS0
    refine (numberBuffer_any x w0).mono ?_
    rintro e w2 ⟨rfl, hb2⟩
    exact ⟨rfl, laySBuffer_of (hS0.2.1.out.below hb2) (hS0.2.2.out.below hb2)⟩
  simp only [pt, sb, s0, s1]
  refine tm 4 (some 9) (v := .bool true) rfl (by kernel_rfl) (fun _ _ _ h => h) (does_call (f := 178) (args := #[.agg #[.int .i64 most, .map (some b)], .int .i64 x.id]) (by kernel_rfl) ?_ ?_) ?_
  · intro w0 hS0
    obtain ⟨⟨q0, q1, q2, q3, q4, q5⟩, hH⟩ := hS0
    go_simp
    try with_reducible rfl
  · intro w0 hS0
    refine (hasBuffer_any most b m x.id w0 hS0.2.1.out.mp HW.out).mono ?_
    rintro e w2 ⟨rfl, hb2⟩
    exact ⟨HA.out, laySBuffer_of (hS0.2.1.out.below hb2) (hS0.2.2.out.below hb2)⟩
  simp only [pt, sb, s0, s1]
  refine tm 5 (some 10) (v := ?_) rfl (by kernel_rfl) (fun _ _ _ h => h) (does_yield (by kernel_rfl) ?_) ?_
  rotate_left
  · intro w0 hS0
    obtain ⟨⟨q0, q1, q2, q3, q4, q5⟩, hH⟩ := hS0
    go_simp
    try with_reducible rfl
  simp only [pt, sb, s0, s1]
  refine tm 6 (some 11) rfl (by kernel_rfl) (fun _ _ _ h => h) (does_skip (by kernel_rfl)) ?_
  simp only [pt, sb, s0, s1]
  refine tm 7 (some 12) rfl (by kernel_rfl) (fun _ _ _ h => h) (does_skip (by kernel_rfl)) ?_
  simp only [pt, sb, s0, s1]
  refine tm 8 (some 13) rfl (by kernel_rfl) (fun _ _ _ h => h) (does_skip (by kernel_rfl)) ?_
  simp only [pt, sb, s0, s1]
  refine tm 9 (some 14) rfl (by kernel_rfl) (fun _ _ _ h => h) (does_skip (by kernel_rfl)) ?_
  simp only [pt, sb, s0, s1]
  refine tm 10 (some 15) rfl (by kernel_rfl) (fun _ _ _ h => h) (does_skip (by kernel_rfl)) ?_
  simp only [pt, sb, s0, s1]
  refine tm 11 (some 16) rfl (by kernel_rfl) (fun _ _ _ h => h) (does_skip (by kernel_rfl)) ?_
  simp only [pt, sb, s0, s1]
  refine tm 12 (some 17) (v := ?_) rfl (by kernel_rfl) (fun _ _ _ h => h) (does_yield (by kernel_rfl) ?_) ?_
  rotate_left
  · intro w0 hS0
    obtain ⟨⟨q0, q1, q2, q3, q4, q5⟩, hH⟩ := hS0
    go_simp
    try with_reducible rfl
  simp only [pt, sb, s0, s1]
  refine tm 13 (some 18) (v := ?_) rfl (by kernel_rfl) (fun _ _ _ h => h) (does_yield (by kernel_rfl) ?_) ?_
  rotate_left
  · intro w0 hS0
    obtain ⟨⟨q0, q1, q2, q3, q4, q5⟩, hH⟩ := hS0
    go_simp
    try with_reducible rfl
  simp only [pt, sb, s0, s1]
  refine tm 14 (some 19) rfl (by kernel_rfl) (fun _ _ _ h => h) (does_skip (by kernel_rfl)) ?_
  simp only [pt, sb, s0, s1]
  refine tm 15 (some 20) rfl (by kernel_rfl) (fun _ _ _ h => h) (does_skip (by kernel_rfl)) ?_
  simp only [pt, sb, s0, s1]
  refine tm 16 (some 21) rfl (by kernel_rfl) (fun _ _ _ h => h) (does_skip (by kernel_rfl)) ?_
  simp only [pt, sb, s0, s1]
  refine tm 17 (some 22) rfl (by kernel_rfl) (fun _ _ _ h => h) (does_skip (by kernel_rfl)) ?_
  simp only [pt, sb, s0, s1]
  refine tm 18 (some 23) rfl (by kernel_rfl) (fun _ _ _ h => h) (does_skip (by kernel_rfl)) ?_
  simp only [pt, sb, s0, s1]
  refine tm 19 (some 24) (v := ?_) rfl (by kernel_rfl) (fun _ _ _ h => h) (does_yield (by kernel_rfl) ?_) ?_
  rotate_left
  · intro w0 hS0
    obtain ⟨⟨q0, q1, q2, q3, q4, q5⟩, hH⟩ := hS0
    go_simp
    try with_reducible rfl
  simp only [pt, sb, s0, s1]
  refine tm 20 (some 25) (v := ?_) rfl (by kernel_rfl) (fun _ _ _ h => h) (does_yield (by kernel_rfl) ?_) ?_
  rotate_left
  · intro w0 hS0
    obtain ⟨⟨q0, q1, q2, q3, q4, q5⟩, hH⟩ := hS0
    go_simp
    try with_reducible rfl
  simp only [pt, sb, s0, s1]
  refine tm 21 (some 26) rfl (by kernel_rfl) (fun _ _ _ h => h) (does_skip (by kernel_rfl)) ?_
  simp only [pt, sb, s0, s1]
  refine tm 22 (some 27) rfl (by kernel_rfl) (fun _ _ _ h => h) (does_skip (by kernel_rfl)) ?_
  simp only [pt, sb, s0, s1]
  refine tm 23 (some 28) rfl (by kernel_rfl) (fun _ _ _ h => h) (does_skip (by kernel_rfl)) ?_
  simp only [pt, sb, s0, s1]
  refine tm 24 (some 29) rfl (by kernel_rfl) (fun _ _ _ h => h) (does_skip (by kernel_rfl)) ?_
  simp only [pt, sb, s0, s1]
  refine tm 25 (some 30) (v := ?_) rfl (by kernel_rfl) (fun _ _ _ h => h) (does_yield (by kernel_rfl) ?_) ?_
  rotate_left
  · intro w0 hS0
    obtain ⟨⟨q0, q1, q2, q3, q4, q5⟩, hH⟩ := hS0
    go_simp
    try with_reducible rfl
  simp only [pt, sb, s0, s1]
  refine tame_done (by kernel_rfl) ?_ _
  intro w1 hS1
  go_wp2
  go_ret
  exact layEnds_no HN.out hS1.2.1.out.bel

set_option maxRecDepth 100000 in
set_option maxHeartbeats 4000000 in
theorem layBuffer_no2 (most : Int) (b : Nat) (m : MapL) (x : BufferD) (w : World) (h : MapIs w b m) (hw : (Lit.int .i64 x.id).wf = true) (_hm : m.length ≤ 1048576) (hf : BufferFit w x) (hA : (lookM m x.id).isSome = false) (hB : most ≤ (m.length : Int)) :
    Calls Tryz.prog 92 #[.agg #[.int .i64 most, .map (some b)], .agg (bufferVs x)] w fun e w' => LayEnds w b m (layB most m x.id (bufferB x.toBufferP)) x.id (bufferVs x) 144 e w' := by
  have HF : Hid (LayIn w ((w.alloc (.cells #[.int .i64 most, .map (some b)] 122)).alloc (.cells (bufferVs x) 144)) w.heap.size (w.heap.size + 1) b m most (bufferVs x) 144 122) := LayIn.start w h most _ _ _
  have hB2 : ¬ (m.length : Int) < most := by omega
  have HN : Hid (layB most m x.id (bufferB x.toBufferP) = false) := by show layB most m x.id (bufferB x.toBufferP) = false; simp [layB, hB2]
  have HA : Hid (Ending.returned (.bool (lookM m x.id).isSome) = .returned (.bool false)) := ret_bool hA
  have hBd : decide (most ≤ (m.length : Int)) = true := decide_eq_true hB
  have HW : Hid ((Lit.int .i64 x.id).wf = true) := hw
  have HI : Hid (BufferFit ((w.alloc (.cells #[.int .i64 most, .map (some b)] 122)).alloc (.cells (bufferVs x) 144)) x) := hf.below ((((Below.refl _ w).alloc (Nat.le_refl _) _)).alloc (by simp) _)
  have hmn := meth_numberBuffer
  have hmr := meth_rightBuffer
  obtain ⟨s0, s1⟩ := HF.out.cells
  obtain ⟨c0, c1, c2⟩ := buffer_cells HF.out.bx
  clear h hw hf hA hB hB2
  unfold bufferVs at *
  go_enter Tryz.func92, Tryz.ntmps92
  go_wp2_with fail
  clear s0 s1 c0 c1 c2
  refine tame_region (LaySBuffer w b m most x) (by kernel_rfl) (laySBuffer_of HF.out.drew (HI.out.below (Below.refl _ _).drew)) ?_
  refine tm 0 (some 5) (v := ?_) rfl (by kernel_rfl) (fun _ _ _ h => h) (does_yield (by kernel_rfl) ?_) ?_
  rotate_left
  · intro w0 hS0
    obtain ⟨⟨q0, q1, q2, q3, q4, q5⟩, hH⟩ := hS0
    go_simp
    try with_reducible rfl
  simp only [pt, sb, s0, s1]
  refine tm 1 (some 6) (v := ?_) rfl (by kernel_rfl) (fun _ _ _ h => h) (does_yield (by kernel_rfl) ?_) ?_
  rotate_left
  · intro w0 hS0
    obtain ⟨⟨q0, q1, q2, q3, q4, q5⟩, hH⟩ := hS0
    go_simp
    try with_reducible rfl
  simp only [pt, sb, s0, s1]
  refine tm 2 (some 7) (v := ?_) rfl (by kernel_rfl) (fun _ _ _ h => h) (does_yield (by kernel_rfl) ?_) ?_
  rotate_left
  · intro w0 hS0
    obtain ⟨⟨q0, q1, q2, q3, q4, q5⟩, hH⟩ := hS0
    go_simp
    try with_reducible rfl
  simp only [pt, sb, s0, s1]
  refine tm 3 (some 8) (v := .int .i64 x.id) rfl (by kernel_rfl) (fun _ _ _ h => h) (does_call (f := 313) (args := #[.agg #[.int .i64 x.id, .int .i64 x.max, .slice x.itemsA x.items.length x.itemsC]]) (by kernel_rfl) ?_ ?_) ?_
  · intro w0 hS0
    obtain ⟨⟨q0, q1, q2, q3, q4, q5⟩, hH⟩ := hS0
    go_simp
    try with_reducible rfl
  · intro w0 hS0
    refine (numberBuffer_any x w0).mono ?_
    rintro e w2 ⟨rfl, hb2⟩
    exact ⟨rfl, laySBuffer_of (hS0.2.1.out.below hb2) (hS0.2.2.out.below hb2)⟩
  simp only [pt, sb, s0, s1]
  refine tm 4 (some 9) (v := .bool false) rfl (by kernel_rfl) (fun _ _ _ h => h) (does_call (f := 178) (args := #[.agg #[.int .i64 most, .map (some b)], .int .i64 x.id]) (by kernel_rfl) ?_ ?_) ?_
  · intro w0 hS0
    obtain ⟨⟨q0, q1, q2, q3, q4, q5⟩, hH⟩ := hS0
    go_simp
    try with_reducible rfl
  · intro w0 hS0
    refine (hasBuffer_any most b m x.id w0 hS0.2.1.out.mp HW.out).mono ?_
    rintro e w2 ⟨rfl, hb2⟩
    exact ⟨HA.out, laySBuffer_of (hS0.2.1.out.below hb2) (hS0.2.2.out.below hb2)⟩
  simp only [pt, sb, s0, s1]
  refine tm 5 (some 10) (v := ?_) rfl (by kernel_rfl) (fun _ _ _ h => h) (does_yield (by kernel_rfl) ?_) ?_
  rotate_left
  · intro w0 hS0
    obtain ⟨⟨q0, q1, q2, q3, q4, q5⟩, hH⟩ := hS0
    go_simp
    try with_reducible rfl
  simp only [pt, sb, s0, s1]
  refine tm 6 (some 11) (v := ?_) rfl (by kernel_rfl) (fun _ _ _ h => h) (does_yield (by kernel_rfl) ?_) ?_
  rotate_left
  · intro w0 hS0
    obtain ⟨⟨q0, q1, q2, q3, q4, q5⟩, hH⟩ := hS0
    go_simp
    try with_reducible rfl
  simp only [pt, sb, s0, s1]
  refine tm 7 (some 12) (v := ?_) rfl (by kernel_rfl) (fun _ _ _ h => h) (does_yield (by kernel_rfl) ?_) ?_
  rotate_left
  · intro w0 hS0
    obtain ⟨⟨q0, q1, q2, q3, q4, q5⟩, hH⟩ := hS0
    go_simp
    try with_reducible rfl
  simp only [pt, sb, s0, s1]
  refine tm 8 (some 13) (v := ?_) rfl (by kernel_rfl) (fun _ _ _ h => h) (does_yield (by kernel_rfl) ?_) ?_
  rotate_left
  · intro w0 hS0
    obtain ⟨⟨q0, q1, q2, q3, q4, q5⟩, hH⟩ := hS0
    go_simp
    try with_reducible rfl
  simp only [pt, sb, s0, s1]
  refine tm 9 (some 14) (v := ?_) rfl (by kernel_rfl) (fun _ _ _ h => h) (does_yield (by kernel_rfl) ?_) ?_
  rotate_left
  · intro w0 hS0
    obtain ⟨⟨q0, q1, q2, q3, q4, q5⟩, hH⟩ := hS0
    go_simp
    try with_reducible rfl
  simp only [pt, sb, s0, s1]
  refine tm 10 (some 15) (v := ?_) rfl (by kernel_rfl) (fun _ _ _ h => h) (does_yield (by kernel_rfl) ?_) ?_
  rotate_left
  · intro w0 hS0
    obtain ⟨⟨q0, q1, q2, q3, q4, q5⟩, hH⟩ := hS0
    go_simp
    try with_reducible rfl
  simp only [pt, sb, s0, s1]
  refine tm 11 (some 16) (v := ?_) rfl (by kernel_rfl) (fun _ _ _ h => h) (does_yield (by kernel_rfl) ?_) ?_
  rotate_left
  · intro w0 hS0
    obtain ⟨⟨q0, q1, q2, q3, q4, q5⟩, hH⟩ := hS0
    go_simp
    try with_reducible rfl
  simp only [pt, sb, s0, s1]
  refine tm 12 (some 17) (v := ?_) rfl (by kernel_rfl) (fun _ _ _ h => h) (does_yield (by kernel_rfl) ?_) ?_
  rotate_left
  · intro w0 hS0
    obtain ⟨⟨q0, q1, q2, q3, q4, q5⟩, hH⟩ := hS0
    go_simp
    try with_reducible rfl
  simp only [pt, sb, s0, s1]
  refine tm 13 (some 18) (v := ?_) rfl (by kernel_rfl) (fun _ _ _ h => h) (does_yield (by kernel_rfl) ?_) ?_
  rotate_left
  · intro w0 hS0
    obtain ⟨⟨q0, q1, q2, q3, q4, q5⟩, hH⟩ := hS0
    go_simp
    try with_reducible rfl
  simp only [pt, sb, s0, s1]
  refine tm 14 (some 19) rfl (by kernel_rfl) (fun _ _ _ h => h) (does_skip (by kernel_rfl)) ?_
  simp only [pt, sb, s0, s1]
  refine tm 15 (some 20) rfl (by kernel_rfl) (fun _ _ _ h => h) (does_skip (by kernel_rfl)) ?_
  simp only [pt, sb, s0, s1]
  refine tm 16 (some 21) rfl (by kernel_rfl) (fun _ _ _ h => h) (does_skip (by kernel_rfl)) ?_
  simp only [pt, sb, s0, s1]
  refine tm 17 (some 22) rfl (by kernel_rfl) (fun _ _ _ h => h) (does_skip (by kernel_rfl)) ?_
  simp only [pt, sb, s0, s1]
  refine tm 18 (some 23) rfl (by kernel_rfl) (fun _ _ _ h => h) (does_skip (by kernel_rfl)) ?_
  simp only [pt, sb, s0, s1]
  refine tm 19 (some 24) (v := ?_) rfl (by kernel_rfl) (fun _ _ _ h => h) (does_yield (by kernel_rfl) ?_) ?_
  rotate_left
  · intro w0 hS0
    obtain ⟨⟨q0, q1, q2, q3, q4, q5⟩, hH⟩ := hS0
    go_simp
    try with_reducible rfl
  simp only [pt, sb, s0, s1]
  refine tm 20 (some 25) (v := ?_) rfl (by kernel_rfl) (fun _ _ _ h => h) (does_yield (by kernel_rfl) ?_) ?_
  rotate_left
  · intro w0 hS0
    obtain ⟨⟨q0, q1, q2, q3, q4, q5⟩, hH⟩ := hS0
    go_simp
    try with_reducible rfl
  simp only [pt, sb, s0, s1]
  refine tm 21 (some 26) rfl (by kernel_rfl) (fun _ _ _ h => h) (does_skip (by kernel_rfl)) ?_
  simp only [pt, sb, s0, s1]
  refine tm 22 (some 27) rfl (by kernel_rfl) (fun _ _ _ h => h) (does_skip (by kernel_rfl)) ?_
  simp only [pt, sb, s0, s1]
  refine tm 23 (some 28) rfl (by kernel_rfl) (fun _ _ _ h => h) (does_skip (by kernel_rfl)) ?_
  simp only [pt, sb, s0, s1]
  refine tm 24 (some 29) rfl (by kernel_rfl) (fun _ _ _ h => h) (does_skip (by kernel_rfl)) ?_
  simp only [pt, sb, s0, s1]
  refine tm 25 (some 30) (v := ?_) rfl (by kernel_rfl) (fun _ _ _ h => h) (does_yield (by kernel_rfl) ?_) ?_
  rotate_left
  · intro w0 hS0
    obtain ⟨⟨q0, q1, q2, q3, q4, q5⟩, hH⟩ := hS0
    go_simp
    try with_reducible rfl
  simp only [pt, sb, s0, s1]
  refine tame_done (by kernel_rfl) ?_ _
  intro w1 hS1
  go_wp2
  go_ret
  exact layEnds_no HN.out hS1.2.1.out.bel

set_option maxRecDepth 100000 in
set_option maxHeartbeats 4000000 in
theorem layBuffer_no3 (most : Int) (b : Nat) (m : MapL) (x : BufferD) (w : World) (h : MapIs w b m) (hw : (Lit.int .i64 x.id).wf = true) (_hm : m.length ≤ 1048576) (hf : BufferFit w x) (hA : (lookM m x.id).isSome = false) (hB : ¬ most ≤ (m.length : Int)) (hC : inB x.id 1 1000 = false) :
    Calls Tryz.prog 92 #[.agg #[.int .i64 most, .map (some b)], .agg (bufferVs x)] w fun e w' => LayEnds w b m (layB most m x.id (bufferB x.toBufferP)) x.id (bufferVs x) 144 e w' := by
  have HF : Hid (LayIn w ((w.alloc (.cells #[.int .i64 most, .map (some b)] 122)).alloc (.cells (bufferVs x) 144)) w.heap.size (w.heap.size + 1) b m most (bufferVs x) 144 122) := LayIn.start w h most _ _ _
  have HN : Hid (layB most m x.id (bufferB x.toBufferP) = false) := by show layB most m x.id (bufferB x.toBufferP) = false; simp [layB, hC]
  have HA : Hid (Ending.returned (.bool (lookM m x.id).isSome) = .returned (.bool false)) := ret_bool hA
  have HC : Hid (Ending.returned (.bool (inB x.id 1 1000)) = .returned (.bool false)) := ret_bool hC
  have hBd : decide (most ≤ (m.length : Int)) = false := decide_eq_false hB
  have HW : Hid ((Lit.int .i64 x.id).wf = true) := hw
  have HI : Hid (BufferFit ((w.alloc (.cells #[.int .i64 most, .map (some b)] 122)).alloc (.cells (bufferVs x) 144)) x) := hf.below ((((Below.refl _ w).alloc (Nat.le_refl _) _)).alloc (by simp) _)
  have hmn := meth_numberBuffer
  have hmr := meth_rightBuffer
  obtain ⟨s0, s1⟩ := HF.out.cells
  obtain ⟨c0, c1, c2⟩ := buffer_cells HF.out.bx
  clear h hw hf hA hC hB
  unfold bufferVs at *
  go_enter Tryz.func92, Tryz.ntmps92
  go_wp2_with fail
  clear s0 s1 c0 c1 c2
  refine tame_region (LaySBuffer w b m most x) (by kernel_rfl) (laySBuffer_of HF.out.drew (HI.out.below (Below.refl _ _).drew)) ?_
  refine tm 0 (some 5) (v := ?_) rfl (by kernel_rfl) (fun _ _ _ h => h) (does_yield (by kernel_rfl) ?_) ?_
  rotate_left
  · intro w0 hS0
    obtain ⟨⟨q0, q1, q2, q3, q4, q5⟩, hH⟩ := hS0
    go_simp
    try with_reducible rfl
  simp only [pt, sb, s0, s1]
  refine tm 1 (some 6) (v := ?_) rfl (by kernel_rfl) (fun _ _ _ h => h) (does_yield (by kernel_rfl) ?_) ?_
  rotate_left
  · intro w0 hS0
    obtain ⟨⟨q0, q1, q2, q3, q4, q5⟩, hH⟩ := hS0
    go_simp
    try with_reducible rfl
  simp only [pt, sb, s0, s1]
  refine tm 2 (some 7) (v := ?_) rfl (by kernel_rfl) (fun _ _ _ h => h) (does_yield (by kernel_rfl) ?_) ?_
  rotate_left
  · intro w0 hS0
    obtain ⟨⟨q0, q1, q2, q3, q4, q5⟩, hH⟩ := hS0
    go_simp
    try with_reducible rfl
  simp only [pt, sb, s0, s1]
  refine tm 3 (some 8) (v := .int .i64 x.id) rfl (by kernel_rfl) (fun _ _ _ h => h) (does_call (f := 313) (args := #[.agg #[.int .i64 x.id, .int .i64 x.max, .slice x.itemsA x.items.length x.itemsC]]) (by kernel_rfl) ?_ ?_) ?_
  · intro w0 hS0
    obtain ⟨⟨q0, q1, q2, q3, q4, q5⟩, hH⟩ := hS0
    go_simp
    try with_reducible rfl
  · intro w0 hS0
    refine (numberBuffer_any x w0).mono ?_
    rintro e w2 ⟨rfl, hb2⟩
    exact ⟨rfl, laySBuffer_of (hS0.2.1.out.below hb2) (hS0.2.2.out.below hb2)⟩
  simp only [pt, sb, s0, s1]
  refine tm 4 (some 9) (v := .bool false) rfl (by kernel_rfl) (fun _ _ _ h => h) (does_call (f := 178) (args := #[.agg #[.int .i64 most, .map (some b)], .int .i64 x.id]) (by kernel_rfl) ?_ ?_) ?_
  · intro w0 hS0
    obtain ⟨⟨q0, q1, q2, q3, q4, q5⟩, hH⟩ := hS0
    go_simp
    try with_reducible rfl
  · intro w0 hS0
    refine (hasBuffer_any most b m x.id w0 hS0.2.1.out.mp HW.out).mono ?_
    rintro e w2 ⟨rfl, hb2⟩
    exact ⟨HA.out, laySBuffer_of (hS0.2.1.out.below hb2) (hS0.2.2.out.below hb2)⟩
  simp only [pt, sb, s0, s1]
  refine tm 5 (some 10) (v := ?_) rfl (by kernel_rfl) (fun _ _ _ h => h) (does_yield (by kernel_rfl) ?_) ?_
  rotate_left
  · intro w0 hS0
    obtain ⟨⟨q0, q1, q2, q3, q4, q5⟩, hH⟩ := hS0
    go_simp
    try with_reducible rfl
  simp only [pt, sb, s0, s1]
  refine tm 6 (some 11) (v := ?_) rfl (by kernel_rfl) (fun _ _ _ h => h) (does_yield (by kernel_rfl) ?_) ?_
  rotate_left
  · intro w0 hS0
    obtain ⟨⟨q0, q1, q2, q3, q4, q5⟩, hH⟩ := hS0
    go_simp
    try with_reducible rfl
  simp only [pt, sb, s0, s1]
  refine tm 7 (some 12) (v := ?_) rfl (by kernel_rfl) (fun _ _ _ h => h) (does_yield (by kernel_rfl) ?_) ?_
  rotate_left
  · intro w0 hS0
    obtain ⟨⟨q0, q1, q2, q3, q4, q5⟩, hH⟩ := hS0
    go_simp
    try with_reducible rfl
  simp only [pt, sb, s0, s1]
  refine tm 8 (some 13) (v := ?_) rfl (by kernel_rfl) (fun _ _ _ h => h) (does_yield (by kernel_rfl) ?_) ?_
  rotate_left
  · intro w0 hS0
    obtain ⟨⟨q0, q1, q2, q3, q4, q5⟩, hH⟩ := hS0
    go_simp
    try with_reducible rfl
  simp only [pt, sb, s0, s1]
  refine tm 9 (some 14) (v := ?_) rfl (by kernel_rfl) (fun _ _ _ h => h) (does_yield (by kernel_rfl) ?_) ?_
  rotate_left
  · intro w0 hS0
    obtain ⟨⟨q0, q1, q2, q3, q4, q5⟩, hH⟩ := hS0
    go_simp
    try with_reducible rfl
  simp only [pt, sb, s0, s1]
  refine tm 10 (some 15) (v := ?_) rfl (by kernel_rfl) (fun _ _ _ h => h) (does_yield (by kernel_rfl) ?_) ?_
  rotate_left
  · intro w0 hS0
    obtain ⟨⟨q0, q1, q2, q3, q4, q5⟩, hH⟩ := hS0
    go_simp
    try with_reducible rfl
  simp only [pt, sb, s0, s1]
  refine tm 11 (some 16) (v := ?_) rfl (by kernel_rfl) (fun _ _ _ h => h) (does_yield (by kernel_rfl) ?_) ?_
  rotate_left
  · intro w0 hS0
    obtain ⟨⟨q0, q1, q2, q3, q4, q5⟩, hH⟩ := hS0
    go_simp
    try with_reducible rfl
  simp only [pt, sb, s0, s1]
  refine tm 12 (some 17) (v := ?_) rfl (by kernel_rfl) (fun _ _ _ h => h) (does_yield (by kernel_rfl) ?_) ?_
  rotate_left
  · intro w0 hS0
    obtain ⟨⟨q0, q1, q2, q3, q4, q5⟩, hH⟩ := hS0
    go_simp
    try with_reducible rfl
  simp only [pt, sb, s0, s1]
  refine tm 13 (some 18) (v := ?_) rfl (by kernel_rfl) (fun _ _ _ h => h) (does_yield (by kernel_rfl) ?_) ?_
  rotate_left
  · intro w0 hS0
    obtain ⟨⟨q0, q1, q2, q3, q4, q5⟩, hH⟩ := hS0
    go_simp
    try with_reducible rfl
  simp only [pt, sb, s0, s1]
  refine tm 14 (some 19) (v := ?_) rfl (by kernel_rfl) (fun _ _ _ h => h) (does_yield (by kernel_rfl) ?_) ?_
  rotate_left
  · intro w0 hS0
    obtain ⟨⟨q0, q1, q2, q3, q4, q5⟩, hH⟩ := hS0
    go_simp
    try with_reducible rfl
  simp only [pt, sb, s0, s1]
  refine tm 15 (some 20) (v := ?_) rfl (by kernel_rfl) (fun _ _ _ h => h) (does_yield (by kernel_rfl) ?_) ?_
  rotate_left
  · intro w0 hS0
    obtain ⟨⟨q0, q1, q2, q3, q4, q5⟩, hH⟩ := hS0
    go_simp
    try with_reducible rfl
  simp only [pt, sb, s0, s1]
  refine tm 16 (some 21) (v := .int .i64 x.id) rfl (by kernel_rfl) (fun _ _ _ h => h) (does_call (f := 313) (args := #[.agg #[.int .i64 x.id, .int .i64 x.max, .slice x.itemsA x.items.length x.itemsC]]) (by kernel_rfl) ?_ ?_) ?_
  · intro w0 hS0
    obtain ⟨⟨q0, q1, q2, q3, q4, q5⟩, hH⟩ := hS0
    go_simp
    try with_reducible rfl
  · intro w0 hS0
    refine (numberBuffer_any x w0).mono ?_
    rintro e w2 ⟨rfl, hb2⟩
    exact ⟨rfl, laySBuffer_of (hS0.2.1.out.below hb2) (hS0.2.2.out.below hb2)⟩
  simp only [pt, sb, s0, s1]
  refine tm 17 (some 22) (v := .bool false) rfl (by kernel_rfl) (fun _ _ _ h => h) (does_call (f := 164) (args := #[.int .i64 x.id]) (by kernel_rfl) ?_ ?_) ?_
  · intro w0 hS0
    obtain ⟨⟨q0, q1, q2, q3, q4, q5⟩, hH⟩ := hS0
    go_simp
    try with_reducible rfl
  · intro w0 hS0
    refine (isNumber_any x.id w0).mono ?_
    rintro e w2 ⟨rfl, rfl⟩
    exact ⟨HC.out, hS0⟩
  simp only [pt, sb, s0, s1]
  refine tm 18 (some 23) (v := ?_) rfl (by kernel_rfl) (fun _ _ _ h => h) (does_yield (by kernel_rfl) ?_) ?_
  rotate_left
  · intro w0 hS0
    obtain ⟨⟨q0, q1, q2, q3, q4, q5⟩, hH⟩ := hS0
    go_simp
    try with_reducible rfl
  simp only [pt, sb, s0, s1]
  refine tm 19 (some 24) (v := ?_) rfl (by kernel_rfl) (fun _ _ _ h => h) (does_yield (by kernel_rfl) ?_) ?_
  rotate_left
  · intro w0 hS0
    obtain ⟨⟨q0, q1, q2, q3, q4, q5⟩, hH⟩ := hS0
    go_simp
    try with_reducible rfl
  simp only [pt, sb, s0, s1]
  refine tm 20 (some 25) (v := ?_) rfl (by kernel_rfl) (fun _ _ _ h => h) (does_yield (by kernel_rfl) ?_) ?_
  rotate_left
  · intro w0 hS0
    obtain ⟨⟨q0, q1, q2, q3, q4, q5⟩, hH⟩ := hS0
    go_simp
    try with_reducible rfl
  simp only [pt, sb, s0, s1]
  refine tm 21 (some 26) rfl (by kernel_rfl) (fun _ _ _ h => h) (does_skip (by kernel_rfl)) ?_
  simp only [pt, sb, s0, s1]
  refine tm 22 (some 27) rfl (by kernel_rfl) (fun _ _ _ h => h) (does_skip (by kernel_rfl)) ?_
  simp only [pt, sb, s0, s1]
  refine tm 23 (some 28) rfl (by kernel_rfl) (fun _ _ _ h => h) (does_skip (by kernel_rfl)) ?_
  simp only [pt, sb, s0, s1]
  refine tm 24 (some 29) rfl (by kernel_rfl) (fun _ _ _ h => h) (does_skip (by kernel_rfl)) ?_
  simp only [pt, sb, s0, s1]
  refine tm 25 (some 30) (v := ?_) rfl (by kernel_rfl) (fun _ _ _ h => h) (does_yield (by kernel_rfl) ?_) ?_
  rotate_left
  · intro w0 hS0
    obtain ⟨⟨q0, q1, q2, q3, q4, q5⟩, hH⟩ := hS0
    go_simp
    try with_reducible rfl
  simp only [pt, sb, s0, s1]
  refine tame_done (by kernel_rfl) ?_ _
  intro w1 hS1
  go_wp2
  go_ret
  exact layEnds_no HN.out hS1.2.1.out.bel

set_option maxRecDepth 100000 in
set_option maxHeartbeats 4000000 in
theorem layBuffer_no4 (most : Int) (b : Nat) (m : MapL) (x : BufferD) (w : World) (h : MapIs w b m) (hw : (Lit.int .i64 x.id).wf = true) (_hm : m.length ≤ 1048576) (hf : BufferFit w x) (hA : (lookM m x.id).isSome = false) (hB : ¬ most ≤ (m.length : Int)) (hC : inB x.id 1 1000 = true) (hD : bufferB x.toBufferP = false) :
    Calls Tryz.prog 92 #[.agg #[.int .i64 most, .map (some b)], .agg (bufferVs x)] w fun e w' => LayEnds w b m (layB most m x.id (bufferB x.toBufferP)) x.id (bufferVs x) 144 e w' := by
  have HF : Hid (LayIn w ((w.alloc (.cells #[.int .i64 most, .map (some b)] 122)).alloc (.cells (bufferVs x) 144)) w.heap.size (w.heap.size + 1) b m most (bufferVs x) 144 122) := LayIn.start w h most _ _ _
  have HN : Hid (layB most m x.id (bufferB x.toBufferP) = false) := by show layB most m x.id (bufferB x.toBufferP) = false; simp [layB, hD]
  have HA : Hid (Ending.returned (.bool (lookM m x.id).isSome) = .returned (.bool false)) := ret_bool hA
  have HC : Hid (Ending.returned (.bool (inB x.id 1 1000)) = .returned (.bool true)) := ret_bool hC
  have HD : Hid (Ending.returned (.bool (bufferB x.toBufferP)) = .returned (.bool false)) := ret_bool hD
  have hBd : decide (most ≤ (m.length : Int)) = false := decide_eq_false hB
  have HW : Hid ((Lit.int .i64 x.id).wf = true) := hw
  have HI : Hid (BufferFit ((w.alloc (.cells #[.int .i64 most, .map (some b)] 122)).alloc (.cells (bufferVs x) 144)) x) := hf.below ((((Below.refl _ w).alloc (Nat.le_refl _) _)).alloc (by simp) _)
  have hmn := meth_numberBuffer
  have hmr := meth_rightBuffer
  obtain ⟨s0, s1⟩ := HF.out.cells
  obtain ⟨c0, c1, c2⟩ := buffer_cells HF.out.bx
  clear h hw hf hA hC hD hB
  unfold bufferVs at *
  go_enter Tryz.func92, Tryz.ntmps92
  go_wp2_with fail
  clear s0 s1 c0 c1 c2
  refine tame_region (LaySBuffer w b m most x) (by kernel_rfl) (laySBuffer_of HF.out.drew (HI.out.below (Below.refl _ _).drew)) ?_
  refine tm 0 (some 5) (v := ?_) rfl (by kernel_rfl) (fun _ _ _ h => h) (does_yield (by kernel_rfl) ?_) ?_
  rotate_left
  · intro w0 hS0
    obtain ⟨⟨q0, q1, q2, q3, q4, q5⟩, hH⟩ := hS0
    go_simp
    try with_reducible rfl
  simp only [pt, sb, s0, s1]
  refine tm 1 (some 6) (v := ?_) rfl (by kernel_rfl) (fun _ _ _ h => h) (does_yield (by kernel_rfl) ?_) ?_
  rotate_left
  · intro w0 hS0
    obtain ⟨⟨q0, q1, q2, q3, q4, q5⟩, hH⟩ := hS0
    go_simp
    try with_reducible rfl
  simp only [pt, sb, s0, s1]
  refine tm 2 (some 7) (v := ?_) rfl (by kernel_rfl) (fun _ _ _ h => h) (does_yield (by kernel_rfl) ?_) ?_
  rotate_left
  · intro w0 hS0
    obtain ⟨⟨q0, q1, q2, q3, q4, q5⟩, hH⟩ := hS0
    go_simp
    try with_reducible rfl
  simp only [pt, sb, s0, s1]
  refine tm 3 (some 8) (v := .int .i64 x.id) rfl (by kernel_rfl) (fun _ _ _ h => h) (does_call (f := 313) (args := #[.agg #[.int .i64 x.id, .int .i64 x.max, .slice x.itemsA x.items.length x.itemsC]]) (by kernel_rfl) ?_ ?_) ?_
  · intro w0 hS0
    obtain ⟨⟨q0, q1, q2, q3, q4, q5⟩, hH⟩ := hS0
    go_simp
    try with_reducible rfl
  · intro w0 hS0
    refine (numberBuffer_any x w0).mono ?_
    rintro e w2 ⟨rfl, hb2⟩
    exact ⟨rfl, laySBuffer_of (hS0.2.1.out.below hb2) (hS0.2.2.out.below hb2)⟩
  simp only [pt, sb, s0, s1]
  refine tm 4 (some 9) (v := .bool false) rfl (by kernel_rfl) (fun _ _ _ h => h) (does_call (f := 178) (args := #[.agg #[.int .i64 most, .map (some b)], .int .i64 x.id]) (by kernel_rfl) ?_ ?_) ?_
  · intro w0 hS0
    obtain ⟨⟨q0, q1, q2, q3, q4, q5⟩, hH⟩ := hS0
    go_simp
    try with_reducible rfl
  · intro w0 hS0
    refine (hasBuffer_any most b m x.id w0 hS0.2.1.out.mp HW.out).mono ?_
    rintro e w2 ⟨rfl, hb2⟩
    exact ⟨HA.out, laySBuffer_of (hS0.2.1.out.below hb2) (hS0.2.2.out.below hb2)⟩
  simp only [pt, sb, s0, s1]
  refine tm 5 (some 10) (v := ?_) rfl (by kernel_rfl) (fun _ _ _ h => h) (does_yield (by kernel_rfl) ?_) ?_
  rotate_left
  · intro w0 hS0
    obtain ⟨⟨q0, q1, q2, q3, q4, q5⟩, hH⟩ := hS0
    go_simp
    try with_reducible rfl
  simp only [pt, sb, s0, s1]
  refine tm 6 (some 11) (v := ?_) rfl (by kernel_rfl) (fun _ _ _ h => h) (does_yield (by kernel_rfl) ?_) ?_
  rotate_left
  · intro w0 hS0
    obtain ⟨⟨q0, q1, q2, q3, q4, q5⟩, hH⟩ := hS0
    go_simp
    try with_reducible rfl
  simp only [pt, sb, s0, s1]
  refine tm 7 (some 12) (v := ?_) rfl (by kernel_rfl) (fun _ _ _ h => h) (does_yield (by kernel_rfl) ?_) ?_
  rotate_left
  · intro w0 hS0
    obtain ⟨⟨q0, q1, q2, q3, q4, q5⟩, hH⟩ := hS0
    go_simp
    try with_reducible rfl
  simp only [pt, sb, s0, s1]
  refine tm 8 (some 13) (v := ?_) rfl (by kernel_rfl) (fun _ _ _ h => h) (does_yield (by kernel_rfl) ?_) ?_
  rotate_left
  · intro w0 hS0
    obtain ⟨⟨q0, q1, q2, q3, q4, q5⟩, hH⟩ := hS0
    go_simp
    try with_reducible rfl
  simp only [pt, sb, s0, s1]
  refine tm 9 (some 14) (v := ?_) rfl (by kernel_rfl) (fun _ _ _ h => h) (does_yield (by kernel_rfl) ?_) ?_
  rotate_left
  · intro w0 hS0
    obtain ⟨⟨q0, q1, q2, q3, q4, q5⟩, hH⟩ := hS0
    go_simp
    try with_reducible rfl
  simp only [pt, sb, s0, s1]
  refine tm 10 (some 15) (v := ?_) rfl (by kernel_rfl) (fun _ _ _ h => h) (does_yield (by kernel_rfl) ?_) ?_
  rotate_left
  · intro w0 hS0
    obtain ⟨⟨q0, q1, q2, q3, q4, q5⟩, hH⟩ := hS0
    go_simp
    try with_reducible rfl
  simp only [pt, sb, s0, s1]
  refine tm 11 (some 16) (v := ?_) rfl (by kernel_rfl) (fun _ _ _ h => h) (does_yield (by kernel_rfl) ?_) ?_
  rotate_left
  · intro w0 hS0
    obtain ⟨⟨q0, q1, q2, q3, q4, q5⟩, hH⟩ := hS0
    go_simp
    try with_reducible rfl
  simp only [pt, sb, s0, s1]
  refine tm 12 (some 17) (v := ?_) rfl (by kernel_rfl) (fun _ _ _ h => h) (does_yield (by kernel_rfl) ?_) ?_
  rotate_left
  · intro w0 hS0
    obtain ⟨⟨q0, q1, q2, q3, q4, q5⟩, hH⟩ := hS0
    go_simp
    try with_reducible rfl
  simp only [pt, sb, s0, s1]
  refine tm 13 (some 18) (v := ?_) rfl (by kernel_rfl) (fun _ _ _ h => h) (does_yield (by kernel_rfl) ?_) ?_
  rotate_left
  · intro w0 hS0
    obtain ⟨⟨q0, q1, q2, q3, q4, q5⟩, hH⟩ := hS0
    go_simp
    try with_reducible rfl
  simp only [pt, sb, s0, s1]
  refine tm 14 (some 19) (v := ?_) rfl (by kernel_rfl) (fun _ _ _ h => h) (does_yield (by kernel_rfl) ?_) ?_
  rotate_left
  · intro w0 hS0
    obtain ⟨⟨q0, q1, q2, q3, q4, q5⟩, hH⟩ := hS0
    go_simp
    try with_reducible rfl
  simp only [pt, sb, s0, s1]
  refine tm 15 (some 20) (v := ?_) rfl (by kernel_rfl) (fun _ _ _ h => h) (does_yield (by kernel_rfl) ?_) ?_
  rotate_left
  · intro w0 hS0
    obtain ⟨⟨q0, q1, q2, q3, q4, q5⟩, hH⟩ := hS0
    go_simp
    try with_reducible rfl
  simp only [pt, sb, s0, s1]
  refine tm 16 (some 21) (v := .int .i64 x.id) rfl (by kernel_rfl) (fun _ _ _ h => h) (does_call (f := 313) (args := #[.agg #[.int .i64 x.id, .int .i64 x.max, .slice x.itemsA x.items.length x.itemsC]]) (by kernel_rfl) ?_ ?_) ?_
  · intro w0 hS0
    obtain ⟨⟨q0, q1, q2, q3, q4, q5⟩, hH⟩ := hS0
    go_simp
    try with_reducible rfl
  · intro w0 hS0
    refine (numberBuffer_any x w0).mono ?_
    rintro e w2 ⟨rfl, hb2⟩
    exact ⟨rfl, laySBuffer_of (hS0.2.1.out.below hb2) (hS0.2.2.out.below hb2)⟩
  simp only [pt, sb, s0, s1]
  refine tm 17 (some 22) (v := .bool true) rfl (by kernel_rfl) (fun _ _ _ h => h) (does_call (f := 164) (args := #[.int .i64 x.id]) (by kernel_rfl) ?_ ?_) ?_
  · intro w0 hS0
    obtain ⟨⟨q0, q1, q2, q3, q4, q5⟩, hH⟩ := hS0
    go_simp
    try with_reducible rfl
  · intro w0 hS0
    refine (isNumber_any x.id w0).mono ?_
    rintro e w2 ⟨rfl, rfl⟩
    exact ⟨HC.out, hS0⟩
  simp only [pt, sb, s0, s1]
  refine tm 18 (some 23) (v := ?_) rfl (by kernel_rfl) (fun _ _ _ h => h) (does_yield (by kernel_rfl) ?_) ?_
  rotate_left
  · intro w0 hS0
    obtain ⟨⟨q0, q1, q2, q3, q4, q5⟩, hH⟩ := hS0
    go_simp
    try with_reducible rfl
  simp only [pt, sb, s0, s1]
  refine tm 19 (some 24) (v := ?_) rfl (by kernel_rfl) (fun _ _ _ h => h) (does_yield (by kernel_rfl) ?_) ?_
  rotate_left
  · intro w0 hS0
    obtain ⟨⟨q0, q1, q2, q3, q4, q5⟩, hH⟩ := hS0
    go_simp
    try with_reducible rfl
  simp only [pt, sb, s0, s1]
  refine tm 20 (some 25) (v := ?_) rfl (by kernel_rfl) (fun _ _ _ h => h) (does_yield (by kernel_rfl) ?_) ?_
  rotate_left
  · intro w0 hS0
    obtain ⟨⟨q0, q1, q2, q3, q4, q5⟩, hH⟩ := hS0
    go_simp
    try with_reducible rfl
  simp only [pt, sb, s0, s1]
  refine tm 21 (some 26) (v := ?_) rfl (by kernel_rfl) (fun _ _ _ h => h) (does_yield (by kernel_rfl) ?_) ?_
  rotate_left
  · intro w0 hS0
    obtain ⟨⟨q0, q1, q2, q3, q4, q5⟩, hH⟩ := hS0
    go_simp
    try with_reducible rfl
  simp only [pt, sb, s0, s1]
  refine tm 22 (some 27) (v := ?_) rfl (by kernel_rfl) (fun _ _ _ h => h) (does_yield (by kernel_rfl) ?_) ?_
  rotate_left
  · intro w0 hS0
    obtain ⟨⟨q0, q1, q2, q3, q4, q5⟩, hH⟩ := hS0
    go_simp
    try with_reducible rfl
  simp only [pt, sb, s0, s1]
  refine tm 23 (some 28) (v := .bool false) rfl (by kernel_rfl) (fun _ _ _ h => h) (does_call (f := 314) (args := #[.agg #[.int .i64 x.id, .int .i64 x.max, .slice x.itemsA x.items.length x.itemsC]]) (by kernel_rfl) ?_ ?_) ?_
  · intro w0 hS0
    obtain ⟨⟨q0, q1, q2, q3, q4, q5⟩, hH⟩ := hS0
    go_simp
    try with_reducible rfl
  · intro w0 hS0
    refine (rightBuffer_any x w0 hS0.2.2.out).mono ?_
    rintro e w2 ⟨rfl, hb2⟩
    exact ⟨HD.out, laySBuffer_of (hS0.2.1.out.below hb2) (hS0.2.2.out.below hb2)⟩
  simp only [pt, sb, s0, s1]
  refine tm 24 (some 29) (v := ?_) rfl (by kernel_rfl) (fun _ _ _ h => h) (does_yield (by kernel_rfl) ?_) ?_
  rotate_left
  · intro w0 hS0
    obtain ⟨⟨q0, q1, q2, q3, q4, q5⟩, hH⟩ := hS0
    go_simp
    try with_reducible rfl
  simp only [pt, sb, s0, s1]
  refine tm 25 (some 30) (v := ?_) rfl (by kernel_rfl) (fun _ _ _ h => h) (does_yield (by kernel_rfl) ?_) ?_
  rotate_left
  · intro w0 hS0
    obtain ⟨⟨q0, q1, q2, q3, q4, q5⟩, hH⟩ := hS0
    go_simp
    try with_reducible rfl
  simp only [pt, sb, s0, s1]
  refine tame_done (by kernel_rfl) ?_ _
  intro w1 hS1
  go_wp2
  go_ret
  exact layEnds_no HN.out hS1.2.1.out.bel

set_option maxRecDepth 100000 in
set_option maxHeartbeats 4000000 in
theorem layBuffer_yes (most : Int) (b : Nat) (m : MapL) (x : BufferD) (w : World) (h : MapIs w b m) (hw : (Lit.int .i64 x.id).wf = true) (hm : m.length ≤ 1048576) (hf : BufferFit w x) (hA : (lookM m x.id).isSome = false) (hB : ¬ most ≤ (m.length : Int)) (hC : inB x.id 1 1000 = true) (hD : bufferB x.toBufferP = true) :
    Calls Tryz.prog 92 #[.agg #[.int .i64 most, .map (some b)], .agg (bufferVs x)] w fun e w' => LayEnds w b m (layB most m x.id (bufferB x.toBufferP)) x.id (bufferVs x) 144 e w' := by
  have HF : Hid (LayIn w ((w.alloc (.cells #[.int .i64 most, .map (some b)] 122)).alloc (.cells (bufferVs x) 144)) w.heap.size (w.heap.size + 1) b m most (bufferVs x) 144 122) := LayIn.start w h most _ _ _
  have HN : Hid (layB most m x.id (bufferB x.toBufferP) = true) := by show layB most m x.id (bufferB x.toBufferP) = true; simp [layB, hA, hC, hD]; omega
  have HA : Hid (Ending.returned (.bool (lookM m x.id).isSome) = .returned (.bool false)) := ret_bool hA
  have HC : Hid (Ending.returned (.bool (inB x.id 1 1000)) = .returned (.bool true)) := ret_bool hC
  have HD : Hid (Ending.returned (.bool (bufferB x.toBufferP)) = .returned (.bool true)) := ret_bool hD
  have HL : Hid (lookM m x.id = none ∧ ¬ w.heap.size + 1 = b ∧ m.length ≤ 1048576) := ⟨Option.isSome_eq_false_iff.1 hA |> Option.isNone_iff_eq_none.1, by have := h.lt; omega, hm⟩
  have hBd : decide (most ≤ (m.length : Int)) = false := decide_eq_false hB
  have HW : Hid ((Lit.int .i64 x.id).wf = true) := hw
  have HI : Hid (BufferFit ((w.alloc (.cells #[.int .i64 most, .map (some b)] 122)).alloc (.cells (bufferVs x) 144)) x) := hf.below ((((Below.refl _ w).alloc (Nat.le_refl _) _)).alloc (by simp) _)
  have hmn := meth_numberBuffer
  have hmr := meth_rightBuffer
  obtain ⟨s0, s1⟩ := HF.out.cells
  obtain ⟨c0, c1, c2⟩ := buffer_cells HF.out.bx
  clear h hw hf hA hC hD hB
  unfold bufferVs at *
  go_enter Tryz.func92, Tryz.ntmps92
  go_wp2_with fail
  clear s0 s1 c0 c1 c2
  refine tame_region (LaySBuffer w b m most x) (by kernel_rfl) (laySBuffer_of HF.out.drew (HI.out.below (Below.refl _ _).drew)) ?_
  refine tm 0 (some 5) (v := ?_) rfl (by kernel_rfl) (fun _ _ _ h => h) (does_yield (by kernel_rfl) ?_) ?_
  rotate_left
  · intro w0 hS0
    obtain ⟨⟨q0, q1, q2, q3, q4, q5⟩, hH⟩ := hS0
    go_simp
    try with_reducible rfl
  simp only [pt, sb, s0, s1]
  refine tm 1 (some 6) (v := ?_) rfl (by kernel_rfl) (fun _ _ _ h => h) (does_yield (by kernel_rfl) ?_) ?_
  rotate_left
  · intro w0 hS0
    obtain ⟨⟨q0, q1, q2, q3, q4, q5⟩, hH⟩ := hS0
    go_simp
    try with_reducible rfl
  simp only [pt, sb, s0, s1]
  refine tm 2 (some 7) (v := ?_) rfl (by kernel_rfl) (fun _ _ _ h => h) (does_yield (by kernel_rfl) ?_) ?_
  rotate_left
  · intro w0 hS0
    obtain ⟨⟨q0, q1, q2, q3, q4, q5⟩, hH⟩ := hS0
    go_simp
    try with_reducible rfl
  simp only [pt, sb, s0, s1]
  refine tm 3 (some 8) (v := .int .i64 x.id) rfl (by kernel_rfl) (fun _ _ _ h => h) (does_call (f := 313) (args := #[.agg #[.int .i64 x.id, .int .i64 x.max, .slice x.itemsA x.items.length x.itemsC]]) (by kernel_rfl) ?_ ?_) ?_
  · intro w0 hS0
    obtain ⟨⟨q0, q1, q2, q3, q4, q5⟩, hH⟩ := hS0
    go_simp
    try with_reducible rfl
  · intro w0 hS0
    refine (numberBuffer_any x w0).mono ?_
    rintro e w2 ⟨rfl, hb2⟩
    exact ⟨rfl, laySBuffer_of (hS0.2.1.out.below hb2) (hS0.2.2.out.below hb2)⟩
  simp only [pt, sb, s0, s1]
  refine tm 4 (some 9) (v := .bool false) rfl (by kernel_rfl) (fun _ _ _ h => h) (does_call (f := 178) (args := #[.agg #[.int .i64 most, .map (some b)], .int .i64 x.id]) (by kernel_rfl) ?_ ?_) ?_
  · intro w0 hS0
    obtain ⟨⟨q0, q1, q2, q3, q4, q5⟩, hH⟩ := hS0
    go_simp
    try with_reducible rfl
  · intro w0 hS0
    refine (hasBuffer_any most b m x.id w0 hS0.2.1.out.mp HW.out).mono ?_
    rintro e w2 ⟨rfl, hb2⟩
    exact ⟨HA.out, laySBuffer_of (hS0.2.1.out.below hb2) (hS0.2.2.out.below hb2)⟩
  simp only [pt, sb, s0, s1]
  refine tm 5 (some 10) (v := ?_) rfl (by kernel_rfl) (fun _ _ _ h => h) (does_yield (by kernel_rfl) ?_) ?_
  rotate_left
  · intro w0 hS0
    obtain ⟨⟨q0, q1, q2, q3, q4, q5⟩, hH⟩ := hS0
    go_simp
    try with_reducible rfl
  simp only [pt, sb, s0, s1]
  refine tm 6 (some 11) (v := ?_) rfl (by kernel_rfl) (fun _ _ _ h => h) (does_yield (by kernel_rfl) ?_) ?_
  rotate_left
  · intro w0 hS0
    obtain ⟨⟨q0, q1, q2, q3, q4, q5⟩, hH⟩ := hS0
    go_simp
    try with_reducible rfl
  simp only [pt, sb, s0, s1]
  refine tm 7 (some 12) (v := ?_) rfl (by kernel_rfl) (fun _ _ _ h => h) (does_yield (by kernel_rfl) ?_) ?_
  rotate_left
  · intro w0 hS0
    obtain ⟨⟨q0, q1, q2, q3, q4, q5⟩, hH⟩ := hS0
    go_simp
    try with_reducible rfl
  simp only [pt, sb, s0, s1]
  refine tm 8 (some 13) (v := ?_) rfl (by kernel_rfl) (fun _ _ _ h => h) (does_yield (by kernel_rfl) ?_) ?_
  rotate_left
  · intro w0 hS0
    obtain ⟨⟨q0, q1, q2, q3, q4, q5⟩, hH⟩ := hS0
    go_simp
    try with_reducible rfl
  simp only [pt, sb, s0, s1]
  refine tm 9 (some 14) (v := ?_) rfl (by kernel_rfl) (fun _ _ _ h => h) (does_yield (by kernel_rfl) ?_) ?_
  rotate_left
  · intro w0 hS0
    obtain ⟨⟨q0, q1, q2, q3, q4, q5⟩, hH⟩ := hS0
    go_simp
    try with_reducible rfl
  simp only [pt, sb, s0, s1]
  refine tm 10 (some 15) (v := ?_) rfl (by kernel_rfl) (fun _ _ _ h => h) (does_yield (by kernel_rfl) ?_) ?_
  rotate_left
  · intro w0 hS0
    obtain ⟨⟨q0, q1, q2, q3, q4, q5⟩, hH⟩ := hS0
    go_simp
    try with_reducible rfl
  simp only [pt, sb, s0, s1]
  refine tm 11 (some 16) (v := ?_) rfl (by kernel_rfl) (fun _ _ _ h => h) (does_yield (by kernel_rfl) ?_) ?_
  rotate_left
  · intro w0 hS0
    obtain ⟨⟨q0, q1, q2, q3, q4, q5⟩, hH⟩ := hS0
    go_simp
    try with_reducible rfl
  simp only [pt, sb, s0, s1]
  refine tm 12 (some 17) (v := ?_) rfl (by kernel_rfl) (fun _ _ _ h => h) (does_yield (by kernel_rfl) ?_) ?_
  rotate_left
  · intro w0 hS0
    obtain ⟨⟨q0, q1, q2, q3, q4, q5⟩, hH⟩ := hS0
    go_simp
    try with_reducible rfl
  simp only [pt, sb, s0, s1]
  refine tm 13 (some 18) (v := ?_) rfl (by kernel_rfl) (fun _ _ _ h => h) (does_yield (by kernel_rfl) ?_) ?_
  rotate_left
  · intro w0 hS0
    obtain ⟨⟨q0, q1, q2, q3, q4, q5⟩, hH⟩ := hS0
    go_simp
    try with_reducible rfl
  simp only [pt, sb, s0, s1]
  refine tm 14 (some 19) (v := ?_) rfl (by kernel_rfl) (fun _ _ _ h => h) (does_yield (by kernel_rfl) ?_) ?_
  rotate_left
  · intro w0 hS0
    obtain ⟨⟨q0, q1, q2, q3, q4, q5⟩, hH⟩ := hS0
    go_simp
    try with_reducible rfl
  simp only [pt, sb, s0, s1]
  refine tm 15 (some 20) (v := ?_) rfl (by kernel_rfl) (fun _ _ _ h => h) (does_yield (by kernel_rfl) ?_) ?_
  rotate_left
  · intro w0 hS0
    obtain ⟨⟨q0, q1, q2, q3, q4, q5⟩, hH⟩ := hS0
    go_simp
    try with_reducible rfl
  simp only [pt, sb, s0, s1]
  refine tm 16 (some 21) (v := .int .i64 x.id) rfl (by kernel_rfl) (fun _ _ _ h => h) (does_call (f := 313) (args := #[.agg #[.int .i64 x.id, .int .i64 x.max, .slice x.itemsA x.items.length x.itemsC]]) (by kernel_rfl) ?_ ?_) ?_
  · intro w0 hS0
    obtain ⟨⟨q0, q1, q2, q3, q4, q5⟩, hH⟩ := hS0
    go_simp
    try with_reducible rfl
  · intro w0 hS0
    refine (numberBuffer_any x w0).mono ?_
    rintro e w2 ⟨rfl, hb2⟩
    exact ⟨rfl, laySBuffer_of (hS0.2.1.out.below hb2) (hS0.2.2.out.below hb2)⟩
  simp only [pt, sb, s0, s1]
  refine tm 17 (some 22) (v := .bool true) rfl (by kernel_rfl) (fun _ _ _ h => h) (does_call (f := 164) (args := #[.int .i64 x.id]) (by kernel_rfl) ?_ ?_) ?_
  · intro w0 hS0
    obtain ⟨⟨q0, q1, q2, q3, q4, q5⟩, hH⟩ := hS0
    go_simp
    try with_reducible rfl
  · intro w0 hS0
    refine (isNumber_any x.id w0).mono ?_
    rintro e w2 ⟨rfl, rfl⟩
    exact ⟨HC.out, hS0⟩
  simp only [pt, sb, s0, s1]
  refine tm 18 (some 23) (v := ?_) rfl (by kernel_rfl) (fun _ _ _ h => h) (does_yield (by kernel_rfl) ?_) ?_
  rotate_left
  · intro w0 hS0
    obtain ⟨⟨q0, q1, q2, q3, q4, q5⟩, hH⟩ := hS0
    go_simp
    try with_reducible rfl
  simp only [pt, sb, s0, s1]
  refine tm 19 (some 24) (v := ?_) rfl (by kernel_rfl) (fun _ _ _ h => h) (does_yield (by kernel_rfl) ?_) ?_
  rotate_left
  · intro w0 hS0
    obtain ⟨⟨q0, q1, q2, q3, q4, q5⟩, hH⟩ := hS0
    go_simp
    try with_reducible rfl
  simp only [pt, sb, s0, s1]
  refine tm 20 (some 25) (v := ?_) rfl (by kernel_rfl) (fun _ _ _ h => h) (does_yield (by kernel_rfl) ?_) ?_
  rotate_left
  · intro w0 hS0
    obtain ⟨⟨q0, q1, q2, q3, q4, q5⟩, hH⟩ := hS0
    go_simp
    try with_reducible rfl
  simp only [pt, sb, s0, s1]
  refine tm 21 (some 26) (v := ?_) rfl (by kernel_rfl) (fun _ _ _ h => h) (does_yield (by kernel_rfl) ?_) ?_
  rotate_left
  · intro w0 hS0
    obtain ⟨⟨q0, q1, q2, q3, q4, q5⟩, hH⟩ := hS0
    go_simp
    try with_reducible rfl
  simp only [pt, sb, s0, s1]
  refine tm 22 (some 27) (v := ?_) rfl (by kernel_rfl) (fun _ _ _ h => h) (does_yield (by kernel_rfl) ?_) ?_
  rotate_left
  · intro w0 hS0
    obtain ⟨⟨q0, q1, q2, q3, q4, q5⟩, hH⟩ := hS0
    go_simp
    try with_reducible rfl
  simp only [pt, sb, s0, s1]
  refine tm 23 (some 28) (v := .bool true) rfl (by kernel_rfl) (fun _ _ _ h => h) (does_call (f := 314) (args := #[.agg #[.int .i64 x.id, .int .i64 x.max, .slice x.itemsA x.items.length x.itemsC]]) (by kernel_rfl) ?_ ?_) ?_
  · intro w0 hS0
    obtain ⟨⟨q0, q1, q2, q3, q4, q5⟩, hH⟩ := hS0
    go_simp
    try with_reducible rfl
  · intro w0 hS0
    refine (rightBuffer_any x w0 hS0.2.2.out).mono ?_
    rintro e w2 ⟨rfl, hb2⟩
    exact ⟨HD.out, laySBuffer_of (hS0.2.1.out.below hb2) (hS0.2.2.out.below hb2)⟩
  simp only [pt, sb, s0, s1]
  refine tm 24 (some 29) (v := ?_) rfl (by kernel_rfl) (fun _ _ _ h => h) (does_yield (by kernel_rfl) ?_) ?_
  rotate_left
  · intro w0 hS0
    obtain ⟨⟨q0, q1, q2, q3, q4, q5⟩, hH⟩ := hS0
    go_simp
    try with_reducible rfl
  simp only [pt, sb, s0, s1]
  refine tm 25 (some 30) (v := ?_) rfl (by kernel_rfl) (fun _ _ _ h => h) (does_yield (by kernel_rfl) ?_) ?_
  rotate_left
  · intro w0 hS0
    obtain ⟨⟨q0, q1, q2, q3, q4, q5⟩, hH⟩ := hS0
    go_simp
    try with_reducible rfl
  simp only [pt, sb, s0, s1]
  refine tame_done (by kernel_rfl) ?_ _
  intro w1 hS1
  go_wp2_with fail
  refine last_region (LaySBuffer w b m most x) 5 (by kernel_rfl) (laySBuffer_of hS1.2.1.out.drew (hS1.2.2.out.below (Below.refl _ _).drew)) ?_
  refine ls 0 6 (some 31) (v := ?_) rfl (by kernel_rfl) (fun _ _ _ h => h) (does_yield (by kernel_rfl) ?_) ?_
  rotate_left
  · intro w0 hS0
    obtain ⟨⟨q0, q1, q2, q3, q4, q5⟩, hH⟩ := hS0
    go_simp
    try with_reducible rfl
  simp only [pt, sb, s0, s1]
  refine ls 1 6 (some 32) (v := ?_) rfl (by kernel_rfl) (fun _ _ _ h => h) (does_yield (by kernel_rfl) ?_) ?_
  rotate_left
  · intro w0 hS0
    obtain ⟨⟨q0, q1, q2, q3, q4, q5⟩, hH⟩ := hS0
    go_simp
    try with_reducible rfl
  simp only [pt, sb, s0, s1]
  refine ls 2 6 (some 33) (v := ?_) rfl (by kernel_rfl) (fun _ _ _ h => h) (does_yield (by kernel_rfl) ?_) ?_
  rotate_left
  · intro w0 hS0
    obtain ⟨⟨q0, q1, q2, q3, q4, q5⟩, hH⟩ := hS0
    go_simp
    try with_reducible rfl
  simp only [pt, sb, s0, s1]
  refine ls 3 6 (some 34) (v := ?_) rfl (by kernel_rfl) (fun _ _ _ h => h) (does_yield (by kernel_rfl) ?_) ?_
  rotate_left
  · intro w0 hS0
    obtain ⟨⟨q0, q1, q2, q3, q4, q5⟩, hH⟩ := hS0
    go_simp
    try with_reducible rfl
  simp only [pt, sb, s0, s1]
  refine ls 4 6 (some 35) (v := .int .i64 x.id) rfl (by kernel_rfl) (fun _ _ _ h => h) (does_call (f := 313) (args := #[.agg #[.int .i64 x.id, .int .i64 x.max, .slice x.itemsA x.items.length x.itemsC]]) (by kernel_rfl) ?_ ?_) ?_
  · intro w0 hS0
    obtain ⟨⟨q0, q1, q2, q3, q4, q5⟩, hH⟩ := hS0
    go_simp
    try with_reducible rfl
  · intro w0 hS0
    refine (numberBuffer_any x w0).mono ?_
    rintro e w2 ⟨rfl, hb2⟩
    exact ⟨rfl, laySBuffer_of (hS0.2.1.out.below hb2) (hS0.2.2.out.below hb2)⟩
  simp only [pt, sb, s0, s1]
  refine last_done rfl (by kernel_rfl) (by kernel_rfl) (by kernel_rfl) ?_
  intro w1 hS1
  obtain ⟨w2, hput, hend⟩ := hS1.2.1.out.put (by omega) Tryz.underlying120 HW.out HL.out.1 HL.out.2.2 HL.out.2.1
  have HE : Hid (LayEnds w b m true x.id (bufferVs x) 144 (.returned (.bool true)) w2) := hend
  clear hend hS1
  go_simp
  go_wp2
  go_ret
  rw [HN.out]
  exact HE.out

theorem layBuffer_any (most : Int) (b : Nat) (m : MapL) (x : BufferD) (w : World) (h : MapIs w b m) (hw : (Lit.int .i64 x.id).wf = true) (hm : m.length ≤ 1048576) (hf : BufferFit w x) :
    Calls Tryz.prog 92 #[.agg #[.int .i64 most, .map (some b)], .agg (bufferVs x)] w fun e w' => LayEnds w b m (layB most m x.id (bufferB x.toBufferP)) x.id (bufferVs x) 144 e w' := by
  cases hA : (lookM m x.id).isSome with
  | true => exact layBuffer_no1 most b m x w h hw hm hf hA
  | false =>
    by_cases hB : most ≤ (m.length : Int)
    · exact layBuffer_no2 most b m x w h hw hm hf hA hB
    cases hC : inB x.id 1 1000 with
    | false => exact layBuffer_no3 most b m x w h hw hm hf hA hB hC
    | true =>
      cases hD : bufferB x.toBufferP with
      | false => rw [← hD]; exact layBuffer_no4 most b m x w h hw hm hf hA hB hC hD
      | true => rw [← hD]; exact layBuffer_yes most b m x w h hw hm hf hA hB hC hD

end Go.Proofs.YtkbcplnlehdjfaaGreat

/- A shelf of a list of things of the kind Buffer. (Made by mkshelfof.py.) -/
namespace Go.Proofs.YtkbcplnlehdjfaaGreat
open Go.RowKit
attribute [local go_sem ↓] Go.wp_at_zero Go.wp_at_succ

/-- What holds at the head of each round. -/
def ShBufferAt (w : World) (most : Int) (list : List BufferD) (k : Nat) (wr : World) : Prop :=
  ∃ l : List (BufferD × Nat), l.map (·.1) = list.take k ∧ ShIn bufferVs (fun x : BufferD => x.id) 144 122 w wr most l ∧ thingsB (fun x : BufferD => x.id) (fun x : BufferD => bufferB x.toBufferP) 0 (list.take k) = true ∧ (k : Int) ≤ max most 0

set_option maxRecDepth 100000 in
set_option maxHeartbeats 4000000 in
theorem shelfOfBuffer_any (a : Option Addr) (list : List BufferD) (cap : Nat) (most : Int) (w : World) (hl : list.length ≤ 1048576) (h : bufferK.Lies w a list) (hf : ∀ x ∈ list, BufferFit w x) (hw : ∀ x ∈ list, (Lit.int .i64 x.id).wf = true) :
    Calls Tryz.prog 151 #[.slice a list.length cap, .int .i64 most] w fun e w' => ShelfEnds bufferVs (fun x : BufferD => x.id) 144 w most (thingsB (fun x : BufferD => x.id) (fun x : BufferD => bufferB x.toBufferP) 0 list && decide ((list.length : Int) ≤ max most 0)) list e w' := by
  have hmk := run_makeMap (P := Tryz.prog) 120
  have hmn := meth_numberBuffer
  have H0 : Hid (ShIn bufferVs (fun x : BufferD => x.id) 144 122 w (((w.alloc (.cells #[.int .i64 0, .map none] 122)).alloc (.map #[] 0)).alloc (.cells #[.int .i64 most, .map (some (w.heap.size + 1))] 122)) most []) := ShIn.start 122 w most
  have HL : Hid (bufferK.Lies w a list ∧ (∀ x ∈ list, BufferFit w x) ∧ ∀ x ∈ list, (Lit.int .i64 x.id).wf = true) := ⟨h, hf, hw⟩
  clear h hf hw
  go_enter Tryz.func151, Tryz.ntmps151
  go_wp2_with fail
  go_loopw [7, 15] (fun last i wr => ∃ k : Nat, k ≤ list.length ∧ i = .int .i64 k ∧ last = .int .i64 (lastOf (fun x : BufferD => x.id) 0 (list.take k)) ∧ Hid (ShBufferAt w most list k wr)) (fun _ i _ => list.length - (intOf i).toNat)
  case atStart => exact ⟨0, Nat.zero_le _, rfl, rfl, ⟨[], by simp, H0.out, rfl, by simp; omega⟩⟩
  case round =>
    clear H0 hmk
    obtain ⟨k, hk, rfl, rfl, HA⟩ := hrel
    obtain ⟨l, hlm, hin, hth, hkm⟩ := HA.out
    have HT : Hid (l.map (·.1) = list.take k ∧ thingsB (fun x : BufferD => x.id) (fun x : BufferD => bufferB x.toBufferP) 0 (list.take k) = true ∧ (k : Int) ≤ max most 0) := ⟨hlm, hth, hkm⟩
    have HI : Hid (ShIn bufferVs (fun x : BufferD => x.id) 144 122 w wr most l) := hin
    clear HA hlm hin hth hkm
    by_cases hlt : k < list.length
    · have i0 : (0 : Int) ≤ (k : Int) := by omega
      have i1 : (k : Int) < (list.length : Int) := by omega
      obtain ⟨x, hx⟩ : ∃ x, list[k]? = some x := ⟨_, List.getElem?_eq_getElem hlt⟩
      have hmem := List.mem_of_getElem? hx
      have HX : Hid (list[k]? = some x) := hx
      have HF : Hid (BufferFit w x ∧ (Lit.int .i64 x.id).wf = true) := ⟨HL.out.2.1 x hmem, HL.out.2.2 x hmem⟩
      obtain ⟨gs, ha, hat⟩ := buffer_at (HL.out.1.below HI.out.bel) hx
      obtain ⟨c0, c1, c2⟩ := hat
      subst ha
      clear hx hmem
      go_wp2_with fail
      refine (numberBuffer_any x _).mono ?_
      rintro e w2 ⟨rfl, hb2⟩
      have HI2 : Hid (ShIn bufferVs (fun x : BufferD => x.id) 144 122 w w2 most l) := (HI.out.below ((Below.refl _ wr).alloc (Nat.le_refl _) (.cells #[.int .i64 x.id, .int .i64 x.max, .slice x.itemsA x.items.length x.itemsC] 144))).below hb2
      have HB : Hid (w2.heap[wr.heap.size]? = some (.cells (bufferVs x) 144 (0, 0))) := (hb2.block _ (by simp)).trans (heap_alloc_new _ _)
      have HZ : Hid (w.heap.size + 1 < wr.heap.size) := by show w.heap.size + 1 < wr.heap.size; have := (Array.getElem?_eq_some_iff.1 HI.out.var).1; omega
      clear hb2 HI c0 c1 c2
      obtain ⟨d0, d1, d2⟩ := buffer_cells HB.out
      obtain ⟨r0, r1, v0, v1, z0, z1⟩ := HI2.out.cells
      by_cases hle : x.id ≤ lastOf (fun x : BufferD => x.id) 0 (list.take k)
      · have HN : Hid ((thingsB (fun x : BufferD => x.id) (fun x : BufferD => bufferB x.toBufferP) 0 list && decide ((list.length : Int) ≤ max most 0)) = false) := by
          show _ = false
          rw [things_no HX.out (fun hh => absurd hh.2.1 (by show ¬ lastOf (fun x : BufferD => x.id) 0 (list.take k) < x.id; omega))]; rfl
        go_wp2
        refine bodyPost_ret (v := .tuple #[.agg #[.int .i64 0, .map none], .bool false]) (by simp [results, Tryz.results151, go_sem, *]) rfl ?_
        exact ⟨(HI2.out.away _ _).2, .inl ⟨HN.out, rfl⟩⟩
      have HLT : Hid (lastOf (fun x : BufferD => x.id) 0 (list.take k) < x.id) := by show _ < _; omega
      have hkl : (keysOf (fun x : BufferD => x.id) l).length ≤ 1048576 := by
        rw [keysOf_length]
        have := congrArg List.length HT.out.1
        simp only [List.length_map, List.length_take] at this
        omega
      go_wp2_with fail
      refine (layBuffer_any most (w.heap.size + 1) (keysOf (fun x : BufferD => x.id) l) x w2 HI2.out.shelf.map HF.out.2 hkl (HF.out.1.below HI2.out.bel)).mono ?_
      rintro e w3 ⟨rfl, hno, hyes⟩
      cases hlay : layB most (keysOf (fun x : BufferD => x.id) l) x.id (bufferB x.toBufferP) with
      | false =>
        have HN : Hid ((thingsB (fun x : BufferD => x.id) (fun x : BufferD => bufferB x.toBufferP) 0 list && decide ((list.length : Int) ≤ max most 0)) = false) := things_lay_no HX.out HT.out.1 HT.out.2.1 HLT.out hlay
        have HI3 : Hid (ShIn bufferVs (fun x : BufferD => x.id) 144 122 w w3 most l) := HI2.out.below (hno hlay)
        clear hno hyes hlay HI2 r0 r1 v0 v1 z0 z1 d0 d1 d2 HB
        obtain ⟨r0, r1, v0, v1, z0, z1⟩ := HI3.out.cells
        go_wp2
        refine bodyPost_ret (v := .tuple #[.agg #[.int .i64 0, .map none], .bool false]) (by simp [results, Tryz.results151, go_sem, *]) rfl ?_
        exact ⟨(HI3.out.away _ _).2, .inl ⟨HN.out, rfl⟩⟩
      | true =>
        have HY : Hid (thingsB (fun x : BufferD => x.id) (fun x : BufferD => bufferB x.toBufferP) 0 (list.take (k + 1)) = true ∧ ((k + 1 : Nat) : Int) ≤ max most 0) := things_lay_yes HX.out HT.out.1 HT.out.2.1 HLT.out hlay
        obtain ⟨g, hin4⟩ := HI2.out.lay (x := x) (e := .returned (.bool true)) (w' := w3) ⟨rfl, (fun h => by cases h), fun _ => hyes hlay⟩ (rises_last HT.out.1 HT.out.2.1 HLT.out)
        have HI4 : Hid (ShIn bufferVs (fun x : BufferD => x.id) 144 122 w w3 most (l ++ [(x, g)])) := hin4
        have HB3 : Hid (w3.heap[wr.heap.size]? = some (.cells (bufferVs x) 144 (0, 0))) := by
          obtain ⟨g', _, _, _, hgr⟩ := hyes hlay
          exact (hgr.block _ (Array.getElem?_eq_some_iff.1 HB.out).1 (fun e => by have := Option.some.inj e; have := HZ.out; omega)).trans HB.out
        clear hno hyes hlay HI2 r0 r1 v0 v1 z0 z1 d0 d1 d2 HB hin4
        obtain ⟨d0, d1, d2⟩ := buffer_cells HB3.out
        go_wp2_with fail
        refine (numberBuffer_any x _).mono ?_
        rintro e w5 ⟨rfl, hb5⟩
        have HI5 : Hid (ShIn bufferVs (fun x : BufferD => x.id) 144 122 w w5 most (l ++ [(x, g)])) := HI4.out.below hb5
        have HE : Hid (lastOf (fun x : BufferD => x.id) 0 (list.take (k + 1)) = x.id) := lastOf_take HX.out 0
        clear hb5 HI4
        go_wp2
        go_roundw
        case rel => exact ⟨k + 1, by omega, by go_num, by rw [HE.out], ⟨l ++ [(x, g)], by rw [List.map_append, HT.out.1, take_up HX.out]; rfl, HI5.out, HY.out.1, HY.out.2⟩⟩
        case measure => simp [intOf]; omega
    · have i1 : ¬ (k : Int) < (list.length : Int) := by omega
      have HK : Hid (list.take k = list ∧ ((list.length : Int) ≤ max most 0)) := ⟨List.take_of_length_le (by omega), by have := HT.out.2.2; omega⟩
      have HY : Hid ((thingsB (fun x : BufferD => x.id) (fun x : BufferD => bufferB x.toBufferP) 0 list && decide ((list.length : Int) ≤ max most 0)) = true) := by
        show _ = true
        have h1 := HT.out.2.1
        rw [HK.out.1] at h1
        rw [h1, decide_eq_true HK.out.2]; rfl
      obtain ⟨r0, r1, v0, v1, z0, z1⟩ := HI.out.cells
      go_wp2
      refine bodyPost_ret (v := .tuple #[.agg #[.int .i64 most, .map (some (w.heap.size + 1))], .bool true]) (by simp [results, Tryz.results151, go_sem, *]) rfl ?_
      exact ⟨(HI.out.away _ _).2, .inr ⟨HY.out, w.heap.size + 1, l, rfl, by rw [HT.out.1, HK.out.1], (HI.out.away _ _).1⟩⟩

end Go.Proofs.YtkbcplnlehdjfaaGreat

/- Laying a thing of the kind Port into its shelf. (Made by mkshelf.py.) -/
namespace Go.Proofs.YtkbcplnlehdjfaaGreat
open Go.RowKit
attribute [local go_sem ↓] Go.wp_at_zero Go.wp_at_succ

/-- What every order of laying in keeps. -/
def LaySPort (w : World) (b : Nat) (m : MapL) (most : Int) (x : PortD) (w' : World) : Prop := (w'.cell? ⟨w.heap.size, 0, none⟩ = some (.int .i64 most) ∧ w'.cell? ⟨w.heap.size, 1, none⟩ = some (.map (some b)) ∧ (∀ ty, (Builtin.len_ #[123] ty #[.map (some b)]).run Tryz.prog w' = .ok (.int .i64 (m.length : Int)) w') ∧ w'.cell? ⟨w.heap.size + 1, 0, none⟩ = some (.int .i64 x.id) ∧ w'.cell? ⟨w.heap.size + 1, 1, none⟩ = some (.bool x.out) ∧ w'.cell? ⟨w.heap.size + 1, 2, none⟩ = some (.bool x.queue) ∧ w'.cell? ⟨w.heap.size + 1, 3, none⟩ = some (.int .i64 x.max) ∧ w'.cell? ⟨w.heap.size + 1, 4, none⟩ = some (.slice x.itemsA x.items.length x.itemsC)) ∧ Hid (LayIn w w' w.heap.size (w.heap.size + 1) b m most (portVs x) 61 125) ∧ Hid (PortFit w' x)
theorem laySPort_of {w w' : World} {b : Nat} {m : MapL} {most : Int} {x : PortD} (h : LayIn w w' w.heap.size (w.heap.size + 1) b m most (portVs x) 61 125) (hf : PortFit w' x) : LaySPort w b m most x w' :=
  ⟨⟨h.cells.1, h.cells.2, fun ty => h.mp.len Tryz.underlying123 ty, port_cells h.bx⟩, h, hf⟩
set_option maxRecDepth 100000 in
set_option maxHeartbeats 4000000 in
theorem layPort_no1 (most : Int) (b : Nat) (m : MapL) (x : PortD) (w : World) (h : MapIs w b m) (hw : (Lit.int .i64 x.id).wf = true) (_hm : m.length ≤ 1048576) (hf : PortFit w x) (hA : (lookM m x.id).isSome = true) :
    Calls Tryz.prog 94 #[.agg #[.int .i64 most, .map (some b)], .agg (portVs x)] w fun e w' => LayEnds w b m (layB most m x.id (portB x.toPortP)) x.id (portVs x) 61 e w' := by
  have HF : Hid (LayIn w ((w.alloc (.cells #[.int .i64 most, .map (some b)] 125)).alloc (.cells (portVs x) 61)) w.heap.size (w.heap.size + 1) b m most (portVs x) 61 125) := LayIn.start w h most _ _ _
  have HN : Hid (layB most m x.id (portB x.toPortP) = false) := by show layB most m x.id (portB x.toPortP) = false; simp [layB, hA]
  have HA : Hid (Ending.returned (.bool (lookM m x.id).isSome) = .returned (.bool true)) := ret_bool hA
  have HW : Hid ((Lit.int .i64 x.id).wf = true) := hw
  have HI : Hid (PortFit ((w.alloc (.cells #[.int .i64 most, .map (some b)] 125)).alloc (.cells (portVs x) 61)) x) := hf.below ((((Below.refl _ w).alloc (Nat.le_refl _) _)).alloc (by simp) _)
  have hmn := meth_numberPort
  have hmr := meth_rightPort
  obtain ⟨s0, s1⟩ := HF.out.cells
  obtain ⟨c0, c1, c2, c3, c4⟩ := port_cells HF.out.bx
  clear h hw hf hA
  unfold portVs at *
  go_enter Tryz.func94, Tryz.ntmps94
  go_wp2_with fail
  clear s0 s1 c0 c1 c2 c3 c4
  refine tame_region (LaySPort w b m most x) (by kernel_rfl) (laySPort_of HF.out.drew (HI.out.below (Below.refl _ _).drew)) ?_
  refine tm 0 (some 5) (v := ?_) rfl (by kernel_rfl) (fun _ _ _ h => h) (does_yield (by kernel_rfl) ?_) ?_
  rotate_left
  · intro w0 hS0
    obtain ⟨⟨q0, q1, q2, q3, q4, q5, q6, q7⟩, hH⟩ := hS0
    go_simp
    try with_reducible rfl
  simp only [pt, sb, s0, s1]
  refine tm 1 (some 6) (v := ?_) rfl (by kernel_rfl) (fun _ _ _ h => h) (does_yield (by kernel_rfl) ?_) ?_
  rotate_left
  · intro w0 hS0
    obtain ⟨⟨q0, q1, q2, q3, q4, q5, q6, q7⟩, hH⟩ := hS0
    go_simp
    try with_reducible rfl
  simp only [pt, sb, s0, s1]
  refine tm 2 (some 7) (v := ?_) rfl (by kernel_rfl) (fun _ _ _ h => h) (does_yield (by kernel_rfl) ?_) ?_
  rotate_left
  · intro w0 hS0
    obtain ⟨⟨q0, q1, q2, q3, q4, q5, q6, q7⟩, hH⟩ := hS0
    go_simp
    try with_reducible rfl
  simp only [pt, sb, s0, s1]
  refine tm 3 (some 8) (v := .int .i64 x.id) rfl (by kernel_rfl) (fun _ _ _ h => h) (does_call (f := 297) (args := #[.agg #[.int .i64 x.id, .bool x.out, .bool x.queue, .int .i64 x.max, .slice x.itemsA x.items.length x.itemsC]]) (by kernel_rfl) ?_ ?_) ?_
  · intro w0 hS0
    obtain ⟨⟨q0, q1, q2, q3, q4, q5, q6, q7⟩, hH⟩ := hS0
    go_simp
    try with_reducible rfl
  · intro w0 hS0
    refine (numberPort_any x w0).mono ?_
    rintro e w2 ⟨rfl, hb2⟩
    exact ⟨rfl, laySPort_of (hS0.2.1.out.below hb2) (hS0.2.2.out.below hb2)⟩
  simp only [pt, sb, s0, s1]
  refine tm 4 (some 9) (v := .bool true) rfl (by kernel_rfl) (fun _ _ _ h => h) (does_call (f := 179) (args := #[.agg #[.int .i64 most, .map (some b)], .int .i64 x.id]) (by kernel_rfl) ?_ ?_) ?_
  · intro w0 hS0
    obtain ⟨⟨q0, q1, q2, q3, q4, q5, q6, q7⟩, hH⟩ := hS0
    go_simp
    try with_reducible rfl
  · intro w0 hS0
    refine (hasPort_any most b m x.id w0 hS0.2.1.out.mp HW.out).mono ?_
    rintro e w2 ⟨rfl, hb2⟩
    exact ⟨HA.out, laySPort_of (hS0.2.1.out.below hb2) (hS0.2.2.out.below hb2)⟩
  simp only [pt, sb, s0, s1]
  refine tm 5 (some 10) (v := ?_) rfl (by kernel_rfl) (fun _ _ _ h => h) (does_yield (by kernel_rfl) ?_) ?_
  rotate_left
  · intro w0 hS0
    obtain ⟨⟨q0, q1, q2, q3, q4, q5, q6, q7⟩, hH⟩ := hS0
    go_simp
    try with_reducible rfl
  simp only [pt, sb, s0, s1]
  refine tm 6 (some 11) rfl (by kernel_rfl) (fun _ _ _ h => h) (does_skip (by kernel_rfl)) ?_
  simp only [pt, sb, s0, s1]
  refine tm 7 (some 12) rfl (by kernel_rfl) (fun _ _ _ h => h) (does_skip (by kernel_rfl)) ?_
  simp only [pt, sb, s0, s1]
  refine tm 8 (some 13) rfl (by kernel_rfl) (fun _ _ _ h => h) (does_skip (by kernel_rfl)) ?_
  simp only [pt, sb, s0, s1]
  refine tm 9 (some 14) rfl (by kernel_rfl) (fun _ _ _ h => h) (does_skip (by kernel_rfl)) ?_
  simp only [pt, sb, s0, s1]
  refine tm 10 (some 15) rfl (by kernel_rfl) (fun _ _ _ h => h) (does_skip (by kernel_rfl)) ?_
  simp only [pt, sb, s0, s1]
  refine tm 11 (some 16) rfl (by kernel_rfl) (fun _ _ _ h => h) (does_skip (by kernel_rfl)) ?_
  simp only [pt, sb, s0, s1]
  refine tm 12 (some 17) (v := ?_) rfl (by kernel_rfl) (fun _ _ _ h => h) (does_yield (by kernel_rfl) ?_) ?_
  rotate_left
  · intro w0 hS0
    obtain ⟨⟨q0, q1, q2, q3, q4, q5, q6, q7⟩, hH⟩ := hS0
    go_simp
    try with_reducible rfl
  simp only [pt, sb, s0, s1]
  refine tm 13 (some 18) (v := ?_) rfl (by kernel_rfl) (fun _ _ _ h => h) (does_yield (by kernel_rfl) ?_) ?_
  rotate_left
  · intro w0 hS0
    obtain ⟨⟨q0, q1, q2, q3, q4, q5, q6, q7⟩, hH⟩ := hS0
    go_simp
    try with_reducible rfl
  simp only [pt, sb, s0, s1]
  refine tm 14 (some 19) rfl (by kernel_rfl) (fun _ _ _ h => h) (does_skip (by kernel_rfl)) ?_
  simp only [pt, sb, s0, s1]
  refine tm 15 (some 20) rfl (by kernel_rfl) (fun _ _ _ h => h) (does_skip (by kernel_rfl)) ?_
  simp only [pt, sb, s0, s1]
  refine tm 16 (some 21) rfl (by kernel_rfl) (fun _ _ _ h => h) (does_skip (by kernel_rfl)) ?_
  simp only [pt, sb, s0, s1]
  refine tm 17 (some 22) rfl (by kernel_rfl) (fun _ _ _ h => h) (does_skip (by kernel_rfl)) ?_
  simp only [pt, sb, s0, s1]
  refine tm 18 (some 23) rfl (by kernel_rfl) (fun _ _ _ h => h) (does_skip (by kernel_rfl)) ?_
  simp only [pt, sb, s0, s1]
  refine tm 19 (some 24) (v := ?_) rfl (by kernel_rfl) (fun _ _ _ h => h) (does_yield (by kernel_rfl) ?_) ?_
  rotate_left
  · intro w0 hS0
    obtain ⟨⟨q0, q1, q2, q3, q4, q5, q6, q7⟩, hH⟩ := hS0
    go_simp
    try with_reducible rfl
  simp only [pt, sb, s0, s1]
  refine tm 20 (some 25) (v := ?_) rfl (by kernel_rfl) (fun _ _ _ h => h) (does_yield (by kernel_rfl) ?_) ?_
  rotate_left
  · intro w0 hS0
    obtain ⟨⟨q0, q1, q2, q3, q4, q5, q6, q7⟩, hH⟩ := hS0
    go_simp
    try with_reducible rfl
  simp only [pt, sb, s0, s1]
  refine tm 21 (some 26) rfl (by kernel_rfl) (fun _ _ _ h => h) (does_skip (by kernel_rfl)) ?_
  simp only [pt, sb, s0, s1]
  refine tm 22 (some 27) rfl (by kernel_rfl) (fun _ _ _ h => h) (does_skip (by kernel_rfl)) ?_
  simp only [pt, sb, s0, s1]
  refine tm 23 (some 28) rfl (by kernel_rfl) (fun _ _ _ h => h) (does_skip (by kernel_rfl)) ?_
  simp only [pt, sb, s0, s1]
  refine tm 24 (some 29) rfl (by kernel_rfl) (fun _ _ _ h => h) (does_skip (by kernel_rfl)) ?_
  simp only [pt, sb, s0, s1]
  refine tm 25 (some 30) (v := ?_) rfl (by kernel_rfl) (fun _ _ _ h => h) (does_yield (by kernel_rfl) ?_) ?_
  rotate_left
  · intro w0 hS0
    obtain ⟨⟨q0, q1, q2, q3, q4, q5, q6, q7⟩, hH⟩ := hS0
    go_simp
    try with_reducible rfl
  simp only [pt, sb, s0, s1]
  refine tame_done (by kernel_rfl) ?_ _
  intro w1 hS1
  go_wp2
  go_ret
  exact layEnds_no HN.out hS1.2.1.out.bel

set_option maxRecDepth 100000 in
set_option maxHeartbeats 4000000 in
theorem layPort_no2 (most : Int) (b : Nat) (m : MapL) (x : PortD) (w : World) (h : MapIs w b m) (hw : (Lit.int .i64 x.id).wf = true) (_hm : m.length ≤ 1048576) (hf : PortFit w x) (hA : (lookM m x.id).isSome = false) (hB : most ≤ (m.length : Int)) :
    Calls Tryz.prog 94 #[.agg #[.int .i64 most, .map (some b)], .agg (portVs x)] w fun e w' => LayEnds w b m (layB most m x.id (portB x.toPortP)) x.id (portVs x) 61 e w' := by
  have HF : Hid (LayIn w ((w.alloc (.cells #[.int .i64 most, .map (some b)] 125)).alloc (.cells (portVs x) 61)) w.heap.size (w.heap.size + 1) b m most (portVs x) 61 125) := LayIn.start w h most _ _ _
  have hB2 : ¬ (m.length : Int) < most := by omega
  have HN : Hid (layB most m x.id (portB x.toPortP) = false) := by show layB most m x.id (portB x.toPortP) = false; simp [layB, hB2]
  have HA : Hid (Ending.returned (.bool (lookM m x.id).isSome) = .returned (.bool false)) := ret_bool hA
  have hBd : decide (most ≤ (m.length : Int)) = true := decide_eq_true hB
  have HW : Hid ((Lit.int .i64 x.id).wf = true) := hw
  have HI : Hid (PortFit ((w.alloc (.cells #[.int .i64 most, .map (some b)] 125)).alloc (.cells (portVs x) 61)) x) := hf.below ((((Below.refl _ w).alloc (Nat.le_refl _) _)).alloc (by simp) _)
  have hmn := meth_numberPort
  have hmr := meth_rightPort
  obtain ⟨s0, s1⟩ := HF.out.cells
  obtain ⟨c0, c1, c2, c3, c4⟩ := port_cells HF.out.bx
  clear h hw hf hA hB hB2
  unfold portVs at *
  go_enter Tryz.func94, Tryz.ntmps94
  go_wp2_with fail
  clear s0 s1 c0 c1 c2 c3 c4
  refine tame_region (LaySPort w b m most x) (by kernel_rfl) (laySPort_of HF.out.drew (HI.out.below (Below.refl _ _).drew)) ?_
  refine tm 0 (some 5) (v := ?_) rfl (by kernel_rfl) (fun _ _ _ h => h) (does_yield (by kernel_rfl) ?_) ?_
  rotate_left
  · intro w0 hS0
    obtain ⟨⟨q0, q1, q2, q3, q4, q5, q6, q7⟩, hH⟩ := hS0
    go_simp
    try with_reducible rfl
  simp only [pt, sb, s0, s1]
  refine tm 1 (some 6) (v := ?_) rfl (by kernel_rfl) (fun _ _ _ h => h) (does_yield (by kernel_rfl) ?_) ?_
  rotate_left
  · intro w0 hS0
    obtain ⟨⟨q0, q1, q2, q3, q4, q5, q6, q7⟩, hH⟩ := hS0
    go_simp
    try with_reducible rfl
  simp only [pt, sb, s0, s1]
  refine tm 2 (some 7) (v := ?_) rfl (by kernel_rfl) (fun _ _ _ h => h) (does_yield (by kernel_rfl) ?_) ?_
  rotate_left
  · intro w0 hS0
    obtain ⟨⟨q0, q1, q2, q3, q4, q5, q6, q7⟩, hH⟩ := hS0
    go_simp
    try with_reducible rfl
  simp only [pt, sb, s0, s1]
  refine tm 3 (some 8) (v := .int .i64 x.id) rfl (by kernel_rfl) (fun _ _ _ h => h) (does_call (f := 297) (args := #[.agg #[.int .i64 x.id, .bool x.out, .bool x.queue, .int .i64 x.max, .slice x.itemsA x.items.length x.itemsC]]) (by kernel_rfl) ?_ ?_) ?_
  · intro w0 hS0
    obtain ⟨⟨q0, q1, q2, q3, q4, q5, q6, q7⟩, hH⟩ := hS0
    go_simp
    try with_reducible rfl
  · intro w0 hS0
    refine (numberPort_any x w0).mono ?_
    rintro e w2 ⟨rfl, hb2⟩
    exact ⟨rfl, laySPort_of (hS0.2.1.out.below hb2) (hS0.2.2.out.below hb2)⟩
  simp only [pt, sb, s0, s1]
  refine tm 4 (some 9) (v := .bool false) rfl (by kernel_rfl) (fun _ _ _ h => h) (does_call (f := 179) (args := #[.agg #[.int .i64 most, .map (some b)], .int .i64 x.id]) (by kernel_rfl) ?_ ?_) ?_
  · intro w0 hS0
    obtain ⟨⟨q0, q1, q2, q3, q4, q5, q6, q7⟩, hH⟩ := hS0
    go_simp
    try with_reducible rfl
  · intro w0 hS0
    refine (hasPort_any most b m x.id w0 hS0.2.1.out.mp HW.out).mono ?_
    rintro e w2 ⟨rfl, hb2⟩
    exact ⟨HA.out, laySPort_of (hS0.2.1.out.below hb2) (hS0.2.2.out.below hb2)⟩
  simp only [pt, sb, s0, s1]
  refine tm 5 (some 10) (v := ?_) rfl (by kernel_rfl) (fun _ _ _ h => h) (does_yield (by kernel_rfl) ?_) ?_
  rotate_left
  · intro w0 hS0
    obtain ⟨⟨q0, q1, q2, q3, q4, q5, q6, q7⟩, hH⟩ := hS0
    go_simp
    try with_reducible rfl
  simp only [pt, sb, s0, s1]
  refine tm 6 (some 11) (v := ?_) rfl (by kernel_rfl) (fun _ _ _ h => h) (does_yield (by kernel_rfl) ?_) ?_
  rotate_left
  · intro w0 hS0
    obtain ⟨⟨q0, q1, q2, q3, q4, q5, q6, q7⟩, hH⟩ := hS0
    go_simp
    try with_reducible rfl
  simp only [pt, sb, s0, s1]
  refine tm 7 (some 12) (v := ?_) rfl (by kernel_rfl) (fun _ _ _ h => h) (does_yield (by kernel_rfl) ?_) ?_
  rotate_left
  · intro w0 hS0
    obtain ⟨⟨q0, q1, q2, q3, q4, q5, q6, q7⟩, hH⟩ := hS0
    go_simp
    try with_reducible rfl
  simp only [pt, sb, s0, s1]
  refine tm 8 (some 13) (v := ?_) rfl (by kernel_rfl) (fun _ _ _ h => h) (does_yield (by kernel_rfl) ?_) ?_
  rotate_left
  · intro w0 hS0
    obtain ⟨⟨q0, q1, q2, q3, q4, q5, q6, q7⟩, hH⟩ := hS0
    go_simp
    try with_reducible rfl
  simp only [pt, sb, s0, s1]
  refine tm 9 (some 14) (v := ?_) rfl (by kernel_rfl) (fun _ _ _ h => h) (does_yield (by kernel_rfl) ?_) ?_
  rotate_left
  · intro w0 hS0
    obtain ⟨⟨q0, q1, q2, q3, q4, q5, q6, q7⟩, hH⟩ := hS0
    go_simp
    try with_reducible rfl
  simp only [pt, sb, s0, s1]
  refine tm 10 (some 15) (v := ?_) rfl (by kernel_rfl) (fun _ _ _ h => h) (does_yield (by kernel_rfl) ?_) ?_
  rotate_left
  · intro w0 hS0
    obtain ⟨⟨q0, q1, q2, q3, q4, q5, q6, q7⟩, hH⟩ := hS0
    go_simp
    try with_reducible rfl
  simp only [pt, sb, s0, s1]
  refine tm 11 (some 16) (v := ?_) rfl (by kernel_rfl) (fun _ _ _ h => h) (does_yield (by kernel_rfl) ?_) ?_
  rotate_left
  · intro w0 hS0
    obtain ⟨⟨q0, q1, q2, q3, q4, q5, q6, q7⟩, hH⟩ := hS0
    go_simp
    try with_reducible rfl
  simp only [pt, sb, s0, s1]
  refine tm 12 (some 17) (v := ?_) rfl (by kernel_rfl) (fun _ _ _ h => h) (does_yield (by kernel_rfl) ?_) ?_
  rotate_left
  · intro w0 hS0
    obtain ⟨⟨q0, q1, q2, q3, q4, q5, q6, q7⟩, hH⟩ := hS0
    go_simp
    try with_reducible rfl
  simp only [pt, sb, s0, s1]
  refine tm 13 (some 18) (v := ?_) rfl (by kernel_rfl) (fun _ _ _ h => h) (does_yield (by kernel_rfl) ?_) ?_
  rotate_left
  · intro w0 hS0
    obtain ⟨⟨q0, q1, q2, q3, q4, q5, q6, q7⟩, hH⟩ := hS0
    go_simp
    try with_reducible rfl
  simp only [pt, sb, s0, s1]
  refine tm 14 (some 19) rfl (by kernel_rfl) (fun _ _ _ h => h) (does_skip (by kernel_rfl)) ?_
  simp only [pt, sb, s0, s1]
  refine tm 15 (some 20) rfl (by kernel_rfl) (fun _ _ _ h => h) (does_skip (by kernel_rfl)) ?_
  simp only [pt, sb, s0, s1]
  refine tm 16 (some 21) rfl (by kernel_rfl) (fun _ _ _ h => h) (does_skip (by kernel_rfl)) ?_
  simp only [pt, sb, s0, s1]
  refine tm 17 (some 22) rfl (by kernel_rfl) (fun _ _ _ h => h) (does_skip (by kernel_rfl)) ?_
  simp only [pt, sb, s0, s1]
  refine tm 18 (some 23) rfl (by kernel_rfl) (fun _ _ _ h => h) (does_skip (by kernel_rfl)) ?_
  simp only [pt, sb, s0, s1]
  refine tm 19 (some 24) (v := ?_) rfl (by kernel_rfl) (fun _ _ _ h => h) (does_yield (by kernel_rfl) ?_) ?_
  rotate_left
  · intro w0 hS0
    obtain ⟨⟨q0, q1, q2, q3, q4, q5, q6, q7⟩, hH⟩ := hS0
    go_simp
    try with_reducible rfl
  simp only [pt, sb, s0, s1]
  refine tm 20 (some 25) (v := ?_) rfl (by kernel_rfl) (fun _ _ _ h => h) (does_yield (by kernel_rfl) ?_) ?_
  rotate_left
  · intro w0 hS0
    obtain ⟨⟨q0, q1, q2, q3, q4, q5, q6, q7⟩, hH⟩ := hS0
    go_simp
    try with_reducible rfl
  simp only [pt, sb, s0, s1]
  refine tm 21 (some 26) rfl (by kernel_rfl) (fun _ _ _ h => h) (does_skip (by kernel_rfl)) ?_
  simp only [pt, sb, s0, s1]
  refine tm 22 (some 27) rfl (by kernel_rfl) (fun _ _ _ h => h) (does_skip (by kernel_rfl)) ?_
  simp only [pt, sb, s0, s1]
  refine tm 23 (some 28) rfl (by kernel_rfl) (fun _ _ _ h => h) (does_skip (by kernel_rfl)) ?_
  simp only [pt, sb, s0, s1]
  refine tm 24 (some 29) rfl (by kernel_rfl) (fun _ _ _ h => h) (does_skip (by kernel_rfl)) ?_
  simp only [pt, sb, s0, s1]
  refine tm 25 (some 30) (v := ?_) rfl (by kernel_rfl) (fun _ _ _ h => h) (does_yield (by kernel_rfl) ?_) ?_
  rotate_left
  · intro w0 hS0
    obtain ⟨⟨q0, q1, q2, q3, q4, q5, q6, q7⟩, hH⟩ := hS0
    go_simp
    try with_reducible rfl
  simp only [pt, sb, s0, s1]
  refine tame_done (by kernel_rfl) ?_ _
  intro w1 hS1
  go_wp2
  go_ret
  exact layEnds_no HN.out hS1.2.1.out.bel

set_option maxRecDepth 100000 in
set_option maxHeartbeats 4000000 in
theorem layPort_no3 (most : Int) (b : Nat) (m : MapL) (x : PortD) (w : World) (h : MapIs w b m) (hw : (Lit.int .i64 x.id).wf = true) (_hm : m.length ≤ 1048576) (hf : PortFit w x) (hA : (lookM m x.id).isSome = false) (hB : ¬ most ≤ (m.length : Int)) (hC : inB x.id 1 1000 = false) :
    Calls Tryz.prog 94 #[.agg #[.int .i64 most, .map (some b)], .agg (portVs x)] w fun e w' => LayEnds w b m (layB most m x.id (portB x.toPortP)) x.id (portVs x) 61 e w' := by
  have HF : Hid (LayIn w ((w.alloc (.cells #[.int .i64 most, .map (some b)] 125)).alloc (.cells (portVs x) 61)) w.heap.size (w.heap.size + 1) b m most (portVs x) 61 125) := LayIn.start w h most _ _ _
  have HN : Hid (layB most m x.id (portB x.toPortP) = false) := by show layB most m x.id (portB x.toPortP) = false; simp [layB, hC]
  have HA : Hid (Ending.returned (.bool (lookM m x.id).isSome) = .returned (.bool false)) := ret_bool hA
  have HC : Hid (Ending.returned (.bool (inB x.id 1 1000)) = .returned (.bool false)) := ret_bool hC
  have hBd : decide (most ≤ (m.length : Int)) = false := decide_eq_false hB
  have HW : Hid ((Lit.int .i64 x.id).wf = true) := hw
  have HI : Hid (PortFit ((w.alloc (.cells #[.int .i64 most, .map (some b)] 125)).alloc (.cells (portVs x) 61)) x) := hf.below ((((Below.refl _ w).alloc (Nat.le_refl _) _)).alloc (by simp) _)
  have hmn := meth_numberPort
  have hmr := meth_rightPort
  obtain ⟨s0, s1⟩ := HF.out.cells
  obtain ⟨c0, c1, c2, c3, c4⟩ := port_cells HF.out.bx
  clear h hw hf hA hC hB
  unfold portVs at *
  go_enter Tryz.func94, Tryz.ntmps94
  go_wp2_with fail
  clear s0 s1 c0 c1 c2 c3 c4
  refine tame_region (LaySPort w b m most x) (by kernel_rfl) (laySPort_of HF.out.drew (HI.out.below (Below.refl _ _).drew)) ?_
  refine tm 0 (some 5) (v := ?_) rfl (by kernel_rfl) (fun _ _ _ h => h) (does_yield (by kernel_rfl) ?_) ?_
  rotate_left
  · intro w0 hS0
    obtain ⟨⟨q0, q1, q2, q3, q4, q5, q6, q7⟩, hH⟩ := hS0
    go_simp
    try with_reducible rfl
  simp only [pt, sb, s0, s1]
  refine tm 1 (some 6) (v := ?_) rfl (by kernel_rfl) (fun _ _ _ h => h) (does_yield (by kernel_rfl) ?_) ?_
  rotate_left
  · intro w0 hS0
    obtain ⟨⟨q0, q1, q2, q3, q4, q5, q6, q7⟩, hH⟩ := hS0
    go_simp
    try with_reducible rfl
  simp only [pt, sb, s0, s1]
  refine tm 2 (some 7) (v := ?_) rfl (by kernel_rfl) (fun _ _ _ h => h) (does_yield (by kernel_rfl) ?_) ?_
  rotate_left
  · intro w0 hS0
    obtain ⟨⟨q0, q1, q2, q3, q4, q5, q6, q7⟩, hH⟩ := hS0
    go_simp
    try with_reducible rfl
  simp only [pt, sb, s0, s1]
  refine tm 3 (some 8) (v := .int .i64 x.id) rfl (by kernel_rfl) (fun _ _ _ h => h) (does_call (f := 297) (args := #[.agg #[.int .i64 x.id, .bool x.out, .bool x.queue, .int .i64 x.max, .slice x.itemsA x.items.length x.itemsC]]) (by kernel_rfl) ?_ ?_) ?_
  · intro w0 hS0
    obtain ⟨⟨q0, q1, q2, q3, q4, q5, q6, q7⟩, hH⟩ := hS0
    go_simp
    try with_reducible rfl
  · intro w0 hS0
    refine (numberPort_any x w0).mono ?_
    rintro e w2 ⟨rfl, hb2⟩
    exact ⟨rfl, laySPort_of (hS0.2.1.out.below hb2) (hS0.2.2.out.below hb2)⟩
  simp only [pt, sb, s0, s1]
  refine tm 4 (some 9) (v := .bool false) rfl (by kernel_rfl) (fun _ _ _ h => h) (does_call (f := 179) (args := #[.agg #[.int .i64 most, .map (some b)], .int .i64 x.id]) (by kernel_rfl) ?_ ?_) ?_
  · intro w0 hS0
    obtain ⟨⟨q0, q1, q2, q3, q4, q5, q6, q7⟩, hH⟩ := hS0
    go_simp
    try with_reducible rfl
  · intro w0 hS0
    refine (hasPort_any most b m x.id w0 hS0.2.1.out.mp HW.out).mono ?_
    rintro e w2 ⟨rfl, hb2⟩
    exact ⟨HA.out, laySPort_of (hS0.2.1.out.below hb2) (hS0.2.2.out.below hb2)⟩
  simp only [pt, sb, s0, s1]
  refine tm 5 (some 10) (v := ?_) rfl (by kernel_rfl) (fun _ _ _ h => h) (does_yield (by kernel_rfl) ?_) ?_
  rotate_left
  · intro w0 hS0
    obtain ⟨⟨q0, q1, q2, q3, q4, q5, q6, q7⟩, hH⟩ := hS0
    go_simp
    try with_reducible rfl
  simp only [pt, sb, s0, s1]
  refine tm 6 (some 11) (v := ?_) rfl (by kernel_rfl) (fun _ _ _ h => h) (does_yield (by kernel_rfl) ?_) ?_
  rotate_left
  · intro w0 hS0
    obtain ⟨⟨q0, q1, q2, q3, q4, q5, q6, q7⟩, hH⟩ := hS0
    go_simp
    try with_reducible rfl
  simp only [pt, sb, s0, s1]
  refine tm 7 (some 12) (v := ?_) rfl (by kernel_rfl) (fun _ _ _ h => h) (does_yield (by kernel_rfl) ?_) ?_
  rotate_left
  · intro w0 hS0
    obtain ⟨⟨q0, q1, q2, q3, q4, q5, q6, q7⟩, hH⟩ := hS0
    go_simp
    try with_reducible rfl
  simp only [pt, sb, s0, s1]
  refine tm 8 (some 13) (v := ?_) rfl (by kernel_rfl) (fun _ _ _ h => h) (does_yield (by kernel_rfl) ?_) ?_
  rotate_left
  · intro w0 hS0
    obtain ⟨⟨q0, q1, q2, q3, q4, q5, q6, q7⟩, hH⟩ := hS0
    go_simp
    try with_reducible rfl
  simp only [pt, sb, s0, s1]
  refine tm 9 (some 14) (v := ?_) rfl (by kernel_rfl) (fun _ _ _ h => h) (does_yield (by kernel_rfl) ?_) ?_
  rotate_left
  · intro w0 hS0
    obtain ⟨⟨q0, q1, q2, q3, q4, q5, q6, q7⟩, hH⟩ := hS0
    go_simp
    try with_reducible rfl
  simp only [pt, sb, s0, s1]
  refine tm 10 (some 15) (v := ?_) rfl (by kernel_rfl) (fun _ _ _ h => h) (does_yield (by kernel_rfl) ?_) ?_
  rotate_left
  · intro w0 hS0
    obtain ⟨⟨q0, q1, q2, q3, q4, q5, q6, q7⟩, hH⟩ := hS0
    go_simp
    try with_reducible rfl
  simp only [pt, sb, s0, s1]
  refine tm 11 (some 16) (v := ?_) rfl (by kernel_rfl) (fun _ _ _ h => h) (does_yield (by kernel_rfl) ?_) ?_
  rotate_left
  · intro w0 hS0
    obtain ⟨⟨q0, q1, q2, q3, q4, q5, q6, q7⟩, hH⟩ := hS0
    go_simp
    try with_reducible rfl
  simp only [pt, sb, s0, s1]
  refine tm 12 (some 17) (v := ?_) rfl (by kernel_rfl) (fun _ _ _ h => h) (does_yield (by kernel_rfl) ?_) ?_
  rotate_left
  · intro w0 hS0
    obtain ⟨⟨q0, q1, q2, q3, q4, q5, q6, q7⟩, hH⟩ := hS0
    go_simp
    try with_reducible rfl
  simp only [pt, sb, s0, s1]
  refine tm 13 (some 18) (v := ?_) rfl (by kernel_rfl) (fun _ _ _ h => h) (does_yield (by kernel_rfl) ?_) ?_
  rotate_left
  · intro w0 hS0
    obtain ⟨⟨q0, q1, q2, q3, q4, q5, q6, q7⟩, hH⟩ := hS0
    go_simp
    try with_reducible rfl
  simp only [pt, sb, s0, s1]
  refine tm 14 (some 19) (v := ?_) rfl (by kernel_rfl) (fun _ _ _ h => h) (does_yield (by kernel_rfl) ?_) ?_
  rotate_left
  · intro w0 hS0
    obtain ⟨⟨q0, q1, q2, q3, q4, q5, q6, q7⟩, hH⟩ := hS0
    go_simp
    try with_reducible rfl
  simp only [pt, sb, s0, s1]
  refine tm 15 (some 20) (v := ?_) rfl (by kernel_rfl) (fun _ _ _ h => h) (does_yield (by kernel_rfl) ?_) ?_
  rotate_left
  · intro w0 hS0
    obtain ⟨⟨q0, q1, q2, q3, q4, q5, q6, q7⟩, hH⟩ := hS0
    go_simp
    try with_reducible rfl
  simp only [pt, sb, s0, s1]
  refine tm 16 (some 21) (v := .int .i64 x.id) rfl (by kernel_rfl) (fun _ _ _ h => h) (does_call (f := 297) (args := #[.agg #[.int .i64 x.id, .bool x.out, .bool x.queue, .int .i64 x.max, .slice x.itemsA x.items.length x.itemsC]]) (by kernel_rfl) ?_ ?_) ?_
  · intro w0 hS0
    obtain ⟨⟨q0, q1, q2, q3, q4, q5, q6, q7⟩, hH⟩ := hS0
    go_simp
    try with_reducible rfl
  · intro w0 hS0
    refine (numberPort_any x w0).mono ?_
    rintro e w2 ⟨rfl, hb2⟩
    exact ⟨rfl, laySPort_of (hS0.2.1.out.below hb2) (hS0.2.2.out.below hb2)⟩
  simp only [pt, sb, s0, s1]
  refine tm 17 (some 22) (v := .bool false) rfl (by kernel_rfl) (fun _ _ _ h => h) (does_call (f := 164) (args := #[.int .i64 x.id]) (by kernel_rfl) ?_ ?_) ?_
  · intro w0 hS0
    obtain ⟨⟨q0, q1, q2, q3, q4, q5, q6, q7⟩, hH⟩ := hS0
    go_simp
    try with_reducible rfl
  · intro w0 hS0
    refine (isNumber_any x.id w0).mono ?_
    rintro e w2 ⟨rfl, rfl⟩
    exact ⟨HC.out, hS0⟩
  simp only [pt, sb, s0, s1]
  refine tm 18 (some 23) (v := ?_) rfl (by kernel_rfl) (fun _ _ _ h => h) (does_yield (by kernel_rfl) ?_) ?_
  rotate_left
  · intro w0 hS0
    obtain ⟨⟨q0, q1, q2, q3, q4, q5, q6, q7⟩, hH⟩ := hS0
    go_simp
    try with_reducible rfl
  simp only [pt, sb, s0, s1]
  refine tm 19 (some 24) (v := ?_) rfl (by kernel_rfl) (fun _ _ _ h => h) (does_yield (by kernel_rfl) ?_) ?_
  rotate_left
  · intro w0 hS0
    obtain ⟨⟨q0, q1, q2, q3, q4, q5, q6, q7⟩, hH⟩ := hS0
    go_simp
    try with_reducible rfl
  simp only [pt, sb, s0, s1]
  refine tm 20 (some 25) (v := ?_) rfl (by kernel_rfl) (fun _ _ _ h => h) (does_yield (by kernel_rfl) ?_) ?_
  rotate_left
  · intro w0 hS0
    obtain ⟨⟨q0, q1, q2, q3, q4, q5, q6, q7⟩, hH⟩ := hS0
    go_simp
    try with_reducible rfl
  simp only [pt, sb, s0, s1]
  refine tm 21 (some 26) rfl (by kernel_rfl) (fun _ _ _ h => h) (does_skip (by kernel_rfl)) ?_
  simp only [pt, sb, s0, s1]
  refine tm 22 (some 27) rfl (by kernel_rfl) (fun _ _ _ h => h) (does_skip (by kernel_rfl)) ?_
  simp only [pt, sb, s0, s1]
  refine tm 23 (some 28) rfl (by kernel_rfl) (fun _ _ _ h => h) (does_skip (by kernel_rfl)) ?_
  simp only [pt, sb, s0, s1]
  refine tm 24 (some 29) rfl (by kernel_rfl) (fun _ _ _ h => h) (does_skip (by kernel_rfl)) ?_
  simp only [pt, sb, s0, s1]
  refine tm 25 (some 30) (v := ?_) rfl (by kernel_rfl) (fun _ _ _ h => h) (does_yield (by kernel_rfl) ?_) ?_
  rotate_left
  · intro w0 hS0
    obtain ⟨⟨q0, q1, q2, q3, q4, q5, q6, q7⟩, hH⟩ := hS0
    go_simp
    try with_reducible rfl
  simp only [pt, sb, s0, s1]
  refine tame_done (by kernel_rfl) ?_ _
  intro w1 hS1
  go_wp2
  go_ret
  exact layEnds_no HN.out hS1.2.1.out.bel

set_option maxRecDepth 100000 in
set_option maxHeartbeats 4000000 in
theorem layPort_no4 (most : Int) (b : Nat) (m : MapL) (x : PortD) (w : World) (h : MapIs w b m) (hw : (Lit.int .i64 x.id).wf = true) (_hm : m.length ≤ 1048576) (hf : PortFit w x) (hA : (lookM m x.id).isSome = false) (hB : ¬ most ≤ (m.length : Int)) (hC : inB x.id 1 1000 = true) (hD : portB x.toPortP = false) :
    Calls Tryz.prog 94 #[.agg #[.int .i64 most, .map (some b)], .agg (portVs x)] w fun e w' => LayEnds w b m (layB most m x.id (portB x.toPortP)) x.id (portVs x) 61 e w' := by
  have HF : Hid (LayIn w ((w.alloc (.cells #[.int .i64 most, .map (some b)] 125)).alloc (.cells (portVs x) 61)) w.heap.size (w.heap.size + 1) b m most (portVs x) 61 125) := LayIn.start w h most _ _ _
  have HN : Hid (layB most m x.id (portB x.toPortP) = false) := by show layB most m x.id (portB x.toPortP) = false; simp [layB, hD]
  have HA : Hid (Ending.returned (.bool (lookM m x.id).isSome) = .returned (.bool false)) := ret_bool hA
  have HC : Hid (Ending.returned (.bool (inB x.id 1 1000)) = .returned (.bool true)) := ret_bool hC
  have HD : Hid (Ending.returned (.bool (portB x.toPortP)) = .returned (.bool false)) := ret_bool hD
  have hBd : decide (most ≤ (m.length : Int)) = false := decide_eq_false hB
  have HW : Hid ((Lit.int .i64 x.id).wf = true) := hw
  have HI : Hid (PortFit ((w.alloc (.cells #[.int .i64 most, .map (some b)] 125)).alloc (.cells (portVs x) 61)) x) := hf.below ((((Below.refl _ w).alloc (Nat.le_refl _) _)).alloc (by simp) _)
  have hmn := meth_numberPort
  have hmr := meth_rightPort
  obtain ⟨s0, s1⟩ := HF.out.cells
  obtain ⟨c0, c1, c2, c3, c4⟩ := port_cells HF.out.bx
  clear h hw hf hA hC hD hB
  unfold portVs at *
  go_enter Tryz.func94, Tryz.ntmps94
  go_wp2_with fail
  clear s0 s1 c0 c1 c2 c3 c4
  refine tame_region (LaySPort w b m most x) (by kernel_rfl) (laySPort_of HF.out.drew (HI.out.below (Below.refl _ _).drew)) ?_
  refine tm 0 (some 5) (v := ?_) rfl (by kernel_rfl) (fun _ _ _ h => h) (does_yield (by kernel_rfl) ?_) ?_
  rotate_left
  · intro w0 hS0
    obtain ⟨⟨q0, q1, q2, q3, q4, q5, q6, q7⟩, hH⟩ := hS0
    go_simp
    try with_reducible rfl
  simp only [pt, sb, s0, s1]
  refine tm 1 (some 6) (v := ?_) rfl (by kernel_rfl) (fun _ _ _ h => h) (does_yield (by kernel_rfl) ?_) ?_
  rotate_left
  · intro w0 hS0
    obtain ⟨⟨q0, q1, q2, q3, q4, q5, q6, q7⟩, hH⟩ := hS0
    go_simp
    try with_reducible rfl
  simp only [pt, sb, s0, s1]
  refine tm 2 (some 7) (v := ?_) rfl (by kernel_rfl) (fun _ _ _ h => h) (does_yield (by kernel_rfl) ?_) ?_
  rotate_left
  · intro w0 hS0
    obtain ⟨⟨q0, q1, q2, q3, q4, q5, q6, q7⟩, hH⟩ := hS0
    go_simp
    try with_reducible rfl
  simp only [pt, sb, s0, s1]
  refine tm 3 (some 8) (v := .int .i64 x.id) rfl (by kernel_rfl) (fun _ _ _ h => h) (does_call (f := 297) (args := #[.agg #[.int .i64 x.id, .bool x.out, .bool x.queue, .int .i64 x.max, .slice x.itemsA x.items.length x.itemsC]]) (by kernel_rfl) ?_ ?_) ?_
  · intro w0 hS0
    obtain ⟨⟨q0, q1, q2, q3, q4, q5, q6, q7⟩, hH⟩ := hS0
    go_simp
    try with_reducible rfl
  · intro w0 hS0
    refine (numberPort_any x w0).mono ?_
    rintro e w2 ⟨rfl, hb2⟩
    exact ⟨rfl, laySPort_of (hS0.2.1.out.below hb2) (hS0.2.2.out.below hb2)⟩
  simp only [pt, sb, s0, s1]
  refine tm 4 (some 9) (v := .bool false) rfl (by kernel_rfl) (fun _ _ _ h => h) (does_call (f := 179) (args := #[.agg #[.int .i64 most, .map (some b)], .int .i64 x.id]) (by kernel_rfl) ?_ ?_) ?_
  · intro w0 hS0
    obtain ⟨⟨q0, q1, q2, q3, q4, q5, q6, q7⟩, hH⟩ := hS0
    go_simp
    try with_reducible rfl
  · intro w0 hS0
    refine (hasPort_any most b m x.id w0 hS0.2.1.out.mp HW.out).mono ?_
    rintro e w2 ⟨rfl, hb2⟩
    exact ⟨HA.out, laySPort_of (hS0.2.1.out.below hb2) (hS0.2.2.out.below hb2)⟩
  simp only [pt, sb, s0, s1]
  refine tm 5 (some 10) (v := ?_) rfl (by kernel_rfl) (fun _ _ _ h => h) (does_yield (by kernel_rfl) ?_) ?_
  rotate_left
  · intro w0 hS0
    obtain ⟨⟨q0, q1, q2, q3, q4, q5, q6, q7⟩, hH⟩ := hS0
    go_simp
    try with_reducible rfl
  simp only [pt, sb, s0, s1]
  refine tm 6 (some 11) (v := ?_) rfl (by kernel_rfl) (fun _ _ _ h => h) (does_yield (by kernel_rfl) ?_) ?_
  rotate_left
  · intro w0 hS0
    obtain ⟨⟨q0, q1, q2, q3, q4, q5, q6, q7⟩, hH⟩ := hS0
    go_simp
    try with_reducible rfl
  simp only [pt, sb, s0, s1]
  refine tm 7 (some 12) (v := ?_) rfl (by kernel_rfl) (fun _ _ _ h => h) (does_yield (by kernel_rfl) ?_) ?_
  rotate_left
  · intro w0 hS0
    obtain ⟨⟨q0, q1, q2, q3, q4, q5, q6, q7⟩, hH⟩ := hS0
    go_simp
    try with_reducible rfl
  simp only [pt, sb, s0, s1]
  refine tm 8 (some 13) (v := ?_) rfl (by kernel_rfl) (fun _ _ _ h => h) (does_yield (by kernel_rfl) ?_) ?_
  rotate_left
  · intro w0 hS0
    obtain ⟨⟨q0, q1, q2, q3, q4, q5, q6, q7⟩, hH⟩ := hS0
    go_simp
    try with_reducible rfl
  simp only [pt, sb, s0, s1]
  refine tm 9 (some 14) (v := ?_) rfl (by kernel_rfl) (fun _ _ _ h => h) (does_yield (by kernel_rfl) ?_) ?_
  rotate_left
  · intro w0 hS0
    obtain ⟨⟨q0, q1, q2, q3, q4, q5, q6, q7⟩, hH⟩ := hS0
    go_simp
    try with_reducible rfl
  simp only [pt, sb, s0, s1]
  refine tm 10 (some 15) (v := ?_) rfl (by kernel_rfl) (fun _ _ _ h => h) (does_yield (by kernel_rfl) ?_) ?_
  rotate_left
  · intro w0 hS0
    obtain ⟨⟨q0, q1, q2, q3, q4, q5, q6, q7⟩, hH⟩ := hS0
    go_simp
    try with_reducible rfl
  simp only [pt, sb, s0, s1]
  refine tm 11 (some 16) (v := ?_) rfl (by kernel_rfl) (fun _ _ _ h => h) (does_yield (by kernel_rfl) ?_) ?_
  rotate_left
  · intro w0 hS0
    obtain ⟨⟨q0, q1, q2, q3, q4, q5, q6, q7⟩, hH⟩ := hS0
    go_simp
    try with_reducible rfl
  simp only [pt, sb, s0, s1]
  refine tm 12 (some 17) (v := ?_) rfl (by kernel_rfl) (fun _ _ _ h => h) (does_yield (by kernel_rfl) ?_) ?_
  rotate_left
  · intro w0 hS0
    obtain ⟨⟨q0, q1, q2, q3, q4, q5, q6, q7⟩, hH⟩ := hS0
    go_simp
    try with_reducible rfl
  simp only [pt, sb, s0, s1]
  refine tm 13 (some 18) (v := ?_) rfl (by kernel_rfl) (fun _ _ _ h => h) (does_yield (by kernel_rfl) ?_) ?_
  rotate_left
  · intro w0 hS0
    obtain ⟨⟨q0, q1, q2, q3, q4, q5, q6, q7⟩, hH⟩ := hS0
    go_simp
    try with_reducible rfl
  simp only [pt, sb, s0, s1]
  refine tm 14 (some 19) (v := ?_) rfl (by kernel_rfl) (fun _ _ _ h => h) (does_yield (by kernel_rfl) ?_) ?_
  rotate_left
  · intro w0 hS0
    obtain ⟨⟨q0, q1, q2, q3, q4, q5, q6, q7⟩, hH⟩ := hS0
    go_simp
    try with_reducible rfl
  simp only [pt, sb, s0, s1]
  refine tm 15 (some 20) (v := ?_) rfl (by kernel_rfl) (fun _ _ _ h => h) (does_yield (by kernel_rfl) ?_) ?_
  rotate_left
  · intro w0 hS0
    obtain ⟨⟨q0, q1, q2, q3, q4, q5, q6, q7⟩, hH⟩ := hS0
    go_simp
    try with_reducible rfl
  simp only [pt, sb, s0, s1]
  refine tm 16 (some 21) (v := .int .i64 x.id) rfl (by kernel_rfl) (fun _ _ _ h => h) (does_call (f := 297) (args := #[.agg #[.int .i64 x.id, .bool x.out, .bool x.queue, .int .i64 x.max, .slice x.itemsA x.items.length x.itemsC]]) (by kernel_rfl) ?_ ?_) ?_
  · intro w0 hS0
    obtain ⟨⟨q0, q1, q2, q3, q4, q5, q6, q7⟩, hH⟩ := hS0
    go_simp
    try with_reducible rfl
  · intro w0 hS0
    refine (numberPort_any x w0).mono ?_
    rintro e w2 ⟨rfl, hb2⟩
    exact ⟨rfl, laySPort_of (hS0.2.1.out.below hb2) (hS0.2.2.out.below hb2)⟩
  simp only [pt, sb, s0, s1]
  refine tm 17 (some 22) (v := .bool true) rfl (by kernel_rfl) (fun _ _ _ h => h) (does_call (f := 164) (args := #[.int .i64 x.id]) (by kernel_rfl) ?_ ?_) ?_
  · intro w0 hS0
    obtain ⟨⟨q0, q1, q2, q3, q4, q5, q6, q7⟩, hH⟩ := hS0
    go_simp
    try with_reducible rfl
  · intro w0 hS0
    refine (isNumber_any x.id w0).mono ?_
    rintro e w2 ⟨rfl, rfl⟩
    exact ⟨HC.out, hS0⟩
  simp only [pt, sb, s0, s1]
  refine tm 18 (some 23) (v := ?_) rfl (by kernel_rfl) (fun _ _ _ h => h) (does_yield (by kernel_rfl) ?_) ?_
  rotate_left
  · intro w0 hS0
    obtain ⟨⟨q0, q1, q2, q3, q4, q5, q6, q7⟩, hH⟩ := hS0
    go_simp
    try with_reducible rfl
  simp only [pt, sb, s0, s1]
  refine tm 19 (some 24) (v := ?_) rfl (by kernel_rfl) (fun _ _ _ h => h) (does_yield (by kernel_rfl) ?_) ?_
  rotate_left
  · intro w0 hS0
    obtain ⟨⟨q0, q1, q2, q3, q4, q5, q6, q7⟩, hH⟩ := hS0
    go_simp
    try with_reducible rfl
  simp only [pt, sb, s0, s1]
  refine tm 20 (some 25) (v := ?_) rfl (by kernel_rfl) (fun _ _ _ h => h) (does_yield (by kernel_rfl) ?_) ?_
  rotate_left
  · intro w0 hS0
    obtain ⟨⟨q0, q1, q2, q3, q4, q5, q6, q7⟩, hH⟩ := hS0
    go_simp
    try with_reducible rfl
  simp only [pt, sb, s0, s1]
  refine tm 21 (some 26) (v := ?_) rfl (by kernel_rfl) (fun _ _ _ h => h) (does_yield (by kernel_rfl) ?_) ?_
  rotate_left
  · intro w0 hS0
    obtain ⟨⟨q0, q1, q2, q3, q4, q5, q6, q7⟩, hH⟩ := hS0
    go_simp
    try with_reducible rfl
  simp only [pt, sb, s0, s1]
  refine tm 22 (some 27) (v := ?_) rfl (by kernel_rfl) (fun _ _ _ h => h) (does_yield (by kernel_rfl) ?_) ?_
  rotate_left
  · intro w0 hS0
    obtain ⟨⟨q0, q1, q2, q3, q4, q5, q6, q7⟩, hH⟩ := hS0
    go_simp
    try with_reducible rfl
  simp only [pt, sb, s0, s1]
  refine tm 23 (some 28) (v := .bool false) rfl (by kernel_rfl) (fun _ _ _ h => h) (does_call (f := 298) (args := #[.agg #[.int .i64 x.id, .bool x.out, .bool x.queue, .int .i64 x.max, .slice x.itemsA x.items.length x.itemsC]]) (by kernel_rfl) ?_ ?_) ?_
  · intro w0 hS0
    obtain ⟨⟨q0, q1, q2, q3, q4, q5, q6, q7⟩, hH⟩ := hS0
    go_simp
    try with_reducible rfl
  · intro w0 hS0
    refine (rightPort_any x w0 hS0.2.2.out).mono ?_
    rintro e w2 ⟨rfl, hb2⟩
    exact ⟨HD.out, laySPort_of (hS0.2.1.out.below hb2) (hS0.2.2.out.below hb2)⟩
  simp only [pt, sb, s0, s1]
  refine tm 24 (some 29) (v := ?_) rfl (by kernel_rfl) (fun _ _ _ h => h) (does_yield (by kernel_rfl) ?_) ?_
  rotate_left
  · intro w0 hS0
    obtain ⟨⟨q0, q1, q2, q3, q4, q5, q6, q7⟩, hH⟩ := hS0
    go_simp
    try with_reducible rfl
  simp only [pt, sb, s0, s1]
  refine tm 25 (some 30) (v := ?_) rfl (by kernel_rfl) (fun _ _ _ h => h) (does_yield (by kernel_rfl) ?_) ?_
  rotate_left
  · intro w0 hS0
    obtain ⟨⟨q0, q1, q2, q3, q4, q5, q6, q7⟩, hH⟩ := hS0
    go_simp
    try with_reducible rfl
  simp only [pt, sb, s0, s1]
  refine tame_done (by kernel_rfl) ?_ _
  intro w1 hS1
  go_wp2
  go_ret
  exact layEnds_no HN.out hS1.2.1.out.bel

set_option maxRecDepth 100000 in
set_option maxHeartbeats 4000000 in
theorem layPort_yes (most : Int) (b : Nat) (m : MapL) (x : PortD) (w : World) (h : MapIs w b m) (hw : (Lit.int .i64 x.id).wf = true) (hm : m.length ≤ 1048576) (hf : PortFit w x) (hA : (lookM m x.id).isSome = false) (hB : ¬ most ≤ (m.length : Int)) (hC : inB x.id 1 1000 = true) (hD : portB x.toPortP = true) :
    Calls Tryz.prog 94 #[.agg #[.int .i64 most, .map (some b)], .agg (portVs x)] w fun e w' => LayEnds w b m (layB most m x.id (portB x.toPortP)) x.id (portVs x) 61 e w' := by
  have HF : Hid (LayIn w ((w.alloc (.cells #[.int .i64 most, .map (some b)] 125)).alloc (.cells (portVs x) 61)) w.heap.size (w.heap.size + 1) b m most (portVs x) 61 125) := LayIn.start w h most _ _ _
  have HN : Hid (layB most m x.id (portB x.toPortP) = true) := by show layB most m x.id (portB x.toPortP) = true; simp [layB, hA, hC, hD]; omega
  have HA : Hid (Ending.returned (.bool (lookM m x.id).isSome) = .returned (.bool false)) := ret_bool hA
  have HC : Hid (Ending.returned (.bool (inB x.id 1 1000)) = .returned (.bool true)) := ret_bool hC
  have HD : Hid (Ending.returned (.bool (portB x.toPortP)) = .returned (.bool true)) := ret_bool hD
  have HL : Hid (lookM m x.id = none ∧ ¬ w.heap.size + 1 = b ∧ m.length ≤ 1048576) := ⟨Option.isSome_eq_false_iff.1 hA |> Option.isNone_iff_eq_none.1, by have := h.lt; omega, hm⟩
  have hBd : decide (most ≤ (m.length : Int)) = false := decide_eq_false hB
  have HW : Hid ((Lit.int .i64 x.id).wf = true) := hw
  have HI : Hid (PortFit ((w.alloc (.cells #[.int .i64 most, .map (some b)] 125)).alloc (.cells (portVs x) 61)) x) := hf.below ((((Below.refl _ w).alloc (Nat.le_refl _) _)).alloc (by simp) _)
  have hmn := meth_numberPort
  have hmr := meth_rightPort
  obtain ⟨s0, s1⟩ := HF.out.cells
  obtain ⟨c0, c1, c2, c3, c4⟩ := port_cells HF.out.bx
  clear h hw hf hA hC hD hB
  unfold portVs at *
  go_enter Tryz.func94, Tryz.ntmps94
  go_wp2_with fail
  clear s0 s1 c0 c1 c2 c3 c4
  refine tame_region (LaySPort w b m most x) (by kernel_rfl) (laySPort_of HF.out.drew (HI.out.below (Below.refl _ _).drew)) ?_
  refine tm 0 (some 5) (v := ?_) rfl (by kernel_rfl) (fun _ _ _ h => h) (does_yield (by kernel_rfl) ?_) ?_
  rotate_left
  · intro w0 hS0
    obtain ⟨⟨q0, q1, q2, q3, q4, q5, q6, q7⟩, hH⟩ := hS0
    go_simp
    try with_reducible rfl
  simp only [pt, sb, s0, s1]
  refine tm 1 (some 6) (v := ?_) rfl (by kernel_rfl) (fun _ _ _ h => h) (does_yield (by kernel_rfl) ?_) ?_
  rotate_left
  · intro w0 hS0
    obtain ⟨⟨q0, q1, q2, q3, q4, q5, q6, q7⟩, hH⟩ := hS0
    go_simp
    try with_reducible rfl
  simp only [pt, sb, s0, s1]
  refine tm 2 (some 7) (v := ?_) rfl (by kernel_rfl) (fun _ _ _ h => h) (does_yield (by kernel_rfl) ?_) ?_
  rotate_left
  · intro w0 hS0
    obtain ⟨⟨q0, q1, q2, q3, q4, q5, q6, q7⟩, hH⟩ := hS0
    go_simp
    try with_reducible rfl
  simp only [pt, sb, s0, s1]
  refine tm 3 (some 8) (v := .int .i64 x.id) rfl (by kernel_rfl) (fun _ _ _ h => h) (does_call (f := 297) (args := #[.agg #[.int .i64 x.id, .bool x.out, .bool x.queue, .int .i64 x.max, .slice x.itemsA x.items.length x.itemsC]]) (by kernel_rfl) ?_ ?_) ?_
  · intro w0 hS0
    obtain ⟨⟨q0, q1, q2, q3, q4, q5, q6, q7⟩, hH⟩ := hS0
    go_simp
    try with_reducible rfl
  · intro w0 hS0
    refine (numberPort_any x w0).mono ?_
    rintro e w2 ⟨rfl, hb2⟩
    exact ⟨rfl, laySPort_of (hS0.2.1.out.below hb2) (hS0.2.2.out.below hb2)⟩
  simp only [pt, sb, s0, s1]
  refine tm 4 (some 9) (v := .bool false) rfl (by kernel_rfl) (fun _ _ _ h => h) (does_call (f := 179) (args := #[.agg #[.int .i64 most, .map (some b)], .int .i64 x.id]) (by kernel_rfl) ?_ ?_) ?_
  · intro w0 hS0
    obtain ⟨⟨q0, q1, q2, q3, q4, q5, q6, q7⟩, hH⟩ := hS0
    go_simp
    try with_reducible rfl
  · intro w0 hS0
    refine (hasPort_any most b m x.id w0 hS0.2.1.out.mp HW.out).mono ?_
    rintro e w2 ⟨rfl, hb2⟩
    exact ⟨HA.out, laySPort_of (hS0.2.1.out.below hb2) (hS0.2.2.out.below hb2)⟩
  simp only [pt, sb, s0, s1]
  refine tm 5 (some 10) (v := ?_) rfl (by kernel_rfl) (fun _ _ _ h => h) (does_yield (by kernel_rfl) ?_) ?_
  rotate_left
  · intro w0 hS0
    obtain ⟨⟨q0, q1, q2, q3, q4, q5, q6, q7⟩, hH⟩ := hS0
    go_simp
    try with_reducible rfl
  simp only [pt, sb, s0, s1]
  refine tm 6 (some 11) (v := ?_) rfl (by kernel_rfl) (fun _ _ _ h => h) (does_yield (by kernel_rfl) ?_) ?_
  rotate_left
  · intro w0 hS0
    obtain ⟨⟨q0, q1, q2, q3, q4, q5, q6, q7⟩, hH⟩ := hS0
    go_simp
    try with_reducible rfl
  simp only [pt, sb, s0, s1]
  refine tm 7 (some 12) (v := ?_) rfl (by kernel_rfl) (fun _ _ _ h => h) (does_yield (by kernel_rfl) ?_) ?_
  rotate_left
  · intro w0 hS0
    obtain ⟨⟨q0, q1, q2, q3, q4, q5, q6, q7⟩, hH⟩ := hS0
    go_simp
    try with_reducible rfl
  simp only [pt, sb, s0, s1]
  refine tm 8 (some 13) (v := ?_) rfl (by kernel_rfl) (fun _ _ _ h => h) (does_yield (by kernel_rfl) ?_) ?_
  rotate_left
  · intro w0 hS0
    obtain ⟨⟨q0, q1, q2, q3, q4, q5, q6, q7⟩, hH⟩ := hS0
    go_simp
    try with_reducible rfl
  simp only [pt, sb, s0, s1]
  refine tm 9 (some 14) (v := ?_) rfl (by kernel_rfl) (fun _ _ _ h => h) (does_yield (by kernel_rfl) ?_) ?_
  rotate_left
  · intro w0 hS0
    obtain ⟨⟨q0, q1, q2, q3, q4, q5, q6, q7⟩, hH⟩ := hS0
    go_simp
    try with_reducible rfl
  simp only [pt, sb, s0, s1]
  refine tm 10 (some 15) (v := ?_) rfl (by kernel_rfl) (fun _ _ _ h => h) (does_yield (by kernel_rfl) ?_) ?_
  rotate_left
  · intro w0 hS0
    obtain ⟨⟨q0, q1, q2, q3, q4, q5, q6, q7⟩, hH⟩ := hS0
    go_simp
    try with_reducible rfl
  simp only [pt, sb, s0, s1]
  refine tm 11 (some 16) (v := ?_) rfl (by kernel_rfl) (fun _ _ _ h => h) (does_yield (by kernel_rfl) ?_) ?_
  rotate_left
  · intro w0 hS0
    obtain ⟨⟨q0, q1, q2, q3, q4, q5, q6, q7⟩, hH⟩ := hS0
    go_simp
    try with_reducible rfl
  simp only [pt, sb, s0, s1]
  refine tm 12 (some 17) (v := ?_) rfl (by kernel_rfl) (fun _ _ _ h => h) (does_yield (by kernel_rfl) ?_) ?_
  rotate_left
  · intro w0 hS0
    obtain ⟨⟨q0, q1, q2, q3, q4, q5, q6, q7⟩, hH⟩ := hS0
    go_simp
    try with_reducible rfl
  simp only [pt, sb, s0, s1]
  refine tm 13 (some 18) (v := ?_) rfl (by kernel_rfl) (fun _ _ _ h => h) (does_yield (by kernel_rfl) ?_) ?_
  rotate_left
  · intro w0 hS0
    obtain ⟨⟨q0, q1, q2, q3, q4, q5, q6, q7⟩, hH⟩ := hS0
    go_simp
    try with_reducible rfl
  simp only [pt, sb, s0, s1]
  refine tm 14 (some 19) (v := ?_) rfl (by kernel_rfl) (fun _ _ _ h => h) (does_yield (by kernel_rfl) ?_) ?_
  rotate_left
  · intro w0 hS0
    obtain ⟨⟨q0, q1, q2, q3, q4, q5, q6, q7⟩, hH⟩ := hS0
    go_simp
    try with_reducible rfl
  simp only [pt, sb, s0, s1]
  refine tm 15 (some 20) (v := ?_) rfl (by kernel_rfl) (fun _ _ _ h => h) (does_yield (by kernel_rfl) ?_) ?_
  rotate_left
  · intro w0 hS0
    obtain ⟨⟨q0, q1, q2, q3, q4, q5, q6, q7⟩, hH⟩ := hS0
    go_simp
    try with_reducible rfl
  simp only [pt, sb, s0, s1]
  refine tm 16 (some 21) (v := .int .i64 x.id) rfl (by kernel_rfl) (fun _ _ _ h => h) (does_call (f := 297) (args := #[.agg #[.int .i64 x.id, .bool x.out, .bool x.queue, .int .i64 x.max, .slice x.itemsA x.items.length x.itemsC]]) (by kernel_rfl) ?_ ?_) ?_
  · intro w0 hS0
    obtain ⟨⟨q0, q1, q2, q3, q4, q5, q6, q7⟩, hH⟩ := hS0
    go_simp
    try with_reducible rfl
  · intro w0 hS0
    refine (numberPort_any x w0).mono ?_
    rintro e w2 ⟨rfl, hb2⟩
    exact ⟨rfl, laySPort_of (hS0.2.1.out.below hb2) (hS0.2.2.out.below hb2)⟩
  simp only [pt, sb, s0, s1]
  refine tm 17 (some 22) (v := .bool true) rfl (by kernel_rfl) (fun _ _ _ h => h) (does_call (f := 164) (args := #[.int .i64 x.id]) (by kernel_rfl) ?_ ?_) ?_
  · intro w0 hS0
    obtain ⟨⟨q0, q1, q2, q3, q4, q5, q6, q7⟩, hH⟩ := hS0
    go_simp
    try with_reducible rfl
  · intro w0 hS0
    refine (isNumber_any x.id w0).mono ?_
    rintro e w2 ⟨rfl, rfl⟩
    exact ⟨HC.out, hS0⟩
  simp only [pt, sb, s0, s1]
  refine tm 18 (some 23) (v := ?_) rfl (by kernel_rfl) (fun _ _ _ h => h) (does_yield (by kernel_rfl) ?_) ?_
  rotate_left
  · intro w0 hS0
    obtain ⟨⟨q0, q1, q2, q3, q4, q5, q6, q7⟩, hH⟩ := hS0
    go_simp
    try with_reducible rfl
  simp only [pt, sb, s0, s1]
  refine tm 19 (some 24) (v := ?_) rfl (by kernel_rfl) (fun _ _ _ h => h) (does_yield (by kernel_rfl) ?_) ?_
  rotate_left
  · intro w0 hS0
    obtain ⟨⟨q0, q1, q2, q3, q4, q5, q6, q7⟩, hH⟩ := hS0
    go_simp
    try with_reducible rfl
  simp only [pt, sb, s0, s1]
  refine tm 20 (some 25) (v := ?_) rfl (by kernel_rfl) (fun _ _ _ h => h) (does_yield (by kernel_rfl) ?_) ?_
  rotate_left
  · intro w0 hS0
    obtain ⟨⟨q0, q1, q2, q3, q4, q5, q6, q7⟩, hH⟩ := hS0
    go_simp
    try with_reducible rfl
  simp only [pt, sb, s0, s1]
  refine tm 21 (some 26) (v := ?_) rfl (by kernel_rfl) (fun _ _ _ h => h) (does_yield (by kernel_rfl) ?_) ?_
  rotate_left
  · intro w0 hS0
    obtain ⟨⟨q0, q1, q2, q3, q4, q5, q6, q7⟩, hH⟩ := hS0
    go_simp
    try with_reducible rfl
  simp only [pt, sb, s0, s1]
  refine tm 22 (some 27) (v := ?_) rfl (by kernel_rfl) (fun _ _ _ h => h) (does_yield (by kernel_rfl) ?_) ?_
  rotate_left
  · intro w0 hS0
    obtain ⟨⟨q0, q1, q2, q3, q4, q5, q6, q7⟩, hH⟩ := hS0
    go_simp
    try with_reducible rfl
  simp only [pt, sb, s0, s1]
  refine tm 23 (some 28) (v := .bool true) rfl (by kernel_rfl) (fun _ _ _ h => h) (does_call (f := 298) (args := #[.agg #[.int .i64 x.id, .bool x.out, .bool x.queue, .int .i64 x.max, .slice x.itemsA x.items.length x.itemsC]]) (by kernel_rfl) ?_ ?_) ?_
  · intro w0 hS0
    obtain ⟨⟨q0, q1, q2, q3, q4, q5, q6, q7⟩, hH⟩ := hS0
    go_simp
    try with_reducible rfl
  · intro w0 hS0
    refine (rightPort_any x w0 hS0.2.2.out).mono ?_
    rintro e w2 ⟨rfl, hb2⟩
    exact ⟨HD.out, laySPort_of (hS0.2.1.out.below hb2) (hS0.2.2.out.below hb2)⟩
  simp only [pt, sb, s0, s1]
  refine tm 24 (some 29) (v := ?_) rfl (by kernel_rfl) (fun _ _ _ h => h) (does_yield (by kernel_rfl) ?_) ?_
  rotate_left
  · intro w0 hS0
    obtain ⟨⟨q0, q1, q2, q3, q4, q5, q6, q7⟩, hH⟩ := hS0
    go_simp
    try with_reducible rfl
  simp only [pt, sb, s0, s1]
  refine tm 25 (some 30) (v := ?_) rfl (by kernel_rfl) (fun _ _ _ h => h) (does_yield (by kernel_rfl) ?_) ?_
  rotate_left
  · intro w0 hS0
    obtain ⟨⟨q0, q1, q2, q3, q4, q5, q6, q7⟩, hH⟩ := hS0
    go_simp
    try with_reducible rfl
  simp only [pt, sb, s0, s1]
  refine tame_done (by kernel_rfl) ?_ _
  intro w1 hS1
  go_wp2_with fail
  refine last_region (LaySPort w b m most x) 5 (by kernel_rfl) (laySPort_of hS1.2.1.out.drew (hS1.2.2.out.below (Below.refl _ _).drew)) ?_
  refine ls 0 6 (some 31) (v := ?_) rfl (by kernel_rfl) (fun _ _ _ h => h) (does_yield (by kernel_rfl) ?_) ?_
  rotate_left
  · intro w0 hS0
    obtain ⟨⟨q0, q1, q2, q3, q4, q5, q6, q7⟩, hH⟩ := hS0
    go_simp
    try with_reducible rfl
  simp only [pt, sb, s0, s1]
  refine ls 1 6 (some 32) (v := ?_) rfl (by kernel_rfl) (fun _ _ _ h => h) (does_yield (by kernel_rfl) ?_) ?_
  rotate_left
  · intro w0 hS0
    obtain ⟨⟨q0, q1, q2, q3, q4, q5, q6, q7⟩, hH⟩ := hS0
    go_simp
    try with_reducible rfl
  simp only [pt, sb, s0, s1]
  refine ls 2 6 (some 33) (v := ?_) rfl (by kernel_rfl) (fun _ _ _ h => h) (does_yield (by kernel_rfl) ?_) ?_
  rotate_left
  · intro w0 hS0
    obtain ⟨⟨q0, q1, q2, q3, q4, q5, q6, q7⟩, hH⟩ := hS0
    go_simp
    try with_reducible rfl
  simp only [pt, sb, s0, s1]
  refine ls 3 6 (some 34) (v := ?_) rfl (by kernel_rfl) (fun _ _ _ h => h) (does_yield (by kernel_rfl) ?_) ?_
  rotate_left
  · intro w0 hS0
    obtain ⟨⟨q0, q1, q2, q3, q4, q5, q6, q7⟩, hH⟩ := hS0
    go_simp
    try with_reducible rfl
  simp only [pt, sb, s0, s1]
  refine ls 4 6 (some 35) (v := .int .i64 x.id) rfl (by kernel_rfl) (fun _ _ _ h => h) (does_call (f := 297) (args := #[.agg #[.int .i64 x.id, .bool x.out, .bool x.queue, .int .i64 x.max, .slice x.itemsA x.items.length x.itemsC]]) (by kernel_rfl) ?_ ?_) ?_
  · intro w0 hS0
    obtain ⟨⟨q0, q1, q2, q3, q4, q5, q6, q7⟩, hH⟩ := hS0
    go_simp
    try with_reducible rfl
  · intro w0 hS0
    refine (numberPort_any x w0).mono ?_
    rintro e w2 ⟨rfl, hb2⟩
    exact ⟨rfl, laySPort_of (hS0.2.1.out.below hb2) (hS0.2.2.out.below hb2)⟩
  simp only [pt, sb, s0, s1]
  refine last_done rfl (by kernel_rfl) (by kernel_rfl) (by kernel_rfl) ?_
  intro w1 hS1
  obtain ⟨w2, hput, hend⟩ := hS1.2.1.out.put (by omega) Tryz.underlying123 HW.out HL.out.1 HL.out.2.2 HL.out.2.1
  have HE : Hid (LayEnds w b m true x.id (portVs x) 61 (.returned (.bool true)) w2) := hend
  clear hend hS1
  go_simp
  go_wp2
  go_ret
  rw [HN.out]
  exact HE.out

theorem layPort_any (most : Int) (b : Nat) (m : MapL) (x : PortD) (w : World) (h : MapIs w b m) (hw : (Lit.int .i64 x.id).wf = true) (hm : m.length ≤ 1048576) (hf : PortFit w x) :
    Calls Tryz.prog 94 #[.agg #[.int .i64 most, .map (some b)], .agg (portVs x)] w fun e w' => LayEnds w b m (layB most m x.id (portB x.toPortP)) x.id (portVs x) 61 e w' := by
  cases hA : (lookM m x.id).isSome with
  | true => exact layPort_no1 most b m x w h hw hm hf hA
  | false =>
    by_cases hB : most ≤ (m.length : Int)
    · exact layPort_no2 most b m x w h hw hm hf hA hB
    cases hC : inB x.id 1 1000 with
    | false => exact layPort_no3 most b m x w h hw hm hf hA hB hC
    | true =>
      cases hD : portB x.toPortP with
      | false => rw [← hD]; exact layPort_no4 most b m x w h hw hm hf hA hB hC hD
      | true => rw [← hD]; exact layPort_yes most b m x w h hw hm hf hA hB hC hD

end Go.Proofs.YtkbcplnlehdjfaaGreat
