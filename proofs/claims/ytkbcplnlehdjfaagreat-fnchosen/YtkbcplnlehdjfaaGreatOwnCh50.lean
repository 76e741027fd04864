/- What the proof leans on, part 50: DwCh, DlChosen. -/
import Derived.Test.YtkbcplnlehdjfaaGreatOwnCh1
import Derived.Test.YtkbcplnlehdjfaaGreatOwnCh22
import Derived.Test.YtkbcplnlehdjfaaGreatOwnCh30
import Derived.Test.YtkbcplnlehdjfaaGreatOwnCh49
import Derived.Laws.Rows
import Derived.Deep.Cut

namespace Go.Proofs.YtkbcplnlehdjfaaGreat
open Go.RowKit Go.Maps
attribute [local go_sem ↓] Go.wp_at_zero Go.wp_at_succ
set_option maxRecDepth 100000 in
set_option maxHeartbeats 8000000 in
theorem drawChosen_any (a : Option Addr) (len cap : Nat) (w : World) (hl : len ≤ 1048576) (hb : Bytes w a len) :
  Calls Tryz.prog 52 #[.slice a len cap] w fun e w' => ∃ q : PartD, e = .returned (.agg q.cells) ∧ PartOwn w' w.heap.size q ∧ q.pure.Small ∧ Below w.heap.size w w' := by
 have h5 := (Below.refl w.heap.size w).alloc (Nat.le_refl _) (.cells zero8 32)
 have S : Hid (Below w.heap.size w (w.alloc (.cells zero8 32)) ∧ (w.alloc (.cells zero8 32)).heap[w.heap.size]? = some (.cells zero8 32 (0, 0)) ∧ (w.alloc (.cells zero8 32)).heap.size = w.heap.size + 1 ∧ Bytes (w.alloc (.cells zero8 32)) a len) := ⟨h5, heap_alloc_new _ _, by simp, hb.below h5⟩
 clear hb h5
 go_enter Tryz.func52, Tryz.ntmps52
 go_upto_region 1 with fail
 generalize w.alloc (.cells zero8 32) = A at *
 go_wp2_with fail
 refine (open_any a len cap A S.out.2.2.2).mono ?_
 rintro e A1 ⟨rfl, hb1, hr1, -⟩
 have hrl := hr1.lt
 have hcall := part_any A.heap.size a len cap A1 hl hr1
 replace S : Hid (Below w.heap.size w A1 ∧ A1.heap[w.heap.size]? = some (.cells zero8 32 (0, 0)) ∧ A.heap.size = w.heap.size + 1 ∧ A.heap.size < A1.heap.size) := ⟨S.out.1.trans (hb1.mono S.out.1.size), (hb1.block _ (by have := S.out.2.2.1; omega)).trans S.out.2.1, S.out.2.2.1, hrl⟩
 clear hb1 hr1 hrl
 go_wp2_with fail
 refine hcall.mono ?_
 clear hcall
 rintro e A2 ⟨q, now, rfl, hnow, ho, hs, hb2, -⟩
 have hz : Below A2.heap.size A2 ((A2.alloc (.cells zero8 32)).setRow A2.heap.size q.cells) := below_setRow ((Below.refl _ _).alloc (Nat.le_refl _) _) (Nat.le_refl _) _
 have HD : Hid (PartBox ((A2.alloc (.cells zero8 32)).setRow A2.heap.size q.cells) A2.heap.size q ∧ PartOwn ((A2.alloc (.cells zero8 32)).setRow A2.heap.size q.cells) (w.heap.size + 1) q ∧ q.pure.Small ∧ Below w.heap.size w ((A2.alloc (.cells zero8 32)).setRow A2.heap.size q.cells) ∧ ((A2.alloc (.cells zero8 32)).setRow A2.heap.size q.cells).heap[w.heap.size]? = some (.cells zero8 32 (0, 0)) ∧ w.heap.size < A2.heap.size) := by
  have h1 := S.out.2.2
  have h2 := hb2.size
  exact ⟨setRow_heap _ _ _ _ _ _ (heap_alloc_new _ _), (ho.lower (by omega)).below hz, hs, S.out.1.trans ((hb2.below (by omega) S.out.1.size).trans (hz.mono (by omega))), (hz.block _ (by omega)).trans ((hb2.block _ (by omega) (by omega)).trans S.out.2.1), by omega⟩
 clear hz ho hs hb2 hnow S
 go_upto_region 3 with (refine wpList_store_row rfl 32 (.tmp 4) (.tmp 11) rfl _ _ _ q.cells rfl rfl (heap_alloc_new _ _) (by kernel_rfl) rfl (by kernel_rfl) ?_)
 generalize (A2.alloc (.cells zero8 32)).setRow A2.heap.size q.cells = B at *
 generalize A2.heap.size = X at *
 go_wp2_with (first | (refine wpList_load_row rfl 32 (.tmp 4) rfl X (by rfl) 32 q.cells (0, 0) _ HD.out.1 Tryz.underlying32 rfl (by kernel_rfl) ?_) | (refine wpList_store_row rfl 32 (.tmp 2) (.tmp 13) rfl (w.heap.size) _ _ q.cells rfl rfl HD.out.2.2.2.2.1 (by kernel_rfl) rfl (by kernel_rfl) ?_))
 refine bodyPost_ret (v := .agg q.cells) (results_cell_row Tryz.results52 _ _ (w.heap.size) _ _ (0, 0) _ rfl (setRow_heap _ _ _ _ _ _ HD.out.2.2.2.2.1) Tryz.underlying32 rfl (by kernel_rfl)) rfl ?_
 exact ⟨q, rfl, (HD.out.2.1.lower (by omega)).same fun g hg => setRow_other _ _ _ _ (by have := (HD.out.2.1.lt g hg).1; omega), HD.out.2.2.1, below_setRow HD.out.2.2.2.1 (Nat.le_refl _) _⟩
end Go.Proofs.YtkbcplnlehdjfaaGreat

/- FnChosen, called at any code: true, and nothing that was there is changed. (Made by mkdlchosen.py.) -/
namespace Go.Proofs.YtkbcplnlehdjfaaGreat
open Go.RowKit Go.Maps
attribute [local go_sem ↓] Go.wp_at_zero Go.wp_at_succ
set_option maxRecDepth 100000 in
set_option maxHeartbeats 8000000 in
theorem chosenAll_law (a : Option Addr) (len cap : Nat) (w : World) (hb : len ≤ 1048576 → Bytes w a len) :
  Calls Tryz.prog 6 #[.slice a len cap] w fun e w' => e = .returned (.bool true) ∧ Below w.heap.size w w' := by
 by_cases hl : 1048576 < len
 ·have hd : decide (1048576 < len) = true := by simp [hl]
  go_enter Tryz.func6, Tryz.ntmps6
  go_wp2_with (go_at_call 20; refine (big_any _ _ _ _).mono ?_; rintro e w' ⟨rfl, rfl⟩; rw [hd])
  go_ret
  exact ⟨rfl, by go_grown⟩
 have hd : decide (1048576 < len) = false := by simp [hl]
 have HBY : Hid (Bytes w a len) := hb (by omega)
 clear hb
 have hl : len ≤ 1048576 := by omega
 go_enter Tryz.func6, Tryz.ntmps6
 go_wp2_with (go_at_call 20; refine (big_any _ _ _ _).mono ?_; rintro e w' ⟨rfl, rfl⟩; rw [hd])
 refine (drawChosen_any a len cap _ hl HBY.out).mono ?_
 clear hl hd HBY
 rintro e A1 ⟨q, rfl, ho, hs, hb1⟩
 have S : Hid (PartBox ((A1.alloc (.cells zero8 32)).setRow A1.heap.size q.cells) (A1.heap.size) q ∧ PartOwn ((A1.alloc (.cells zero8 32)).setRow A1.heap.size q.cells) w'.heap.size q ∧ q.pure.Small ∧ Below w'.heap.size w' ((A1.alloc (.cells zero8 32)).setRow A1.heap.size q.cells)) := by
  have hz : Below A1.heap.size A1 ((A1.alloc (.cells zero8 32)).setRow A1.heap.size q.cells) := below_setRow ((Below.refl _ _).alloc (Nat.le_refl _) _) (Nat.le_refl _) _
  exact ⟨setRow_heap _ _ _ _ _ _ (heap_alloc_new _ _), ho.below hz, hs, hb1.trans (hz.mono hb1.size)⟩
 clear ho hs hb1
 go_upto_region 4 with (refine wpList_store_row rfl 32 (.tmp 3) (.tmp 12) rfl _ _ _ q.cells rfl rfl (heap_alloc_new _ _) (by kernel_rfl) rfl (by kernel_rfl) ?_)
 generalize (A1.alloc (.cells zero8 32)).setRow A1.heap.size q.cells = B at *
 generalize A1.heap.size = X at *
 have hcall := implChosen_any q B (small_good S.out.2.2.1 S.out.2.1)
 go_wp2_with (refine wpList_load_row rfl 32 (.tmp 3) rfl X (by rfl) 32 q.cells (0, 0) _ S.out.1 Tryz.underlying32 rfl (by kernel_rfl) ?_)
 refine hcall.mono ?_
 clear hcall
 rintro e B1 ⟨rfl, hb⟩
 replace S : Hid (PartBox (B1) (X) q ∧ PartOwn (B1) w'.heap.size q ∧ q.pure.Small ∧ Below w'.heap.size w' (B1)) := ⟨S.out.1.below hb, S.out.2.1.below hb, S.out.2.2.1, S.out.2.2.2.trans (hb.mono S.out.2.2.2.size)⟩
 clear hb
 have hcall := specChosen_any q B1 (small_fit S.out.2.2.1) (fun x hx => (small_proc S.out.2.2.1 hx).1) S.out.2.1.at
 go_wp2_with (refine wpList_load_row rfl 32 (.tmp 3) rfl X (by rfl) 32 q.cells (0, 0) _ S.out.1 Tryz.underlying32 rfl (by kernel_rfl) ?_)
 refine hcall.mono ?_
 clear hcall
 rintro e B2 ⟨rfl, hb⟩
 replace S : Hid (PartBox (B2) (X) q ∧ PartOwn (B2) w'.heap.size q ∧ q.pure.Small ∧ Below w'.heap.size w' (B2)) := ⟨S.out.1.below hb, S.out.2.1.below hb, S.out.2.2.1, S.out.2.2.2.trans (hb.mono S.out.2.2.2.size)⟩
 clear hb
 have hne : (chosenB q.pure != chosenB q.pure) = false := by simp
 have hcall := specPartOk_any q B2 (small_fit S.out.2.2.1) (fun x hx => (small_proc S.out.2.2.1 hx).1) S.out.2.1.at
 unfold PartD.cells at hcall
 obtain ⟨m0, m1, m2, m3, m4, m5, m6, m7⟩ := S.out.1.cells
 go_wp2_with fail
 clear m0 m1 m2 m3 m4 m5 m6 m7 hne
 refine hcall.mono ?_
 clear hcall
 rintro e B3 ⟨rfl, hb⟩
 replace S : Hid (PartBox (B3) (X) q ∧ PartOwn (B3) w'.heap.size q ∧ q.pure.Small ∧ Below w'.heap.size w' (B3)) := ⟨S.out.1.below hb, S.out.2.1.below hb, S.out.2.2.1, S.out.2.2.2.trans (hb.mono S.out.2.2.2.size)⟩
 clear hb
 cases h4 : partB q.pure
 ·have HZ : Hid (chosenB q.pure = 0) := chosen_no h4
  clear h4
  have hcall := specChosen_any q B3 (small_fit S.out.2.2.1) (fun x hx => (small_proc S.out.2.2.1 hx).1) S.out.2.1.at
  go_wp2_with (refine wpList_load_row rfl 32 (.tmp 3) rfl X (by rfl) 32 q.cells (0, 0) _ S.out.1 Tryz.underlying32 rfl (by kernel_rfl) ?_)
  refine hcall.mono ?_
  clear hcall
  rintro e B4 ⟨rfl, hb⟩
  replace S : Hid (PartBox (B4) (X) q ∧ PartOwn (B4) w'.heap.size q ∧ q.pure.Small ∧ Below w'.heap.size w' (B4)) := ⟨S.out.1.below hb, S.out.2.1.below hb, S.out.2.2.1, S.out.2.2.2.trans (hb.mono S.out.2.2.2.size)⟩
  clear hb
  rw [HZ.out]
  go_wp2
  go_ret
  exact ⟨ret_bool (by simp), S.out.2.2.2⟩
 have HC := hided (chosen_is h4)
 have HWF := hided (chosen_wf S.out.2.2.1)
 clear h4
 have hcall := implProcOf_any q (chosenB q.pure) B3 HWF.out (small_good S.out.2.2.1 S.out.2.1)
 generalize chosenB q.pure = z at *
 go_wp2_with (refine wpList_load_row rfl 32 (.tmp 3) rfl X (by rfl) 32 q.cells (0, 0) _ S.out.1 Tryz.underlying32 rfl (by kernel_rfl) ?_)
 refine hcall.mono ?_
 clear hcall HWF
 rintro e B4 ⟨x, rfl, -, hx, hb⟩
 replace S : Hid (PartBox (B4) (X) q ∧ PartOwn (B4) w'.heap.size q ∧ q.pure.Small ∧ Below w'.heap.size w' (B4)) := ⟨S.out.1.below hb, S.out.2.1.below hb, S.out.2.2.1, S.out.2.2.2.trans (hb.mono S.out.2.2.2.size)⟩
 clear hb
 rw [← hx] at HC
 clear hx
 generalize (procOfP q.pure z).isSome = th at *
 replace S : Hid (PartBox ((B4.alloc (.cells #[.int .i64 0, .int .i64 0, .slice none 0 0, .int .i64 0, .int .i64 0, .int .i64 0, .int .i64 0, .int .i64 0, .string ⟨#[]⟩, .string ⟨#[]⟩, .int .i64 0, .int .i64 0] 43)).setRow B4.heap.size (procVs x)) (X) q ∧ PartOwn ((B4.alloc (.cells #[.int .i64 0, .int .i64 0, .slice none 0 0, .int .i64 0, .int .i64 0, .int .i64 0, .int .i64 0, .int .i64 0, .string ⟨#[]⟩, .string ⟨#[]⟩, .int .i64 0, .int .i64 0] 43)).setRow B4.heap.size (procVs x)) w'.heap.size q ∧ q.pure.Small ∧ Below w'.heap.size w' ((B4.alloc (.cells #[.int .i64 0, .int .i64 0, .slice none 0 0, .int .i64 0, .int .i64 0, .int .i64 0, .int .i64 0, .int .i64 0, .string ⟨#[]⟩, .string ⟨#[]⟩, .int .i64 0, .int .i64 0] 43)).setRow B4.heap.size (procVs x)) ∧ ((B4.alloc (.cells #[.int .i64 0, .int .i64 0, .slice none 0 0, .int .i64 0, .int .i64 0, .int .i64 0, .int .i64 0, .int .i64 0, .string ⟨#[]⟩, .string ⟨#[]⟩, .int .i64 0, .int .i64 0] 43)).setRow B4.heap.size (procVs x)).heap[B4.heap.size]? = some (.cells (procVs x) 43 (0, 0))) := by
  have hz : Below B4.heap.size B4 ((B4.alloc (.cells #[.int .i64 0, .int .i64 0, .slice none 0 0, .int .i64 0, .int .i64 0, .int .i64 0, .int .i64 0, .int .i64 0, .string ⟨#[]⟩, .string ⟨#[]⟩, .int .i64 0, .int .i64 0] 43)).setRow B4.heap.size (procVs x)) := below_setRow ((Below.refl _ _).alloc (Nat.le_refl _) _) (Nat.le_refl _) _
  exact ⟨S.out.1.below hz, S.out.2.1.below hz, S.out.2.2.1, S.out.2.2.2.trans (hz.mono S.out.2.2.2.size), setRow_heap _ _ _ _ _ _ (heap_alloc_new _ _)⟩
 go_upto_region 8 with (refine wpList_store_row rfl 43 (.tmp 5) (.tmp 36) rfl _ _ _ (procVs x) rfl rfl (heap_alloc_new _ _) (by kernel_rfl) rfl (by kernel_rfl) ?_)
 generalize (B4.alloc (.cells #[.int .i64 0, .int .i64 0, .slice none 0 0, .int .i64 0, .int .i64 0, .int .i64 0, .int .i64 0, .int .i64 0, .string ⟨#[]⟩, .string ⟨#[]⟩, .int .i64 0, .int .i64 0] 43)).setRow B4.heap.size (procVs x) = C at *
 generalize B4.heap.size = Y at *
 have HLN : Hid (q.procs.length ≤ 1048576) := (small_short S.out.2.2.1).procs
 go_upto_region 9 with fail
 go_loopw [7] (fun i wr => ∃ k : Nat, k ≤ q.procs.length ∧ i = .int .i64 k ∧ Hid (PartBox (wr) (X) q ∧ PartOwn (wr) w'.heap.size q ∧ q.pure.Small ∧ Below w'.heap.size w' (wr) ∧ (wr).heap[Y]? = some (.cells (procVs x) 43 (0, 0)))) (fun i _ => q.procs.length - (Go.RowKit.intOf i).toNat)
 case atStart => exact ⟨0, Nat.zero_le _, rfl, S⟩
 case round =>
  clear S
  obtain ⟨k, hk, rfl, S⟩ := hrel
  have hlen := HLN.out
  obtain ⟨-, -, m2, -⟩ := S.out.1.cells
  obtain ⟨-, c1, -, c3, -, -, -, -, -, -, -, c11⟩ := proc_cells S.out.2.2.2.2
  by_cases hlt : k < q.procs.length
  ·have i0 : (0 : Int) ≤ (k : Int) := by omega
   have i1 : (k : Int) < (q.procs.length : Int) := by omega
   obtain ⟨y, hy⟩ : ∃ y, q.procs[k]? = some y := ⟨_, List.getElem?_eq_getElem hlt⟩
   have HY := hided (HC.out.2.2 y.toProcP (List.mem_map.2 ⟨y, List.mem_of_getElem? hy, rfl⟩))
   obtain ⟨gs, ha, hat⟩ := proc_at S.out.2.1.at.1 hy
   rw [ha] at m2
   obtain ⟨d0, d1, d2, d3, d4, d5, d6, d7, d8, d9, d10, d11⟩ := hat
   clear hy ha
   have HN : Hid (PartBox (wr.alloc (.cells (procVs y) 43)) (X) q ∧ PartOwn (wr.alloc (.cells (procVs y) 43)) w'.heap.size q ∧ q.pure.Small ∧ Below w'.heap.size w' (wr.alloc (.cells (procVs y) 43)) ∧ (wr.alloc (.cells (procVs y) 43)).heap[Y]? = some (.cells (procVs x) 43 (0, 0)) ∧ (wr.alloc (.cells (procVs y) 43)).heap[wr.heap.size]? = some (.cells (procVs y) 43 (0, 0))) := by
    have hz : Below wr.heap.size wr (wr.alloc (.cells (procVs y) 43)) := (Below.refl _ _).alloc (Nat.le_refl _) _
    exact ⟨S.out.1.below hz, S.out.2.1.below hz, S.out.2.2.1, S.out.2.2.2.1.trans (hz.mono S.out.2.2.2.1.size), (hz.block _ (Array.getElem?_eq_some_iff.1 S.out.2.2.2.2).1).trans S.out.2.2.2.2, heap_alloc_new _ _⟩
   unfold procVs at HN
   go_upto_region 12 with fail
   generalize wr.alloc (.cells #[.int .i64 y.id, .int .i64 y.prio, .slice y.progA y.prog.length y.progC, .int .i64 y.state, .int .i64 y.pc, .int .i64 y.left, .int .i64 y.wake, .int .i64 y.on, .string y.held, .string y.got, .int .i64 y.code, .int .i64 y.since] 43) = W5 at *
   generalize wr.heap.size = V at *
   clear d0 d1 d2 d3 d4 d5 d6 d7 d8 d9 d10 d11 m2 c1 c3 c11 S
   obtain ⟨-, c1, -, c3, -, -, -, -, -, -, -, c11⟩ := proc_cells HN.out.2.2.2.2.1
   obtain ⟨-, e1, -, e3, -, -, -, -, -, -, -, e11⟩ := proc_cells HN.out.2.2.2.2.2
   by_cases hs : y.state = 1
   ·obtain ⟨ht, hah⟩ := HY.out hs
    subst ht
    have ds : (y.state == 1) = true := by simp [hs]
    by_cases hp : y.prio = x.prio
    ·have dq : (y.prio == x.prio) = true := by simp [hp]
     have dp : decide (x.prio < y.prio) = false := decide_eq_false (by omega)
     have dr : decide (y.since < x.since) = false := by unfold aheadB at hah; rwa [if_pos (by exact hp)] at hah
     clear hp hs hah
     go_wp2
     go_roundw
     case rel => exact ⟨k + 1, by omega, by go_num, HN.out.1, HN.out.2.1, HN.out.2.2.1, HN.out.2.2.2.1, HN.out.2.2.2.2.1⟩
     case measure => simp [Go.RowKit.intOf]; omega
    ·have dq : (y.prio == x.prio) = false := by simp [hp]
     have dp : decide (x.prio < y.prio) = false := by unfold aheadB at hah; rwa [if_neg (by exact hp)] at hah
     clear hp hs hah
     go_wp2
     go_roundw
     case rel => exact ⟨k + 1, by omega, by go_num, HN.out.1, HN.out.2.1, HN.out.2.2.1, HN.out.2.2.2.1, HN.out.2.2.2.2.1⟩
     case measure => simp [Go.RowKit.intOf]; omega
   ·have ds : (y.state == 1) = false := by simp [hs]
    clear hs
    go_wp2
    go_roundw
    case rel => exact ⟨k + 1, by omega, by go_num, HN.out.1, HN.out.2.1, HN.out.2.2.1, HN.out.2.2.2.1, HN.out.2.2.2.2.1⟩
    case measure => simp [Go.RowKit.intOf]; omega
  ·have i1 : ¬ (k : Int) < (q.procs.length : Int) := by omega
   have h5 := HC.out.1
   have h6 := HC.out.2.1
   cases th
   ·have dz : decide (0 < z) = false := by simpa using h5
    clear h5 h6
    go_wp2
    go_ret
    exact ⟨ret_bool (by simp), S.out.2.2.2.1⟩
   ·have dz : decide (0 < z) = true := by simpa using h5
    have ds : (x.state == 1) = true := by have := h6 rfl; simpa using this
    clear h5 h6
    go_wp2
    go_ret
    exact ⟨ret_bool (by simp), S.out.2.2.2.1⟩
end Go.Proofs.YtkbcplnlehdjfaaGreat
