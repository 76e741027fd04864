/- What the proof leans on, part 48: TkTick, DwB. -/
import Derived.Test.YtkbcplnlehdjfaaGreatOwnCh1
import Derived.Test.YtkbcplnlehdjfaaGreatOwnCh5
import Derived.Test.YtkbcplnlehdjfaaGreatOwnCh28
import Derived.Test.YtkbcplnlehdjfaaGreatOwnCh31
import Derived.Test.YtkbcplnlehdjfaaGreatOwnCh32
import Derived.Test.YtkbcplnlehdjfaaGreatOwnCh33
import Derived.Test.YtkbcplnlehdjfaaGreatOwnCh35
import Derived.Test.YtkbcplnlehdjfaaGreatOwnCh36
import Derived.Test.YtkbcplnlehdjfaaGreatOwnCh37
import Derived.Test.YtkbcplnlehdjfaaGreatOwnCh38
import Derived.Test.YtkbcplnlehdjfaaGreatOwnCh47
import Derived.Laws.Rows
import Derived.Deep.Cut

namespace Go.Proofs.YtkbcplnlehdjfaaGreat
open Go.RowKit Go.Maps
attribute [local go_sem ↓] Go.wp_at_zero Go.wp_at_succ
set_option maxRecDepth 100000 in
set_option maxHeartbeats 8000000 in
theorem l5Ticked_any (p : PartD) (now : Int) (w : World) (hf : p.Fit) (hs : ∀ x ∈ p.procs, x.Short) (h : PartD.At w p) (hr : PartR p.pure) (hn : p.next ≤ 999999980) (hnow : 0 ≤ now ∧ now ≤ 1000000000) :
  Calls Tryz.prog 204 #[.agg p.cells, .int .i64 now] w fun e w' => ∃ q : PartD, e = .returned (.agg q.cells) ∧ q.pure = tickL now p.pure ∧ PartOwn w' w.heap.size q ∧ Below w.heap.size w w' := by
 have b1 := alloc2_below w (.cells p.cells 32) (.cells zero8 32)
 have h2 := alloc2_facts w (.cells p.cells 32) (.cells zero8 32)
 have hA : PartD.At ((w.alloc (.cells p.cells 32)).alloc (.cells zero8 32)) p := h.below b1
 have S : Hid (PartBox ((w.alloc (.cells p.cells 32)).alloc (.cells zero8 32)) w.heap.size p ∧ Below w.heap.size w ((w.alloc (.cells p.cells 32)).alloc (.cells zero8 32)) ∧ ((w.alloc (.cells p.cells 32)).alloc (.cells zero8 32)).heap[w.heap.size + 1]? = some (.cells zero8 32 (0, 0))) := ⟨h2.1, b1, h2.2⟩
 have HR : Hid (PartR p.pure ∧ p.next ≤ 999999980 ∧ (0 ≤ now ∧ now ≤ 1000000000) ∧ p.Fit ∧ (∀ x ∈ p.procs, x.Short)) := ⟨hr, hn, hnow, hf, hs⟩
 have hcall := l3Copy_any p _ hf hs hA
 clear h b1 h2 hA hr hn hnow hf hs
 go_enter Tryz.func204, Tryz.ntmps204
 go_upto_region 1 with fail
 generalize (w.alloc (.cells p.cells 32)).alloc (.cells zero8 32) = A at *
 go_wp2_with (refine wpList_load_row rfl 32 (.tmp 2) rfl w.heap.size (by rfl) 32 p.cells (0, 0) _ S.out.1 Tryz.underlying32 rfl (by kernel_rfl) ?_)
 refine hcall.mono ?_
 clear hcall
 rintro e A1 ⟨q, rfl, hown, hpu, hb1⟩
 have hsz := (Array.getElem?_eq_some_iff.1 S.out.2.2).1
 replace S : Hid (Below w.heap.size w A1 ∧ A1.heap[w.heap.size + 1]? = some (.cells zero8 32 (0, 0)) ∧ w.heap.size + 1 < A.heap.size ∧ A.heap.size ≤ A1.heap.size) := ⟨S.out.2.1.trans (hb1.mono S.out.2.1.size), (hb1.block _ hsz).trans S.out.2.2, hsz, hb1.size⟩
 have hsq : ∀ x ∈ q.procs, x.prog.length ≤ 1048576 := fun x hx => by
  have h5 : x.toProcP ∈ p.pure.procs := by rw [← hpu]; exact List.mem_map.2 ⟨x, hx, rfl⟩
  obtain ⟨y, hy, e⟩ := List.mem_map.1 h5
  have h6 := (HR.out.2.2.2.2 y hy).1
  have h7 : y.prog = x.prog := congrArg ProcP.prog e
  rw [← h7]; exact h6
 have hcall := l4Woken_any q now A.heap.size A1 hown hb1.size (by rw [hpu]; exact Wk.of HR.out.1 HR.out.2.1) hsq
 rw [hpu] at hcall
 clear hsz hown hpu hb1 hsq
 go_wp2_with fail
 refine hcall.mono ?_
 clear hcall
 rintro e A2 ⟨q2, rfl, hp2, ho2, hb2⟩
 have h5 := (Below.refl A2.heap.size A2).alloc (Nat.le_refl _) (.cells q2.cells 32)
 replace S : Hid (Below w.heap.size w A2 ∧ A2.heap[w.heap.size + 1]? = some (.cells zero8 32 (0, 0)) ∧ w.heap.size + 1 < A.heap.size ∧ PartOwn A2 A.heap.size q2 ∧ q2.pure = wokenL now p.pure ∧ A.heap.size ≤ A2.heap.size) := ⟨S.out.1.trans (hb2.mono (by have := S.out.2.2.1; omega)), (hb2.block _ S.out.2.2.1).trans S.out.2.1, S.out.2.2.1, ho2, hp2, Nat.le_trans S.out.2.2.2 hb2.size⟩
 clear hp2 ho2 hb2 h5
 go_upto_region 2 with (refine wpList_store_row rfl 32 (.tmp 5) (.tmp 10) rfl _ _ _ q2.cells rfl rfl (heap_alloc_new _ _) (by kernel_rfl) rfl (by kernel_rfl) ?_)
 have hbx : Below A2.heap.size A2 ((A2.alloc (.cells zero8 32)).setRow A2.heap.size q2.cells) := below_setRow ((Below.refl _ _).alloc (Nat.le_refl _) _) (Nat.le_refl _) _
 replace S : Hid (Below w.heap.size w ((A2.alloc (.cells zero8 32)).setRow A2.heap.size q2.cells) ∧ ((A2.alloc (.cells zero8 32)).setRow A2.heap.size q2.cells).heap[w.heap.size + 1]? = some (.cells zero8 32 (0, 0)) ∧ w.heap.size + 1 < A.heap.size ∧ PartOwn ((A2.alloc (.cells zero8 32)).setRow A2.heap.size q2.cells) A.heap.size q2 ∧ q2.pure = wokenL now p.pure ∧ PartBox ((A2.alloc (.cells zero8 32)).setRow A2.heap.size q2.cells) A2.heap.size q2 ∧ A.heap.size ≤ A2.heap.size ∧ A2.heap.size < ((A2.alloc (.cells zero8 32)).setRow A2.heap.size q2.cells).heap.size ∧ (∀ g ∈ q2.blocks, g < A2.heap.size)) := ⟨S.out.1.trans (hbx.mono S.out.1.size), (hbx.block _ (by have := S.out.2.2; omega)).trans S.out.2.1, S.out.2.2.1, S.out.2.2.2.1.below hbx, S.out.2.2.2.2.1, setRow_heap _ _ _ _ _ _ (heap_alloc_new _ _), S.out.2.2.2.2.2, by simp, fun g hg => (S.out.2.2.2.1.lt g hg).2⟩
 clear hbx
 generalize (A2.alloc (.cells zero8 32)).setRow A2.heap.size q2.cells = B at *
 generalize A2.heap.size = X at *
 have HW := hided (wokenL_right (now := now) HR.out.1 (by have h5 := HR.out.2.1; have e : p.pure.next = p.next := rfl; omega))
 have HWR : Hid (PartR q2.pure) := by show PartR q2.pure; rw [S.out.2.2.2.2.1]; exact HW.out.1
 have hcall := l4Best_any q2 1 0 B (by have := (part_lens HWR.out).1; omega) S.out.2.2.2.1.at
 go_wp2_with (refine wpList_load_row rfl 32 (.tmp 5) rfl X (by rfl) 32 q2.cells (0, 0) _ S.out.2.2.2.2.2.1 Tryz.underlying32 rfl (by kernel_rfl) ?_)
 refine hcall.mono ?_
 clear hcall
 rintro e B2 ⟨⟨z, rfl, hbest⟩, hb2⟩
 replace S : Hid (Below w.heap.size w B2 ∧ B2.heap[w.heap.size + 1]? = some (.cells zero8 32 (0, 0)) ∧ w.heap.size + 1 < A.heap.size ∧ PartOwn B2 A.heap.size q2 ∧ q2.pure = wokenL now p.pure ∧ PartBox B2 X q2 ∧ A.heap.size ≤ X ∧ X < B2.heap.size ∧ (∀ g ∈ q2.blocks, g < X)) := ⟨S.out.1.trans (hb2.mono S.out.1.size), (hb2.block _ (by have := S.out.2.2; omega)).trans S.out.2.1, S.out.2.2.1, S.out.2.2.2.1.below hb2, S.out.2.2.2.2.1, S.out.2.2.2.2.2.1.below hb2, S.out.2.2.2.2.2.2.1, by have := hb2.size; have := S.out.2.2.2.2.2.2.2.1; omega, S.out.2.2.2.2.2.2.2.2⟩
 clear hb2
 rcases best_is hbest with ⟨hz, hw⟩ | ⟨i, v, hz, hi, hw⟩
 ·have dz : decide (z < 0) = true := decide_eq_true hz
  have HE : Hid (q2.pure = tickL now p.pure) := by show q2.pure = _; unfold tickL; rw [← S.out.2.2.2.2.1, hw]
  clear hbest hz hw
  go_wp2_with (first | (refine wpList_load_row rfl 32 (.tmp 5) rfl X (by rfl) 32 q2.cells (0, 0) _ S.out.2.2.2.2.2.1 Tryz.underlying32 rfl (by kernel_rfl) ?_) | (refine wpList_store_row rfl 32 (.tmp 4) (.tmp 15) rfl (w.heap.size + 1) _ _ q2.cells rfl rfl S.out.2.1 (by kernel_rfl) rfl (by kernel_rfl) ?_))
  refine bodyPost_ret (v := .agg q2.cells) (results_cell_row Tryz.results204 _ _ (w.heap.size + 1) _ _ (0, 0) _ rfl (setRow_heap _ _ _ _ _ _ S.out.2.1) Tryz.underlying32 rfl (by kernel_rfl)) rfl ?_
  exact ⟨q2, rfl, HE.out, (S.out.2.2.2.1.lower (by have := S.out.2.2.1; omega)).same fun g hg => setRow_other _ _ _ _ (by have := (S.out.2.2.2.1.lt g hg).1; have := S.out.2.2.1; omega), below_setRow S.out.1 (by omega) _⟩
 subst hz
 have dz : decide ((i : Int) < 0) = false := decide_eq_false (by omega)
 have hm := bestW_mem hw
 have HE : Hid (opP now v.toProcP (opAt v.toProcP) q2.pure = tickL now p.pure) := by show opP now v.toProcP (opAt v.toProcP) q2.pure = _; unfold tickL; rw [← S.out.2.2.2.2.1, hw]
 have hcall := l5Op_any q2 i A.heap.size v now B2 S.out.2.2.2.1 (by have := S.out.2.2.2.2.2.2; omega) HWR.out hi hm.2.1 (by have h5 := HW.out.2.2; have h6 : q2.next = (wokenL now p.pure).next := congrArg PartP.next S.out.2.2.2.2.1; have h7 := HR.out.2.1; have e : p.pure.next = p.next := rfl; omega) HR.out.2.2.1
 rw [HE.out] at hcall
 clear hbest hi hw hm
 go_wp2_with (refine wpList_load_row rfl 32 (.tmp 5) rfl X (by rfl) 32 q2.cells (0, 0) _ S.out.2.2.2.2.2.1 Tryz.underlying32 rfl (by kernel_rfl) ?_)
 refine hcall.mono ?_
 clear hcall dz
 rintro e B3 ⟨q3, rfl, hp3, ht⟩
 have S3 : Hid (Below w.heap.size w B3 ∧ B3.heap[w.heap.size + 1]? = some (.cells zero8 32 (0, 0)) ∧ PartOwn B3 A.heap.size q3 ∧ q3.pure = tickL now p.pure ∧ w.heap.size + 1 < A.heap.size) := by
  have hlt := S.out.2.2.1
  have hbb := S.out.2.2.2.2.2.2
  have hlo : ∀ g ∈ q2.blocks, A.heap.size ≤ g := fun g hg => (S.out.2.2.2.1.lt g hg).1
  exact ⟨S.out.1.trans ((ht.kept.below (by omega) hlo).mono (by omega)), (ht.kept.same _ (by omega) (fun hm => by have := hlo _ hm; omega)).trans S.out.2.1, ht.own, hp3, hlt⟩
 clear hp3 ht S
 go_wp2_with (refine wpList_store_row rfl 32 (.tmp 4) (.tmp 19) rfl (w.heap.size + 1) _ _ q3.cells rfl rfl S3.out.2.1 (by kernel_rfl) rfl (by kernel_rfl) ?_)
 refine bodyPost_ret (v := .agg q3.cells) (results_cell_row Tryz.results204 _ _ (w.heap.size + 1) _ _ (0, 0) _ rfl (setRow_heap _ _ _ _ _ _ S3.out.2.1) Tryz.underlying32 rfl (by kernel_rfl)) rfl ?_
 exact ⟨q3, rfl, S3.out.2.2.2.1, (S3.out.2.2.1.lower (by have := S3.out.2.2.2.2; omega)).same fun g hg => setRow_other _ _ _ _ (by have := (S3.out.2.2.1.lt g hg).1; have := S3.out.2.2.2.2; omega), below_setRow S3.out.1 (by omega) _⟩
set_option maxRecDepth 100000 in
set_option maxHeartbeats 8000000 in
theorem specTicked_any (p : PartD) (now : Int) (w : World) (hf : p.Fit) (hs : ∀ x ∈ p.procs, x.Short) (h : PartD.At w p) :
  Calls Tryz.prog 160 #[.agg p.cells, .int .i64 now] w fun e w' => TurnRes w (tickedP p.pure now) e w' := by
 have b1 := alloc2_below w (.cells p.cells 32) (.cells zero8 32)
 have h2 := alloc2_facts w (.cells p.cells 32) (.cells zero8 32)
 have S : Hid (PartBox ((w.alloc (.cells p.cells 32)).alloc (.cells zero8 32)) w.heap.size p ∧ PartD.At ((w.alloc (.cells p.cells 32)).alloc (.cells zero8 32)) p ∧ Below w.heap.size w ((w.alloc (.cells p.cells 32)).alloc (.cells zero8 32)) ∧ ((w.alloc (.cells p.cells 32)).alloc (.cells zero8 32)).heap[w.heap.size + 1]? = some (.cells zero8 32 (0, 0))) := ⟨h2.1, h.below b1, b1, h2.2⟩
 have HFT : Hid (p.Fit ∧ ∀ x ∈ p.procs, x.Short) := ⟨hf, hs⟩
 clear h hf hs b1 h2
 go_enter Tryz.func160, Tryz.ntmps160
 go_upto_region 1 with fail
 generalize (w.alloc (.cells p.cells 32)).alloc (.cells zero8 32) = A at *
 have hcall := specPartOk_any p A HFT.out.1 HFT.out.2 S.out.2.1
 go_wp2_with (refine wpList_load_row rfl 32 (.tmp 2) rfl w.heap.size (by rfl) 32 p.cells (0, 0) _ S.out.1 Tryz.underlying32 rfl (by kernel_rfl) ?_)
 refine hcall.mono ?_
 clear hcall
 rintro e A1 ⟨rfl, hb⟩
 replace S : Hid (PartBox (A1) w.heap.size p ∧ PartD.At (A1) p ∧ Below w.heap.size w (A1) ∧ (A1).heap[w.heap.size + 1]? = some (.cells zero8 32 (0, 0))) := ⟨S.out.1.below hb, S.out.2.1.below hb, S.out.2.2.1.trans (hb.mono S.out.2.2.1.size), (hb.block _ (Array.getElem?_eq_some_iff.1 S.out.2.2.2).1).trans S.out.2.2.2⟩
 clear hb
 cases h4 : partB p.pure
 ·have HN : Hid (tickedP p.pure now = none) := by show tickedP _ _ = none; simp [tickedP, h4]
  clear h4
  go_wp2_with (refine wpList_store_row rfl 32 (.tmp 4) (.tmp 19) rfl (w.heap.size + 1) _ _ zero8 rfl rfl S.out.2.2.2 (by kernel_rfl) rfl (by kernel_rfl) ?_)
  refine bodyPost_ret (v := .tuple #[.agg zero8, .bool false]) (results_row_tmp Tryz.results160 _ _ (w.heap.size + 1) _ _ _ _ (by rfl) (setRow_heap _ _ _ _ _ _ S.out.2.2.2) Tryz.underlying32 rfl (by kernel_rfl)) rfl ?_
  exact turnRes_no HN.out (below_setRow S.out.2.2.1 (by omega) _)
 have H4 : Hid (partB p.pure = true) := h4
 clear h4
 have hcall := l1In_any now 0 1000000000 A1
 go_wp2_with fail
 refine hcall.mono ?_
 clear hcall
 rintro e A2 ⟨rfl, rfl⟩
 cases h5 : inB now 0 1000000000
 ·have HN : Hid (tickedP p.pure now = none) := by show tickedP _ _ = none; simp [tickedP, h5]
  clear h5
  go_wp2_with (refine wpList_store_row rfl 32 (.tmp 4) (.tmp 19) rfl (w.heap.size + 1) _ _ zero8 rfl rfl S.out.2.2.2 (by kernel_rfl) rfl (by kernel_rfl) ?_)
  refine bodyPost_ret (v := .tuple #[.agg zero8, .bool false]) (results_row_tmp Tryz.results160 _ _ (w.heap.size + 1) _ _ _ _ (by rfl) (setRow_heap _ _ _ _ _ _ S.out.2.2.2) Tryz.underlying32 rfl (by kernel_rfl)) rfl ?_
  exact turnRes_no HN.out (below_setRow S.out.2.2.1 (by omega) _)
 have H5 : Hid (inB now 0 1000000000 = true) := h5
 clear h5
 have hcall := l4Room_any p A2
 unfold PartD.cells at hcall
 obtain ⟨m0, m1, m2, m3, m4, m5, m6, m7⟩ := S.out.1.cells
 go_wp2_with fail
 clear m0 m1 m2 m3 m4 m5 m6 m7
 refine hcall.mono ?_
 clear hcall
 rintro e A3 ⟨rfl, hb⟩
 replace S : Hid (PartBox (A3) w.heap.size p ∧ PartD.At (A3) p ∧ Below w.heap.size w (A3) ∧ (A3).heap[w.heap.size + 1]? = some (.cells zero8 32 (0, 0))) := ⟨S.out.1.below hb, S.out.2.1.below hb, S.out.2.2.1.trans (hb.mono S.out.2.2.1.size), (hb.block _ (Array.getElem?_eq_some_iff.1 S.out.2.2.2).1).trans S.out.2.2.2⟩
 clear hb
 by_cases h6 : p.next ≤ 999999980
 rotate_left
 ·have HN : Hid (tickedP p.pure now = none) := by show tickedP _ _ = none; have h7 : decide (p.pure.next ≤ 999999980) = false := decide_eq_false h6; simp only [tickedP, h7, Bool.and_false]; rfl
  have d6 : decide (p.next ≤ 999999980) = false := decide_eq_false h6
  clear h6
  go_wp2_with (refine wpList_store_row rfl 32 (.tmp 4) (.tmp 19) rfl (w.heap.size + 1) _ _ zero8 rfl rfl S.out.2.2.2 (by kernel_rfl) rfl (by kernel_rfl) ?_)
  refine bodyPost_ret (v := .tuple #[.agg zero8, .bool false]) (results_row_tmp Tryz.results160 _ _ (w.heap.size + 1) _ _ _ _ (by rfl) (setRow_heap _ _ _ _ _ _ S.out.2.2.2) Tryz.underlying32 rfl (by kernel_rfl)) rfl ?_
  exact turnRes_no HN.out (below_setRow S.out.2.2.1 (by omega) _)
 have HN : Hid (tickedP p.pure now = some (tickL now p.pure)) := by show tickedP _ _ = some _; have h7 : decide (p.pure.next ≤ 999999980) = true := decide_eq_true h6; simp only [tickedP, H4.out, H5.out, h7, Bool.and_true]; rfl
 have d6 : decide (p.next ≤ 999999980) = true := decide_eq_true h6
 have hcall := l5Ticked_any p now A3 HFT.out.1 HFT.out.2 S.out.2.1 ((partB_iff _).1 H4.out) h6 (inB_iff.1 H5.out)
 clear h6
 go_wp2_with (refine wpList_load_row rfl 32 (.tmp 2) rfl w.heap.size (by rfl) 32 p.cells (0, 0) _ S.out.1 Tryz.underlying32 rfl (by kernel_rfl) ?_)
 refine hcall.mono ?_
 clear hcall d6
 rintro e A4 ⟨q, rfl, hp, ho, hb⟩
 have hlt := (Array.getElem?_eq_some_iff.1 S.out.2.2.2).1
 have S3 : Hid (Below w.heap.size w A4 ∧ A4.heap[w.heap.size + 1]? = some (.cells zero8 32 (0, 0)) ∧ PartOwn A4 A3.heap.size q ∧ q.pure = tickL now p.pure ∧ w.heap.size + 1 < A3.heap.size) := ⟨S.out.2.2.1.trans (hb.mono S.out.2.2.1.size), (hb.block _ hlt).trans S.out.2.2.2, ho, hp, hlt⟩
 clear hp ho hb hlt S
 go_wp2_with (refine wpList_store_row rfl 32 (.tmp 4) (.tmp 22) rfl (w.heap.size + 1) _ _ q.cells rfl rfl S3.out.2.1 (by kernel_rfl) rfl (by kernel_rfl) ?_)
 refine bodyPost_ret (v := .tuple #[.agg q.cells, .bool true]) (results_row_tmp Tryz.results160 _ _ (w.heap.size + 1) _ _ _ _ (by rfl) (setRow_heap _ _ _ _ _ _ S3.out.2.1) Tryz.underlying32 rfl (by kernel_rfl)) rfl ?_
 rw [HN.out]
 exact ⟨q, rfl, (S3.out.2.2.1.lower (by have := S3.out.2.2.2.2; omega)).same fun g hg => setRow_other _ _ _ _ (by have := (S3.out.2.2.1.lt g hg).1; have := S3.out.2.2.2.2; omega), S3.out.2.2.2.1, below_setRow S3.out.1 (by omega) _⟩
end Go.Proofs.YtkbcplnlehdjfaaGreat

/- A partition under drawing: the reader, the partition's box, its lists. -/
namespace Go.Proofs.YtkbcplnlehdjfaaGreat
open Go.RowKit
theorem plain_size {s : ByteArray} (h : plainB s = true) : s.size ≤ 1048576 := by
 unfold plainB at h
 simp only [Bool.and_eq_true, decide_eq_true_eq] at h
 omega
theorem right_small {p : PartP} (h : PartR p) : p.Small := by
 have hid : ∀ {α : Type} {num : α → Int} {ok : α → Bool} {last : Int} {l : List α}, thingsB num ok last l = true → ∀ x ∈ l, (Lit.int .i64 (num x)).wf = true ∧ ok x = true := fun hl x hx => by
  obtain ⟨h1, h2⟩ := things_all hl x hx
  have := inB_iff.1 h1
  exact ⟨wf_of (by omega) (by omega), h2⟩
 have hwf : ∀ {α : Type} {num : α → Int} {ok : α → Bool} {last k : Int} {l : List α}, thingsB num ok last l = true → decide (k ∈ l.map num) = true → (Lit.int .i64 k).wf = true := fun hl hk => by
  obtain ⟨x, hx, rfl⟩ := List.mem_map.1 (of_decide_eq_true hk)
  exact (hid hl x hx).1
 refine ⟨by have := h.nProc; omega, by have := h.nSem; omega, by have := h.nEvent; omega, by have := h.nBoard; omega, by have := h.nBuffer; omega, by have := h.nPort; omega, fun x hx => ?_, fun x hx => (hid h.sems x hx).1, fun x hx => (hid h.events x hx).1, fun x hx => ?_, fun x hx => ?_, fun x hx => ?_⟩
 ·obtain ⟨k0, k1, k2, k3⟩ := h.proc hx
  have hb := body_of k1
  unfold bodyB at hb
  simp only [Bool.and_eq_true] at hb
  have hl := prog_len hb.1.1.1.2
  have hi := inB_iff.1 k0
  have hnx := inB_iff.1 h.next
  refine ⟨⟨by omega, fun o ho => ?_, plain_size hb.1.1.2, plain_size hb.1.2⟩, wf_of (by omega) (by omega), ?_, ?_⟩
  ·obtain ⟨i, hi1, hi2⟩ := List.mem_iff_getElem.1 ho
   exact plain_size (op_fields (prog_op hb.1.1.1.2 (i := i) (by rw [List.getElem?_eq_getElem hi1, hi2]))).2.2.2.1
  ·unfold waitB at k3
   by_cases h3 : 3 ≤ x.state
   ·rw [if_pos h3] at k3
    unfold hasB at k3
    split at k3
    ·exact hwf h.sems k3
    ·split at k3
     ·exact hwf h.events k3
     ·split at k3
      ·exact hwf h.buffers k3
      ·split at k3
       ·exact hwf h.boards k3
       ·cases k3
   ·rw [procB_is, Bool.and_eq_true] at k1
    have k4 := k1.2
    unfold stateB at k4
    have h0 : x.on = 0 := by
     split at k4
     ·simp only [Bool.and_eq_true, decide_eq_true_eq] at k4; exact k4.1.1.2
     ·split at k4
      ·simp only [Bool.and_eq_true, decide_eq_true_eq] at k4; exact k4.1.2
      ·split at k4
       ·simp only [Bool.and_eq_true, decide_eq_true_eq] at k4; exact k4.1.2
       ·split at k4
        ·omega
        ·split at k4
         ·omega
         ·cases k4
    rw [h0]; rfl
  ·by_cases h0 : x.state = 0
   ·rw [dormant_since k1 h0]; rfl
   ·unfold turnB at k2
    simp only [Bool.or_eq_true, decide_eq_true_eq, h0, false_or] at k2
    have := inB_iff.1 k2
    exact wf_of (by omega) (by omega)
 ·obtain ⟨k1, k2⟩ := hid h.boards x hx
  unfold boardB at k2
  simp only [Bool.and_eq_true] at k2
  exact ⟨k1, plain_size k2.1⟩
 ·obtain ⟨k1, k2⟩ := hid h.buffers x hx
  unfold bufferB at k2
  simp only [Bool.and_eq_true] at k2
  have k3 := texts_iff.1 k2.2
  have k4 := inB_iff.1 k2.1
  exact ⟨k1, by omega, fun s hs => plain_size (k3.2 s hs)⟩
 ·obtain ⟨k1, k2⟩ := hid h.ports x hx
  unfold portB at k2
  simp only [Bool.and_eq_true] at k2
  have k3 := texts_iff.1 k2.2
  have k4 := inB_iff.1 k2.1.1
  exact ⟨k1, by omega, fun s hs => plain_size (k3.2 s hs)⟩
theorem withR_small {p p' : PartP} : ((withR p p').getD zeroPart).Small := by
 unfold withR
 split
 ·rename_i h
  simp only [Bool.and_eq_true] at h
  exact right_small ((partB_iff _).1 h.2)
 ·exact zero_small
theorem ticked_small {p : PartP} {now : Int} : ((tickedP p now).getD zeroPart).Small := by
 unfold tickedP
 split
 ·rename_i h
  simp only [Bool.and_eq_true, decide_eq_true_eq] at h
  exact right_small (tick_right ((partB_iff _).1 h.1.1) h.2 (inB_iff.1 h.1.2)).1
 ·exact zero_small
theorem started_small {p : PartP} {id : Int} (hp : p.Small) : ((startedP p id).getD zeroPart).Small := by
 unfold startedP
 refine turned_small hp fun h y _ hy => ?_
 have h2 := wf_next h
 exact ⟨hy.1, hy.2.1, hy.2.2.1, h2⟩
theorem PartOwn.renum {W : World} {base : Nat} {q : PartD} (h : PartOwn W base q) (id nx : Int) : PartOwn W base { q with id := id, next := nx } := ⟨h.procs, h.sems, h.events, h.boards, h.buffers, h.ports, h.mineP, h.mineF, h.mineQ, h.nodup⟩
theorem new_small {id : Int} (_h : inB id 1 6 = true) : (⟨id, 1, [], none, 0, [], none, 0, [], none, 0, [], none, 0, [], none, 0, [], none, 0⟩ : PartD).pure.Small := ⟨Nat.zero_le _, Nat.zero_le _, Nat.zero_le _, Nat.zero_le _, Nat.zero_le _, Nat.zero_le _, (fun x hx => by cases hx), (fun x hx => by cases hx), (fun x hx => by cases hx), (fun x hx => by cases hx), (fun x hx => by cases hx), (fun x hx => by cases hx)⟩
theorem cells_flat : ∀ os : List OpD, cellsO os = opK.flat os
 | [] => rfl
 | o :: os => by
  show _ = opK.vals o ++ opK.flat os
  rw [← cells_flat os]
  rfl
theorem But.setRow {r X : Nat} {w W : World} (h : But r w W) (hX : w.heap.size ≤ X) (cs : Array Value) : But r w (W.setRow X cs) :=
 ⟨h.os, h.tape, h.output, by simpa using h.size, fun k h1 h2 => (setRow_other _ _ _ _ (by omega)).trans (h.block k h1 h2)⟩
structure Dw (r : Nat) (a : Option Addr) (len cap : Nat) (w : World) (X : Nat) (q : PartD) (W : World) : Prop where
 rd : Rd r a len cap W
 st : Rd r a len cap w
 but : But r w W
 own : PartOwn W (w.heap.size + 1) q
 nin : X ∉ q.blocks
 small : q.pure.Small
 box : PartBox W X q
 ans : W.heap[w.heap.size]? = some (.cells zero8 32 (0, 0))
 hx : w.heap.size < X
section
variable {r len cap X : Nat} {a : Option Addr} {w W W2 : World} {q q2 : PartD}
theorem Dw.drawn (h : Dw r a len cap w X q W) (hb : But r W W2) (hr : Rd r a len cap W2) : Dw r a len cap w X q W2 := by
 have hl := h.st.lt
 have hx := h.hx
 exact ⟨hr, h.st, h.but.trans hb, h.own.same fun g hg => hb.block g (h.own.lt g hg).2 (by have := (h.own.lt g hg).1; omega), h.nin, h.small, (hb.block _ (PartBox.lt h.box) (by omega)).trans h.box, (hb.block _ (Array.getElem?_eq_some_iff.1 h.ans).1 (by omega)).trans h.ans, hx⟩
theorem Dw.reads (h : Dw r a len cap w X q W) (hb : Below W.heap.size W W2) : Dw r a len cap w X q W2 := h.drawn (But.of_below hb) (h.rd.below hb)
theorem Dw.put (h : Dw r a len cap w X q W) (hb : Below W.heap.size W W2) (ho : PartOwn W2 W.heap.size q2) (hs : q2.pure.Small) : Dw r a len cap w X q2 (W2.setRow X q2.cells) := by
 have h1 := h.reads hb
 have hx := h.hx
 have hl := h.st.lt
 have hXW := PartBox.lt h.box
 have hrl := h1.rd
 refine ⟨⟨?_, h.st.2.but (h1.but.setRow (by omega) _)⟩, h.st, h1.but.setRow (by omega) _, (ho.lower (by omega)).same fun g hg => setRow_other _ _ _ _ (by have := (ho.lt g hg).1; omega), fun hm => by have := (ho.lt X hm).1; omega, hs, setRow_heap _ _ _ _ _ _ h1.box, (setRow_other _ _ _ _ (by omega)).trans h1.ans, hx⟩
 obtain ⟨p, hp, hc⟩ := hrl.1
 exact ⟨p, hp, (setRow_other _ _ _ _ (by omega)).trans hc⟩
theorem Dw.first (hr : Rd r a len cap W) (st : Rd r a len cap w) (hb : But r w W) (ho : PartOwn W (w.heap.size + 1) q) (hs : q.pure.Small) (ha : W.heap[w.heap.size]? = some (.cells zero8 32 (0, 0))) : Dw r a len cap w W.heap.size q ((W.alloc (.cells zero8 32)).setRow W.heap.size q.cells) := by
 have hl := (Array.getElem?_eq_some_iff.1 ha).1
 have h1 : Below W.heap.size W ((W.alloc (.cells zero8 32)).setRow W.heap.size q.cells) := below_setRow ((Below.refl _ _).alloc (Nat.le_refl _) _) (Nat.le_refl _) _
 exact ⟨hr.below h1, st, hb.trans (But.of_below h1), ho.below h1, fun hm => by have := (ho.lt _ hm).2; omega, hs, setRow_heap _ _ _ _ _ _ (heap_alloc_new _ _), (h1.block _ hl).trans ha, hl⟩
theorem Dw.cell {x y : ProcD} {gs n j : Nat} {v : Value} (h : Dw r a len cap w X q W) (hx : q.procs[n]? = some x) (ha : q.procA = some ⟨gs, 0, none⟩) (hy : y.prog = x.prog ∧ y.progA = x.progA ∧ y.progC = x.progC) (hj : j < 12) (hv : procK.vals y = (procK.vals x).set j v) (hs : ({ q with procs := q.procs.set n y } : PartD).pure.Small) :
  Dw r a len cap w X ({ q with procs := q.procs.set n y } : PartD) (W.setCell ⟨gs, n * 12 + j, none⟩ v) ∧ (∃ u, W.cell? ⟨gs, n * 12 + j, none⟩ = some u) ∧ W.frozen? ⟨gs, n * 12 + j, none⟩ = false := by
 obtain ⟨s1, h2⟩ := own_setProc h.own hx ha hy hj hv
 have hg : gs ∈ q.blocks := proc_in ha
 have hgl := h.own.lt gs hg
 have hl := h.st.lt
 have hb : But r w (W.setCell ⟨gs, n * 12 + j, none⟩ v) := ⟨h.but.os, h.but.tape, h.but.output, by rw [setCell_size]; exact h.but.size, fun k h5 h6 => (setCell_other (by omega)).trans (h.but.block k h5 h6)⟩
 have hne : X ≠ gs := fun e => h.nin (e ▸ hg)
 have hbl : ({ q with procs := q.procs.set n y } : PartD).blocks = q.blocks := set_blocks (nx := q.next) hx hy.2.1
 refine ⟨⟨⟨?_, h.st.2.but hb⟩, h.st, hb, s1.own, by rw [hbl]; exact h.nin, hs, ?_, (setCell_other (by omega)).trans h.ans, h.hx⟩, h2⟩
 ·obtain ⟨p, hp, hc⟩ := h.rd.1
  exact ⟨p, hp, (setCell_other (by omega)).trans hc⟩
 ·have h5 := (setCell_other (i := n * 12 + j) (v := v) hne).trans h.box
  unfold PartBox at h5 ⊢
  simpa only [List.length_set] using h5
theorem since_small {x : ProcD} {n : Nat} {v : Int} (h : q.pure.Small) (hx : q.procs[n]? = some x) (hv : (Lit.int .i64 v).wf = true) : ({ q with procs := q.procs.set n { x with since := v } } : PartD).pure.Small := by
 have hp := h.procs x.toProcP (pure_mem hx)
 refine ⟨by have h5 := h.nProc; simpa [PartD.pure] using h5, h.nSem, h.nEvent, h.nBoard, h.nBuffer, h.nPort, fun y hy => ?_, h.sems, h.events, h.boards, h.buffers, h.ports⟩
 obtain ⟨z, hz, rfl⟩ := List.mem_map.1 hy
 rcases List.mem_or_eq_of_mem_set hz with hz | rfl
 ·exact h.procs z.toProcP (List.mem_map.2 ⟨z, hz, rfl⟩)
 ·exact ⟨hp.1, hp.2.1, hp.2.2.1, hv⟩
theorem state_small {x : ProcD} {n : Nat} {v : Int} (h : q.pure.Small) (hx : q.procs[n]? = some x) : ({ q with procs := q.procs.set n { x with state := v } } : PartD).pure.Small := by
 have hp := h.procs x.toProcP (pure_mem hx)
 refine ⟨by have h5 := h.nProc; simpa [PartD.pure] using h5, h.nSem, h.nEvent, h.nBoard, h.nBuffer, h.nPort, fun y hy => ?_, h.sems, h.events, h.boards, h.buffers, h.ports⟩
 obtain ⟨z, hz, rfl⟩ := List.mem_map.1 hy
 rcases List.mem_or_eq_of_mem_set hz with hz | rfl
 ·exact h.procs z.toProcP (List.mem_map.2 ⟨z, hz, rfl⟩)
 ·exact ⟨hp.1, hp.2.1, hp.2.2.1, hp.2.2.2⟩
end
end Go.Proofs.YtkbcplnlehdjfaaGreat
