/- What the proof leans on, part 49: DwBare, DwPart. -/
import Derived.Test.YtkbcplnlehdjfaaGreatOwnCh1
import Derived.Test.YtkbcplnlehdjfaaGreatOwnCh48
import Derived.Deep.CutRange
import Derived.Laws.Rows
import Derived.Deep.Cut

namespace Go.Proofs.YtkbcplnlehdjfaaGreat
open Go.RowKit Go.Maps
attribute [local go_sem ↓] Go.wp_at_zero Go.wp_at_succ
set_option maxRecDepth 100000 in
set_option maxHeartbeats 16000000 in
theorem bare_any (r : Nat) (a : Option Addr) (len cap : Nat) (id : Int) (w : World) (hl : len ≤ 1048576) (hid : inB id 1 6 = true) (h : Rd r a len cap w) :
  Calls Tryz.prog 159 #[.pointer (some ⟨r, 0, none⟩), .int .i64 id] w fun e w' => ∃ q : PartD, e = .returned (.agg q.cells) ∧ PartOwn w' w.heap.size q ∧ q.pure.Small ∧ But r w w' ∧ Rd r a len cap w' := by
 have hcall := specPartNew_any id (w.alloc (.cells zero8 32))
 simp only [hid, if_true, partV] at hcall
 have h5 := (Below.refl w.heap.size w).alloc (Nat.le_refl _) (.cells zero8 32)
 have S : Hid (Rd r a len cap w ∧ Below w.heap.size w (w.alloc (.cells zero8 32)) ∧ (w.alloc (.cells zero8 32)).heap[w.heap.size]? = some (.cells zero8 32 (0, 0)) ∧ w.heap.size < (w.alloc (.cells zero8 32)).heap.size) := ⟨h, h5, heap_alloc_new _ _, by simp⟩
 clear h h5
 go_enter Tryz.func159, Tryz.ntmps159
 go_upto_region 1 with fail
 generalize w.alloc (.cells zero8 32) = A at *
 go_wp2_with fail
 refine hcall.mono ?_
 clear hcall
 rintro e A2 ⟨rfl, hb⟩
 have hba := (Below.refl A2.heap.size A2).alloc (Nat.le_refl _) (.cells #[.int .i64 id, .int .i64 1, .slice none 0 0, .slice none 0 0, .slice none 0 0, .slice none 0 0, .slice none 0 0, .slice none 0 0] 32)
 have HD : Hid (Dw r a len cap w A2.heap.size (⟨id, 1, [], none, 0, [], none, 0, [], none, 0, [], none, 0, [], none, 0, [], none, 0⟩ : PartD) (A2.alloc (.cells #[.int .i64 id, .int .i64 1, .slice none 0 0, .slice none 0 0, .slice none 0 0, .slice none 0 0, .slice none 0 0, .slice none 0 0] 32))) := by
  have hs := hb.size
  have h6 := S.out.2.1.trans ((hb.trans (hba.mono hs)).mono S.out.2.1.size)
  exact ⟨S.out.1.below h6, S.out.1, But.of_below h6, (own_zero (A2.alloc (.cells #[.int .i64 id, .int .i64 1, .slice none 0 0, .slice none 0 0, .slice none 0 0, .slice none 0 0, .slice none 0 0, .slice none 0 0] 32)) _).renum id 1, by simp [PartD.blocks, blk], new_small hid, heap_alloc_new _ _, ((hb.trans (hba.mono hs)).block _ S.out.2.2.2).trans S.out.2.2.1, by have := S.out.2.2.2; omega⟩
 clear hba hb S
 go_upto_region 2 with fail
 generalize A2.alloc (.cells #[.int .i64 id, .int .i64 1, .slice none 0 0, .slice none 0 0, .slice none 0 0, .slice none 0 0, .slice none 0 0, .slice none 0 0] 32) = B at *
 generalize A2.heap.size = X at *
 generalize hq0 : (⟨id, 1, [], none, 0, [], none, 0, [], none, 0, [], none, 0, [], none, 0, [], none, 0⟩ : PartD) = q0 at *
 clear hq0 hid
 go_wp2_with fail
 go_loopw [7] (fun i wr => ∃ (k : Int) (q : PartD), i = .int .i64 k ∧ 1 ≤ k ∧ k ≤ 3 ∧ Hid (Dw r a len cap w X q wr)) (fun i _ => (3 - Go.RowKit.intOf i).toNat)
 case atStart => exact ⟨1, q0, rfl, by omega, by omega, HD⟩
 case round =>
  clear HD
  obtain ⟨k, q, rfl, k0, k1, HD⟩ := hrel
  have hwf := wf_of (n := k) (by omega) (by omega)
  have hwf2 := wf_of (n := k + 2) (by omega) (by omega)
  by_cases hk : k ≤ 2
  ·skip
   go_upto_region 5 with fail
   go_cut [] from 18 to 30 (fun wx => ∃ q2 : PartD, Hid (Dw r a len cap w X q2 wx))
   case first =>
    replace HD := hided (HD.out.reads (Below.refl _ _).drew)
    refine wp_region_held_drew (S := fun _ => True) (by kernel_rfl) trivial (fun _ => ?_)
    generalize World.drew _ = V at *
    refine tk 1 (v := ?_) ?_ trivial ?_; rotate_left; (intro w0 hS0; go_simp; try with_reducible rfl); simp only [pt, sb, s0, s1]
    refine tk 2 (v := ?_) ?_ trivial ?_; rotate_left; (intro w0 hS0; go_simp; try with_reducible rfl); simp only [pt, sb, s0, s1]
    refine tk 4 (v := ?_) ?_ trivial ?_; rotate_left; (intro w0 hS0; go_simp; try with_reducible rfl); simp only [pt, sb, s0, s1]
    refine wpAnyH_ready (rs := [0, 3]) (by kernel_rfl) (by simp) ?_
    refine AllReadyH.cons rfl (fun K hK => ?_) (AllReadyH.cons rfl (fun K hK => ?_) AllReadyH.nil)
    focus
     simp only [List.getElem_toArray, List.getElem_cons_zero]
     rw [if_pos (by rfl)]
     refine wp_load_row 32 (.tmp 5) rfl X rfl 32 q.cells (0, 0) _ HD.out.box Tryz.underlying32 rfl (by kernel_rfl) ?_
     refine hK.out _ _ trivial (fun _ => ?_)
     clear hK K
     try simp only [pt, sb, s0, s1]
     refine wpAnyH_ready (rs := [3]) (by kernel_rfl) (by simp) ?_
     refine AllReadyH.cons rfl (fun K hK => ?_) AllReadyH.nil
     simp only [List.getElem_toArray, List.getElem_cons_zero, List.getElem_cons_succ]
     rw [if_pos (by rfl)]
     go_wp2_with fail
     refine (below_any r a len cap 2 _ hl (by omega) (by omega) HD.out.rd).mono ?_
     rintro e W1 ⟨u, ua, ub, rfl, hb1, hr1⟩
     replace HD := hided (HD.out.drawn hb1 hr1)
     clear hb1 hr1
     refine hK.out _ _ trivial (fun _ => ?_)
     clear hK K
     try simp only [pt, sb, s0, s1]
     refine wpAnyH_ready (rs := [5]) (by kernel_rfl) (by simp) ?_
     refine AllReadyH.cons rfl (fun K hK => ?_) AllReadyH.nil
     simp only [List.getElem_toArray, List.getElem_cons_zero, List.getElem_cons_succ]
     rw [if_pos (by rfl)]
     go_wp2_with fail
     refine (below_any r a len cap 2 _ hl (by omega) (by omega) HD.out.rd).mono ?_
     rintro e W2 ⟨v, va, vb, rfl, hb1, hr1⟩
     replace HD := hided (HD.out.drawn hb1 hr1)
     clear hb1 hr1
     refine hK.out _ _ trivial (fun _ => ?_)
     clear hK K
     try simp only [pt, sb, s0, s1]
     refine tk 6 (v := ?_) ?_ trivial ?_; rotate_left; (intro w0 hS0; go_simp; try with_reducible rfl); simp only [pt, sb, s0, s1]
     refine tk 7 (v := ?_) ?_ trivial ?_; rotate_left; (intro w0 hS0; go_simp; try with_reducible rfl); simp only [pt, sb, s0, s1]
    rotate_left
    focus
     simp only [List.getElem_toArray, List.getElem_cons_zero, List.getElem_cons_succ]
     rw [if_pos (by rfl)]
     go_wp2_with fail
     refine (below_any r a len cap 2 _ hl (by omega) (by omega) HD.out.rd).mono ?_
     rintro e W1 ⟨u, ua, ub, rfl, hb1, hr1⟩
     replace HD := hided (HD.out.drawn hb1 hr1)
     clear hb1 hr1
     refine hK.out _ _ trivial (fun _ => ?_)
     clear hK K
     try simp only [pt, sb, s0, s1]
     refine wpAnyH_ready (rs := [0, 5]) (by kernel_rfl) (by simp) ?_
     refine AllReadyH.cons rfl (fun K hK => ?_) (AllReadyH.cons rfl (fun K hK => ?_) AllReadyH.nil)
     focus
      simp only [List.getElem_toArray, List.getElem_cons_zero]
      rw [if_pos (by rfl)]
      refine wp_load_row 32 (.tmp 5) rfl X rfl 32 q.cells (0, 0) _ HD.out.box Tryz.underlying32 rfl (by kernel_rfl) ?_
      refine hK.out _ _ trivial (fun _ => ?_)
      clear hK K
      try simp only [pt, sb, s0, s1]
      refine wpAnyH_ready (rs := [5]) (by kernel_rfl) (by simp) ?_
      refine AllReadyH.cons rfl (fun K hK => ?_) AllReadyH.nil
      simp only [List.getElem_toArray, List.getElem_cons_zero, List.getElem_cons_succ]
      rw [if_pos (by rfl)]
      go_wp2_with fail
      refine (below_any r a len cap 2 _ hl (by omega) (by omega) HD.out.rd).mono ?_
      rintro e W2 ⟨v, va, vb, rfl, hb1, hr1⟩
      replace HD := hided (HD.out.drawn hb1 hr1)
      clear hb1 hr1
      refine hK.out _ _ trivial (fun _ => ?_)
      clear hK K
      try simp only [pt, sb, s0, s1]
      refine tk 6 (v := ?_) ?_ trivial ?_; rotate_left; (intro w0 hS0; go_simp; try with_reducible rfl); simp only [pt, sb, s0, s1]
      refine tk 7 (v := ?_) ?_ trivial ?_; rotate_left; (intro w0 hS0; go_simp; try with_reducible rfl); simp only [pt, sb, s0, s1]
     rotate_left
     focus
      simp only [List.getElem_toArray, List.getElem_cons_zero, List.getElem_cons_succ]
      rw [if_pos (by rfl)]
      go_wp2_with fail
      refine (below_any r a len cap 2 _ hl (by omega) (by omega) HD.out.rd).mono ?_
      rintro e W2 ⟨v, va, vb, rfl, hb1, hr1⟩
      replace HD := hided (HD.out.drawn hb1 hr1)
      clear hb1 hr1
      refine hK.out _ _ trivial (fun _ => ?_)
      clear hK K
      try simp only [pt, sb, s0, s1]
      refine tk 6 (v := ?_) ?_ trivial ?_; rotate_left; (intro w0 hS0; go_simp; try with_reducible rfl); simp only [pt, sb, s0, s1]
      refine tk 7 (v := ?_) ?_ trivial ?_; rotate_left; (intro w0 hS0; go_simp; try with_reducible rfl); simp only [pt, sb, s0, s1]
      refine wpAnyH_ready (rs := [0]) (by kernel_rfl) (by simp) ?_
      refine AllReadyH.cons rfl (fun K hK => ?_) AllReadyH.nil
      simp only [List.getElem_toArray, List.getElem_cons_zero]
      rw [if_pos (by rfl)]
      refine wp_load_row 32 (.tmp 5) rfl X rfl 32 q.cells (0, 0) _ HD.out.box Tryz.underlying32 rfl (by kernel_rfl) ?_
      refine hK.out _ _ trivial (fun _ => ?_)
      clear hK K
      try simp only [pt, sb, s0, s1]
    all_goals
     refine wpAnyH_ready (rs := [8]) (by kernel_rfl) (by simp) ?_
     refine AllReadyH.cons rfl (fun K hK => ?_) AllReadyH.nil
     simp only [List.getElem_toArray, List.getElem_cons_zero, List.getElem_cons_succ]
     rw [if_pos (by rfl)]
     go_wp2_with fail
     refine (specWithSem_any q ⟨k, u, _⟩ W2 (w.heap.size + 1) hwf HD.out.small HD.out.own).mono ?_
     rintro e Wa ⟨q2, rfl, ho, hp, hb⟩
     have HB := hided ((HD.out.reads hb).box)
     replace HD := hided (HD.out.put hb ho (by rw [hp]; exact withR_small))
     clear hb ho hp
     refine hK.out _ _ trivial (fun _ => ?_)
     clear hK K
     refine tk 9 (v := ?_) ?_ trivial ?_; rotate_left; (intro w0 hS0; go_simp; try with_reducible rfl); simp only [pt, sb, s0, s1]
     refine tk 10 (v := ?_) ?_ trivial ?_; rotate_left; (intro w0 hS0; go_simp; try with_reducible rfl); simp only [pt, sb, s0, s1]
     refine tk 11 (v := ?_) ?_ trivial ?_; rotate_left; (intro w0 hS0; go_simp; try with_reducible rfl); simp only [pt, sb, s0, s1]
     refine wpAnyH_ready (rs := [12]) (by kernel_rfl) (by simp) ?_
     refine AllReadyH.cons rfl (fun K hK => ?_) AllReadyH.nil
     simp only [List.getElem_toArray, List.getElem_cons_zero, List.getElem_cons_succ]
     rw [if_pos (by rfl)]
     refine wp_store_row 32 (.tmp 5) (.tmp 28) rfl X q2.cells rfl rfl _ _ HB.out (by kernel_rfl) rfl (by kernel_rfl) ?_
     refine hK.out _ _ trivial (fun _ => ?_)
     clear hK K
     refine wpAnyH_done (by kernel_rfl) ?_ _
     clear HB
     go_wp2_with fail
     go_meet
     exact ⟨q2, HD⟩
   case rest =>
    clear HD
    obtain ⟨qo, hqo⟩ : ∃ qo : PartD, qo = q := ⟨_, rfl⟩
    subst hqo
    obtain ⟨q, HD⟩ := hcut
    have hcall := specWithEvent_any q k _ (w.heap.size + 1) hwf HD.out.small HD.out.own
    go_wp2_with (refine wpList_load_row rfl 32 (.tmp 5) rfl X (by rfl) 32 q.cells (0, 0) _ HD.out.box Tryz.underlying32 rfl (by kernel_rfl) ?_)
    refine hcall.mono ?_
    clear hcall
    rintro e Wb1 ⟨q2, rfl, ho, hp, hb⟩
    have HB := hided ((HD.out.reads hb).box)
    replace HD := hided (HD.out.put hb ho (by rw [hp]; exact withR_small))
    clear hb ho hp
    go_upto_region 7 with (refine wpList_store_row rfl 32 (.tmp 5) (.tmp 34) rfl (X) _ _ q2.cells rfl rfl HB.out (by kernel_rfl) rfl (by kernel_rfl) ?_)
    generalize Wb1.setRow X q2.cells = Wc1 at *
    clear HB
    obtain ⟨qo, hqo⟩ : ∃ qo : PartD, qo = q := ⟨_, rfl⟩
    subst hqo
    obtain ⟨q, hqo⟩ : ∃ q : PartD, q = q2 := ⟨_, rfl⟩
    subst hqo
    have hcall := specWithBoard_any q k _ (w.heap.size + 1) hwf HD.out.small HD.out.own
    go_wp2_with (refine wpList_load_row rfl 32 (.tmp 5) rfl X (by rfl) 32 q.cells (0, 0) _ HD.out.box Tryz.underlying32 rfl (by kernel_rfl) ?_)
    refine hcall.mono ?_
    clear hcall
    rintro e Wb2 ⟨q2, rfl, ho, hp, hb⟩
    have HB := hided ((HD.out.reads hb).box)
    replace HD := hided (HD.out.put hb ho (by rw [hp]; exact withR_small))
    clear hb ho hp
    go_upto_region 8 with (refine wpList_store_row rfl 32 (.tmp 5) (.tmp 40) rfl (X) _ _ q2.cells rfl rfl HB.out (by kernel_rfl) rfl (by kernel_rfl) ?_)
    generalize Wb2.setRow X q2.cells = Wc2 at *
    clear HB
    obtain ⟨qo, hqo⟩ : ∃ qo : PartD, qo = q := ⟨_, rfl⟩
    subst hqo
    obtain ⟨q, hqo⟩ : ∃ q : PartD, q = q2 := ⟨_, rfl⟩
    subst hqo
    go_upto_region 8 with fail
    simp only [pn]
    go_cut [] from 42 to 51 (fun wx => ∃ q2 : PartD, Hid (Dw r a len cap w X q2 wx))
    case first =>
     replace HD := hided (HD.out.reads (Below.refl _ _).drew)
     refine wp_region_held_drew (S := fun _ => True) (by kernel_rfl) trivial (fun _ => ?_)
     generalize World.drew _ = V at *
     refine tk 1 (v := ?_) ?_ trivial ?_; rotate_left; (intro w0 hS0; go_simp; try with_reducible rfl); simp only [pt, sb, s0, s1]
     refine tk 2 (v := ?_) ?_ trivial ?_; rotate_left; (intro w0 hS0; go_simp; try with_reducible rfl); simp only [pt, sb, s0, s1]
     refine wpAnyH_ready (rs := [0, 3]) (by kernel_rfl) (by simp) ?_
     refine AllReadyH.cons rfl (fun K hK => ?_) (AllReadyH.cons rfl (fun K hK => ?_) AllReadyH.nil)
     focus
      simp only [List.getElem_toArray, List.getElem_cons_zero]
      rw [if_pos (by rfl)]
      refine wp_load_row 32 (.tmp 5) rfl X rfl 32 q.cells (0, 0) _ HD.out.box Tryz.underlying32 rfl (by kernel_rfl) ?_
      refine hK.out _ _ trivial (fun _ => ?_)
      clear hK K
      try simp only [pt, sb, s0, s1]
      refine wpAnyH_ready (rs := [3]) (by kernel_rfl) (by simp) ?_
      refine AllReadyH.cons rfl (fun K hK => ?_) AllReadyH.nil
      simp only [List.getElem_toArray, List.getElem_cons_zero, List.getElem_cons_succ]
      rw [if_pos (by rfl)]
      go_wp2_with fail
      refine (below_any r a len cap 2 _ hl (by omega) (by omega) HD.out.rd).mono ?_
      rintro e W2 ⟨u, ua, ub, rfl, hb1, hr1⟩
      replace HD := hided (HD.out.drawn hb1 hr1)
      clear hb1 hr1
      refine hK.out _ _ trivial (fun _ => ?_)
      clear hK K
      try simp only [pt, sb, s0, s1]
      refine tk 4 (v := ?_) ?_ trivial ?_; rotate_left; (intro w0 hS0; go_simp; try with_reducible rfl); simp only [pt, sb, s0, s1]
     rotate_left
     focus
      simp only [List.getElem_toArray, List.getElem_cons_zero, List.getElem_cons_succ]
      rw [if_pos (by rfl)]
      go_wp2_with fail
      refine (below_any r a len cap 2 _ hl (by omega) (by omega) HD.out.rd).mono ?_
      rintro e W2 ⟨u, ua, ub, rfl, hb1, hr1⟩
      replace HD := hided (HD.out.drawn hb1 hr1)
      clear hb1 hr1
      refine hK.out _ _ trivial (fun _ => ?_)
      clear hK K
      try simp only [pt, sb, s0, s1]
      refine tk 4 (v := ?_) ?_ trivial ?_; rotate_left; (intro w0 hS0; go_simp; try with_reducible rfl); simp only [pt, sb, s0, s1]
      refine wpAnyH_ready (rs := [0]) (by kernel_rfl) (by simp) ?_
      refine AllReadyH.cons rfl (fun K hK => ?_) AllReadyH.nil
      simp only [List.getElem_toArray, List.getElem_cons_zero]
      rw [if_pos (by rfl)]
      refine wp_load_row 32 (.tmp 5) rfl X rfl 32 q.cells (0, 0) _ HD.out.box Tryz.underlying32 rfl (by kernel_rfl) ?_
      refine hK.out _ _ trivial (fun _ => ?_)
      clear hK K
      try simp only [pt, sb, s0, s1]
     all_goals
      refine wpAnyH_ready (rs := [5]) (by kernel_rfl) (by simp) ?_
      refine AllReadyH.cons rfl (fun K hK => ?_) AllReadyH.nil
      simp only [List.getElem_toArray, List.getElem_cons_zero, List.getElem_cons_succ]
      rw [if_pos (by rfl)]
      go_wp2_with fail
      refine (specWithBuffer_any q k _ W2 (w.heap.size + 1) hwf HD.out.small HD.out.own).mono ?_
      rintro e Wa ⟨q2, rfl, ho, hp, hb⟩
      have HB := hided ((HD.out.reads hb).box)
      replace HD := hided (HD.out.put hb ho (by rw [hp]; exact withR_small))
      clear hb ho hp
      refine hK.out _ _ trivial (fun _ => ?_)
      clear hK K
      refine tk 6 (v := ?_) ?_ trivial ?_; rotate_left; (intro w0 hS0; go_simp; try with_reducible rfl); simp only [pt, sb, s0, s1]
      refine tk 7 (v := ?_) ?_ trivial ?_; rotate_left; (intro w0 hS0; go_simp; try with_reducible rfl); simp only [pt, sb, s0, s1]
      refine tk 8 (v := ?_) ?_ trivial ?_; rotate_left; (intro w0 hS0; go_simp; try with_reducible rfl); simp only [pt, sb, s0, s1]
      refine wpAnyH_ready (rs := [9]) (by kernel_rfl) (by simp) ?_
      refine AllReadyH.cons rfl (fun K hK => ?_) AllReadyH.nil
      simp only [List.getElem_toArray, List.getElem_cons_zero, List.getElem_cons_succ]
      rw [if_pos (by rfl)]
      refine wp_store_row 32 (.tmp 5) (.tmp 49) rfl X q2.cells rfl rfl _ _ HB.out (by kernel_rfl) rfl (by kernel_rfl) ?_
      refine hK.out _ _ trivial (fun _ => ?_)
      clear hK K
      refine wpAnyH_done (by kernel_rfl) ?_ _
      clear HB
      go_wp2_with fail
      go_meet
      exact ⟨q2, HD⟩
    case rest =>
     clear HD
     obtain ⟨qo, hqo⟩ : ∃ qo : PartD, qo = q := ⟨_, rfl⟩
     subst hqo
     obtain ⟨q, HD⟩ := hcut
     have hcall := specWithPort_any q ⟨⟨k, k == 1, true, 2, []⟩, none, 0⟩ _ (w.heap.size + 1) hwf HD.out.small HD.out.own
     go_wp2_with (refine wpList_load_row rfl 32 (.tmp 5) rfl X (by rfl) 32 q.cells (0, 0) _ HD.out.box Tryz.underlying32 rfl (by kernel_rfl) ?_)
     refine hcall.mono ?_
     clear hcall
     rintro e Wb3 ⟨q2, rfl, ho, hp, hb⟩
     have HB := hided ((HD.out.reads hb).box)
     replace HD := hided (HD.out.put hb ho (by rw [hp]; exact withR_small))
     clear hb ho hp
     go_upto_region 10 with (refine wpList_store_row rfl 32 (.tmp 5) (.tmp 58) rfl (X) _ _ q2.cells rfl rfl HB.out (by kernel_rfl) rfl (by kernel_rfl) ?_)
     generalize Wb3.setRow X q2.cells = Wc3 at *
     clear HB
     obtain ⟨qo, hqo⟩ : ∃ qo : PartD, qo = q := ⟨_, rfl⟩
     subst hqo
     obtain ⟨q, hqo⟩ : ∃ q : PartD, q = q2 := ⟨_, rfl⟩
     subst hqo
     have e2 : IntKind.wrap .i64 (k + 2) = k + 2 := by rw [IntKind.wrap_i64]; omega
     have hcall := specWithPort_any q ⟨⟨k + 2, k == 1, false, 1, []⟩, none, 0⟩ _ (w.heap.size + 1) hwf2 HD.out.small HD.out.own
     go_wp2_with (refine wpList_load_row rfl 32 (.tmp 5) rfl X (by rfl) 32 q.cells (0, 0) _ HD.out.box Tryz.underlying32 rfl (by kernel_rfl) ?_)
     refine hcall.mono ?_
     clear hcall
     rintro e Wb4 ⟨q2, rfl, ho, hp, hb⟩
     have HB := hided ((HD.out.reads hb).box)
     replace HD := hided (HD.out.put hb ho (by rw [hp]; exact withR_small))
     clear hb ho hp
     go_upto_region 4 with (refine wpList_store_row rfl 32 (.tmp 5) (.tmp 68) rfl (X) _ _ q2.cells rfl rfl HB.out (by kernel_rfl) rfl (by kernel_rfl) ?_)
     generalize Wb4.setRow X q2.cells = Wc4 at *
     clear HB
     obtain ⟨qo, hqo⟩ : ∃ qo : PartD, qo = q := ⟨_, rfl⟩
     subst hqo
     obtain ⟨q, hqo⟩ : ∃ q : PartD, q = q2 := ⟨_, rfl⟩
     subst hqo
     have e3 : IntKind.wrap .i64 (k + 1) = k + 1 := by rw [IntKind.wrap_i64]; omega
     go_wp2_with fail
     go_roundw
     case rel => exact ⟨k + 1, q, rfl, by omega, by omega, HD⟩
     case measure => simp [Go.RowKit.intOf]; omega
  clear hwf hwf2
  go_wp2_with fail
  refine (below_any r a len cap 3 _ hl (by omega) (by omega) HD.out.rd).mono ?_
  rintro e W1 ⟨u, ua, ub, rfl, hb1, hr1⟩
  replace HD := hided (HD.out.drawn hb1 hr1)
  clear hb1 hr1
  have e1 : IntKind.wrap .i64 (1 + u) = 1 + u := by rw [IntKind.wrap_i64]; omega
  go_wp2_with fail
  go_loopw [8] (fun i wr => ∃ (k : Int) (q : PartD), i = .int .i64 k ∧ 0 ≤ k ∧ k ≤ 3 ∧ Hid (Dw r a len cap w X q wr)) (fun i _ => (Go.RowKit.intOf i).toNat)
  case atStart => exact ⟨1 + u, q, rfl, by omega, by omega, HD⟩
  case round =>
   clear HD
   obtain ⟨qo, hqo⟩ : ∃ qo : PartD, qo = q := ⟨_, rfl⟩
   subst hqo
   obtain ⟨ko, hko⟩ : ∃ ko : Int, ko = k := ⟨_, rfl⟩
   subst hko
   obtain ⟨k, q, rfl, kz, kt, HD⟩ := hrel
   have hwf := wf_of (n := k) (by omega) (by omega)
   by_cases hk2 : 0 < k
   ·skip
    go_upto_region 14 with fail
    go_cut [] from 77 to 88 (fun wx => ∃ q2 : PartD, Hid (Dw r a len cap w X q2 wx))
    case first =>
     replace HD := hided (HD.out.reads (Below.refl _ _).drew)
     refine wp_region_held_drew (S := fun _ => True) (by kernel_rfl) trivial (fun _ => ?_)
     generalize World.drew _ = V at *
     refine tk 1 (v := ?_) ?_ trivial ?_; rotate_left; (intro w0 hS0; go_simp; try with_reducible rfl); simp only [pt, sb, s0, s1]
     refine tk 2 (v := ?_) ?_ trivial ?_; rotate_left; (intro w0 hS0; go_simp; try with_reducible rfl); simp only [pt, sb, s0, s1]
     refine tk 5 (v := ?_) ?_ trivial ?_; rotate_left; (intro w0 hS0; go_simp; try with_reducible rfl); simp only [pt, sb, s0, s1]
     refine wpAnyH_ready (rs := [0, 3]) (by kernel_rfl) (by simp) ?_
     refine AllReadyH.cons rfl (fun K hK => ?_) (AllReadyH.cons rfl (fun K hK => ?_) AllReadyH.nil)
     focus
      simp only [List.getElem_toArray, List.getElem_cons_zero]
      rw [if_pos (by rfl)]
      refine wp_load_row 32 (.tmp 5) rfl X rfl 32 q.cells (0, 0) _ HD.out.box Tryz.underlying32 rfl (by kernel_rfl) ?_
      refine hK.out _ _ trivial (fun _ => ?_)
      clear hK K
      try simp only [pt, sb, s0, s1]
      refine wpAnyH_ready (rs := [3]) (by kernel_rfl) (by simp) ?_
      refine AllReadyH.cons rfl (fun K hK => ?_) AllReadyH.nil
      simp only [List.getElem_toArray, List.getElem_cons_zero, List.getElem_cons_succ]
      rw [if_pos (by rfl)]
      go_wp2_with fail
      refine (below_any r a len cap 3 _ hl (by omega) (by omega) HD.out.rd).mono ?_
      rintro e W3 ⟨v, va, vb, rfl, hb1, hr1⟩
      replace HD := hided (HD.out.drawn hb1 hr1)
      clear hb1 hr1
      refine hK.out _ _ trivial (fun _ => ?_)
      clear hK K
      try simp only [pt, sb, s0, s1]
      refine tk 4 (v := ?_) ?_ trivial ?_; rotate_left; (intro w0 hS0; go_simp; try with_reducible rfl); simp only [pt, sb, s0, s1]
      refine wpAnyH_ready (rs := [6]) (by kernel_rfl) (by simp) ?_
      refine AllReadyH.cons rfl (fun K hK => ?_) AllReadyH.nil
      simp only [List.getElem_toArray, List.getElem_cons_zero, List.getElem_cons_succ]
      rw [if_pos (by rfl)]
      go_wp2_with fail
      refine (prog_any r a len cap _ hl HD.out.rd).mono ?_
      rintro e W2 ⟨g, c, os, rfl, hos, hpg⟩
      have HPG := hided (And.intro hos hpg)
      replace HD := hided (HD.out.drawn hpg.but hpg.rd)
      clear hos hpg
      refine hK.out _ _ trivial (fun _ => ?_)
      clear hK K
      try simp only [pt, sb, s0, s1]
     rotate_left
     focus
      simp only [List.getElem_toArray, List.getElem_cons_zero, List.getElem_cons_succ]
      rw [if_pos (by rfl)]
      go_wp2_with fail
      refine (below_any r a len cap 3 _ hl (by omega) (by omega) HD.out.rd).mono ?_
      rintro e W3 ⟨v, va, vb, rfl, hb1, hr1⟩
      replace HD := hided (HD.out.drawn hb1 hr1)
      clear hb1 hr1
      refine hK.out _ _ trivial (fun _ => ?_)
      clear hK K
      try simp only [pt, sb, s0, s1]
      refine tk 4 (v := ?_) ?_ trivial ?_; rotate_left; (intro w0 hS0; go_simp; try with_reducible rfl); simp only [pt, sb, s0, s1]
      refine wpAnyH_ready (rs := [0, 6]) (by kernel_rfl) (by simp) ?_
      refine AllReadyH.cons rfl (fun K hK => ?_) (AllReadyH.cons rfl (fun K hK => ?_) AllReadyH.nil)
      focus
       simp only [List.getElem_toArray, List.getElem_cons_zero]
       rw [if_pos (by rfl)]
       refine wp_load_row 32 (.tmp 5) rfl X rfl 32 q.cells (0, 0) _ HD.out.box Tryz.underlying32 rfl (by kernel_rfl) ?_
       refine hK.out _ _ trivial (fun _ => ?_)
       clear hK K
       try simp only [pt, sb, s0, s1]
       refine wpAnyH_ready (rs := [6]) (by kernel_rfl) (by simp) ?_
       refine AllReadyH.cons rfl (fun K hK => ?_) AllReadyH.nil
       simp only [List.getElem_toArray, List.getElem_cons_zero, List.getElem_cons_succ]
       rw [if_pos (by rfl)]
       go_wp2_with fail
       refine (prog_any r a len cap _ hl HD.out.rd).mono ?_
       rintro e W2 ⟨g, c, os, rfl, hos, hpg⟩
       have HPG := hided (And.intro hos hpg)
       replace HD := hided (HD.out.drawn hpg.but hpg.rd)
       clear hos hpg
       refine hK.out _ _ trivial (fun _ => ?_)
       clear hK K
       try simp only [pt, sb, s0, s1]
      rotate_left
      focus
       simp only [List.getElem_toArray, List.getElem_cons_zero, List.getElem_cons_succ]
       rw [if_pos (by rfl)]
       go_wp2_with fail
       refine (prog_any r a len cap _ hl HD.out.rd).mono ?_
       rintro e W2 ⟨g, c, os, rfl, hos, hpg⟩
       have HPG := hided (And.intro hos hpg)
       replace HD := hided (HD.out.drawn hpg.but hpg.rd)
       clear hos hpg
       refine hK.out _ _ trivial (fun _ => ?_)
       clear hK K
       try simp only [pt, sb, s0, s1]
       refine wpAnyH_ready (rs := [0]) (by kernel_rfl) (by simp) ?_
       refine AllReadyH.cons rfl (fun K hK => ?_) AllReadyH.nil
       simp only [List.getElem_toArray, List.getElem_cons_zero]
       rw [if_pos (by rfl)]
       refine wp_load_row 32 (.tmp 5) rfl X rfl 32 q.cells (0, 0) _ HD.out.box Tryz.underlying32 rfl (by kernel_rfl) ?_
       refine hK.out _ _ trivial (fun _ => ?_)
       clear hK K
       try simp only [pt, sb, s0, s1]
     all_goals
      refine wpAnyH_ready (rs := [7]) (by kernel_rfl) (by simp) ?_
      refine AllReadyH.cons rfl (fun K hK => ?_) AllReadyH.nil
      simp only [List.getElem_toArray, List.getElem_cons_zero, List.getElem_cons_succ]
      rw [if_pos (by rfl)]
      go_wp2_with fail
      refine (specWithProc_any q k _ (some ⟨g, 0, none⟩) os c W2 (w.heap.size + 1) hwf ⟨by have := HPG.out.1; omega, fun o ho => by have := HPG.out.2.sz o ho; omega⟩ (by rw [← cells_flat]; exact own_row HPG.out.2.own) HD.out.small HD.out.own).mono ?_
      rintro e Wa ⟨q2, rfl, ho, hp, hb⟩
      have HB := hided ((HD.out.reads hb).box)
      replace HD := hided (HD.out.put hb ho (by rw [hp]; exact withR_small))
      clear hb ho hp
      refine hK.out _ _ trivial (fun _ => ?_)
      clear hK K
      refine tk 8 (v := ?_) ?_ trivial ?_; rotate_left; (intro w0 hS0; go_simp; try with_reducible rfl); simp only [pt, sb, s0, s1]
      refine tk 9 (v := ?_) ?_ trivial ?_; rotate_left; (intro w0 hS0; go_simp; try with_reducible rfl); simp only [pt, sb, s0, s1]
      refine tk 10 (v := ?_) ?_ trivial ?_; rotate_left; (intro w0 hS0; go_simp; try with_reducible rfl); simp only [pt, sb, s0, s1]
      refine wpAnyH_ready (rs := [11]) (by kernel_rfl) (by simp) ?_
      refine AllReadyH.cons rfl (fun K hK => ?_) AllReadyH.nil
      simp only [List.getElem_toArray, List.getElem_cons_zero, List.getElem_cons_succ]
      rw [if_pos (by rfl)]
      refine wp_store_row 32 (.tmp 5) (.tmp 86) rfl X q2.cells rfl rfl _ _ HB.out (by kernel_rfl) rfl (by kernel_rfl) ?_
      refine hK.out _ _ trivial (fun _ => ?_)
      clear hK K
      refine wpAnyH_done (by kernel_rfl) ?_ _
      clear HB
      go_wp2_with fail
      go_meet
      exact ⟨q2, HD⟩
    case rest =>
     clear HD
     obtain ⟨qo, hqo⟩ : ∃ qo : PartD, qo = q := ⟨_, rfl⟩
     subst hqo
     obtain ⟨q, HD⟩ := hcut
     go_wp2_with fail
     refine (once_any r a len cap 3 _ hl (by omega) (by omega) HD.out.rd).mono ?_
     rintro e W4 ⟨b, rfl, hb1, hr1⟩
     replace HD := hided (HD.out.drawn hb1 hr1)
     clear hb1 hr1
     have e3 : IntKind.wrap .i64 (k - 1) = k - 1 := by rw [IntKind.wrap_i64]; omega
     cases b
     ·skip
      have hcall := specStarted_any q k W4 (small_fit HD.out.small) (fun x hx => (small_proc HD.out.small hx).1) HD.out.own.at
      go_wp2_with (refine wpList_load_row rfl 32 (.tmp 5) rfl X (by rfl) 32 q.cells (0, 0) _ HD.out.box Tryz.underlying32 rfl (by kernel_rfl) ?_)
      refine hcall.mono ?_
      clear hcall
      rintro e Wb5 ⟨q2, rfl, ho, hp, hb⟩
      have HB := hided ((HD.out.reads hb).box)
      replace HD := hided (HD.out.put hb ho (by rw [hp]; exact started_small HD.out.small))
      clear hb ho hp
      go_upto_region 13 with (refine wpList_store_row rfl 32 (.tmp 5) (.tmp 95) rfl (X) _ _ q2.cells rfl rfl HB.out (by kernel_rfl) rfl (by kernel_rfl) ?_)
      generalize Wb5.setRow X q2.cells = Wc5 at *
      clear HB
      obtain ⟨qo, hqo⟩ : ∃ qo : PartD, qo = q := ⟨_, rfl⟩
      subst hqo
      obtain ⟨q, hqo⟩ : ∃ q : PartD, q = q2 := ⟨_, rfl⟩
      subst hqo
      go_wp2_with fail
      go_roundw
      case rel => exact ⟨k - 1, q, rfl, by omega, by omega, HD⟩
      case measure => simp [Go.RowKit.intOf]; omega
     ·go_wp2_with fail
      go_roundw
      case rel => exact ⟨k - 1, q, rfl, by omega, by omega, HD⟩
      case measure => simp [Go.RowKit.intOf]; omega
   go_wp2_with (first | (refine wpList_load_row rfl 32 (.tmp 5) rfl X (by rfl) 32 q.cells (0, 0) _ HD.out.box Tryz.underlying32 rfl (by kernel_rfl) ?_) | (refine wpList_store_row rfl 32 (.tmp 4) (.tmp 97) rfl (w.heap.size) _ _ q.cells rfl rfl HD.out.ans (by kernel_rfl) rfl (by kernel_rfl) ?_))
   refine bodyPost_ret (v := .agg q.cells) (results_cell_row Tryz.results159 _ _ (w.heap.size) _ _ (0, 0) _ rfl (setRow_heap _ _ _ _ _ _ HD.out.ans) Tryz.underlying32 rfl (by kernel_rfl)) rfl ?_
   have hx := HD.out.hx
   have hl := HD.out.st.lt
   refine ⟨q, rfl, (HD.out.own.lower (by omega)).same fun g hg => setRow_other _ _ _ _ (by have := (HD.out.own.lt g hg).1; omega), HD.out.small, HD.out.but.setRow (Nat.le_refl _) _, ⟨?_, HD.out.st.2.but (HD.out.but.setRow (Nat.le_refl _) _)⟩⟩
   obtain ⟨p, hp, hc⟩ := HD.out.rd.1
   exact ⟨p, hp, (setRow_other _ _ _ _ (by omega)).trans hc⟩
end Go.Proofs.YtkbcplnlehdjfaaGreat

/- A drawn partition that ran a little. (Made by mkpart.py.) -/
namespace Go.Proofs.YtkbcplnlehdjfaaGreat
open Go.RowKit Go.Maps
attribute [local go_sem ↓] Go.wp_at_zero Go.wp_at_succ
set_option maxRecDepth 100000 in
set_option maxHeartbeats 16000000 in
theorem part_any (r : Nat) (a : Option Addr) (len cap : Nat) (w : World) (hl : len ≤ 1048576) (h : Rd r a len cap w) :
  Calls Tryz.prog 81 #[.pointer (some ⟨r, 0, none⟩)] w fun e w' => ∃ (q : PartD) (now : Int), e = .returned (.tuple #[.agg q.cells, .int .i64 now]) ∧ (0 ≤ now ∧ now ≤ 26) ∧ PartOwn w' w.heap.size q ∧ q.pure.Small ∧ But r w w' ∧ Rd r a len cap w' := by
 have h5 := (Below.refl w.heap.size w).alloc (Nat.le_refl _) (.cells zero8 32)
 have S : Hid (Rd r a len cap w ∧ Rd r a len cap (w.alloc (.cells zero8 32)) ∧ But r w (w.alloc (.cells zero8 32)) ∧ (w.alloc (.cells zero8 32)).heap[w.heap.size]? = some (.cells zero8 32 (0, 0)) ∧ (w.alloc (.cells zero8 32)).heap.size = w.heap.size + 1) := ⟨h, h.below h5, But.of_below h5, heap_alloc_new _ _, by simp⟩
 clear h h5
 go_enter Tryz.func81, Tryz.ntmps81
 go_upto_region 1 with fail
 generalize w.alloc (.cells zero8 32) = A at *
 go_wp2_with fail
 refine (bare_any r a len cap 1 A hl rfl S.out.2.1).mono ?_
 rintro e A2 ⟨q, rfl, ho, hs, hb, hr⟩
 have HD : Hid (Dw r a len cap w A2.heap.size q ((A2.alloc (.cells zero8 32)).setRow A2.heap.size q.cells)) := by
  have hz := S.out.2.2.2.2
  have hrl := S.out.1.lt
  exact Dw.first hr S.out.1 (S.out.2.2.1.trans hb) (ho.lower (by omega)) hs ((hb.block _ (by omega) (by omega)).trans S.out.2.2.2.1)
 clear ho hs hb hr S
 go_upto_region 2 with (refine wpList_store_row rfl 32 (.tmp 4) (.tmp 8) rfl _ _ _ q.cells rfl rfl (heap_alloc_new _ _) (by kernel_rfl) rfl (by kernel_rfl) ?_)
 generalize (A2.alloc (.cells zero8 32)).setRow A2.heap.size q.cells = B at *
 generalize A2.heap.size = X at *
 go_wp2_with fail
 refine (below_any r a len cap 14 _ hl (by omega) (by omega) HD.out.rd).mono ?_
 rintro e B1 ⟨u, ua, ub, rfl, hb1, hr1⟩
 replace HD := hided (HD.out.drawn hb1 hr1)
 clear hb1 hr1
 go_wp2_with fail
 go_loopw [5, 6] (fun n i wr => ∃ (k now : Int) (q : PartD), i = .int .i64 k ∧ n = .int .i64 now ∧ 0 ≤ k ∧ k ≤ 13 ∧ 0 ≤ now ∧ now + 2 * k ≤ 26 ∧ Hid (Dw r a len cap w X q wr)) (fun _ i _ => (Go.RowKit.intOf i).toNat)
 case atStart => exact ⟨u, 0, q, rfl, rfl, ua, by omega, by omega, by omega, HD⟩
 case round =>
  clear HD
  obtain ⟨qo, hqo⟩ : ∃ qo : PartD, qo = q := ⟨_, rfl⟩
  subst hqo
  obtain ⟨k, now, q, rfl, rfl, k0, k1, n0, n1, HD⟩ := hrel
  by_cases hk : 0 < k
  ·have hcall := specTicked_any q now _ (small_fit HD.out.small) (fun x hx => (small_proc HD.out.small hx).1) HD.out.own.at
   go_wp2_with (refine wpList_load_row rfl 32 (.tmp 4) rfl X (by rfl) 32 q.cells (0, 0) _ HD.out.box Tryz.underlying32 rfl (by kernel_rfl) ?_)
   refine hcall.mono ?_
   clear hcall
   rintro e W1 ⟨q2, rfl, ho, hp, hb⟩
   have HB := hided ((HD.out.reads hb).box)
   replace HD := hided (HD.out.put hb ho (by rw [hp]; exact ticked_small))
   clear hb ho hp
   go_upto_region 7 with (refine wpList_store_row rfl 32 (.tmp 4) (.tmp 19) rfl (X) _ _ q2.cells rfl rfl HB.out (by kernel_rfl) rfl (by kernel_rfl) ?_)
   generalize W1.setRow X q2.cells = W2 at *
   clear HB
   have e3 : IntKind.wrap .i64 (k - 1) = k - 1 := by rw [IntKind.wrap_i64]; omega
   go_wp2_with fail
   refine (below_any r a len cap 2 _ hl (by omega) (by omega) HD.out.rd).mono ?_
   rintro e W3 ⟨v, va, vb, rfl, hb1, hr1⟩
   replace HD := hided (HD.out.drawn hb1 hr1)
   clear hb1 hr1
   have e4 : IntKind.wrap .i64 (1 + v) = 1 + v := by rw [IntKind.wrap_i64]; omega
   have e5 : IntKind.wrap .i64 (now + (1 + v)) = now + (1 + v) := by rw [IntKind.wrap_i64]; omega
   go_wp2_with fail
   go_roundw
   case rel => exact ⟨k - 1, now + (1 + v), q2, rfl, rfl, by omega, by omega, by omega, by omega, HD⟩
   case measure => simp [Go.RowKit.intOf]; omega
  go_wp2_with fail
  refine (below_any r a len cap 40 _ hl (by omega) (by omega) HD.out.rd).mono ?_
  rintro e W3 ⟨v, va, vb, rfl, hb1, hr1⟩
  replace HD := hided (HD.out.drawn hb1 hr1)
  clear hb1 hr1
  by_cases h38 : v = 38
  ·have e1 : (v == 38) = true := by simp [h38]
   clear h38
   rcases hps : q.procs with _ | ⟨x, xs⟩
   ·have il : (q.procs.length : Int) = 0 := by rw [hps]; rfl
    have m2 := HD.out.box.cells.2.2.1
    rw [hps] at m2
    simp only [List.length_nil] at m2
    clear il hps
    go_wp2_with (first | (refine wpList_load_row rfl 32 (.tmp 4) rfl X (by rfl) 32 q.cells (0, 0) _ HD.out.box Tryz.underlying32 rfl (by kernel_rfl) ?_) | (refine wpList_store_row rfl 32 (.tmp 2) (.tmp 52) rfl (w.heap.size) _ _ q.cells rfl rfl HD.out.ans (by kernel_rfl) rfl (by kernel_rfl) ?_))
    refine bodyPost_ret (v := .tuple #[.agg q.cells, .int .i64 now]) (results_row_tmp Tryz.results81 _ _ (w.heap.size) _ _ _ _ (by rfl) (setRow_heap _ _ _ _ _ _ HD.out.ans) Tryz.underlying32 rfl (by kernel_rfl)) rfl ?_
    have hx := HD.out.hx
    have hl := HD.out.st.lt
    refine ⟨q, now, rfl, ⟨n0, by omega⟩, (HD.out.own.lower (by omega)).same fun g hg => setRow_other _ _ _ _ (by have := (HD.out.own.lt g hg).1; omega), HD.out.small, HD.out.but.setRow (Nat.le_refl _) _, ⟨?_, HD.out.st.2.but (HD.out.but.setRow (Nat.le_refl _) _)⟩⟩
    obtain ⟨p, hp, hc⟩ := HD.out.rd.1
    exact ⟨p, hp, (setRow_other _ _ _ _ (by omega)).trans hc⟩
   have hx : q.procs[0]? = some x := by rw [hps]; rfl
   have il : 0 < q.procs.length := by rw [hps]; simp
   have il2 : (0 : Int) < (q.procs.length : Int) := by omega
   have il3 : ¬ q.procs.length = 0 := by omega
   have HX : Hid (q.procs[0]? = some x) := hx
   clear hps hx
   obtain ⟨gs, ha, -⟩ := proc_at HD.out.own.at.1 HX.out
   have m2 := HD.out.box.cells.2.2.1
   rw [ha] at m2
   have HA : Hid (q.procA = some ⟨gs, 0, none⟩) := ha
   clear ha
   go_upto_region 11 with fail
   clear m2
   replace HD := hided (HD.out.reads (Below.refl _ _).drew)
   refine wp_region_held_drew (S := fun w' => PartBox w' X q) (by kernel_rfl) HD.out.box (fun hHeld => ?_)
   generalize World.drew _ = V at *
   refine tk 0 (v := ?_) ?_ hHeld ?_; rotate_left; (intro w0 hS0; have q0 := hS0.cells.2.2.1; rw [HA.out] at q0; go_simp; try with_reducible rfl); simp only [pt, sb, s0, s1]
   refine tk 1 (v := ?_) ?_ hHeld ?_; rotate_left; (intro w0 hS0; have q0 := hS0.cells.2.2.1; rw [HA.out] at q0; go_simp; try with_reducible rfl); simp only [pt, sb, s0, s1]
   refine tk 2 (v := ?_) ?_ hHeld ?_; rotate_left; (intro w0 hS0; have q0 := hS0.cells.2.2.1; rw [HA.out] at q0; go_simp; try with_reducible rfl); simp only [pt, sb, s0, s1]
   clear hHeld
   refine wpAnyH_ready (rs := [3]) (by kernel_rfl) (by simp) ?_
   refine AllReadyH.cons rfl (fun K hK => ?_) AllReadyH.nil
   simp only [List.getElem_toArray, List.getElem_cons_zero, List.getElem_cons_succ]
   rw [if_pos (by rfl)]
   go_wp2_with fail
   refine (off_wf r a len cap 0 3 _ hl (by omega) (by omega) (by omega) HD.out.rd).mono ?_
   rintro e V2 ⟨z, rfl, hzw, hb1, hr1⟩
   replace HD := hided (HD.out.drawn hb1 hr1)
   have HZ : Hid ((Lit.int .i64 z).wf = true) := hzw
   clear hb1 hr1 hzw
   refine hK.out _ _ HD.out.box (fun hHeld => ?_)
   clear hK K
   try simp only [pt, sb, s0, s1]
   refine tk 4 (v := ?_) ?_ hHeld ?_; rotate_left; (intro w0 hS0; have q0 := hS0.cells.2.2.1; rw [HA.out] at q0; go_simp; try with_reducible rfl); simp only [pt, sb, s0, s1]
   refine tk 5 (v := ?_) ?_ hHeld ?_; rotate_left; (intro w0 hS0; have q0 := hS0.cells.2.2.1; rw [HA.out] at q0; go_simp; try with_reducible rfl); simp only [pt, sb, s0, s1]
   clear hHeld
   obtain ⟨s1, ⟨u9, c⟩, f⟩ := HD.out.cell (n := 0) (j := 11) (v := .int .i64 z) (y := { x with since := z }) HX.out HA.out ⟨rfl, rfl, rfl⟩ (by decide) rfl (since_small HD.out.small HX.out HZ.out)
   simp only [Nat.zero_mul, Nat.zero_add] at s1 c f
   have HS := hided s1
   clear s1
   refine wpAnyH_ready (rs := [6]) (by kernel_rfl) (by simp) ?_
   refine AllReadyH.cons rfl (fun K hK => ?_) AllReadyH.nil
   simp only [List.getElem_toArray, List.getElem_cons_zero, List.getElem_cons_succ]
   rw [if_pos (by rfl)]
   go_wp2_with fail
   refine hK.out _ _ (by have h5 := HS.out.box; unfold PartBox at h5 ⊢; simpa only [List.length_set] using h5) (fun hHeld => ?_)
   clear hK K
   refine wpAnyH_done (by kernel_rfl) ?_ _
   clear c f u9 HD hHeld
   have HD := HS
   clear HS
   obtain ⟨q9, hq9⟩ : ∃ q9 : PartD, q9 = { q with procs := q.procs.set 0 { x with since := z } } := ⟨_, rfl⟩
   rw [← hq9] at HD
   clear hq9
   go_upto_region 15 with fail
   generalize V2.setCell ⟨gs, 11, none⟩ (.int .i64 z) = V3 at *
   go_wp2_with (first | (refine wpList_load_row rfl 32 (.tmp 4) rfl X (by rfl) 32 q9.cells (0, 0) _ HD.out.box Tryz.underlying32 rfl (by kernel_rfl) ?_) | (refine wpList_store_row rfl 32 (.tmp 2) (.tmp 52) rfl (w.heap.size) _ _ q9.cells rfl rfl HD.out.ans (by kernel_rfl) rfl (by kernel_rfl) ?_))
   refine bodyPost_ret (v := .tuple #[.agg q9.cells, .int .i64 now]) (results_row_tmp Tryz.results81 _ _ (w.heap.size) _ _ _ _ (by rfl) (setRow_heap _ _ _ _ _ _ HD.out.ans) Tryz.underlying32 rfl (by kernel_rfl)) rfl ?_
   have hx := HD.out.hx
   have hl := HD.out.st.lt
   refine ⟨q9, now, rfl, ⟨n0, by omega⟩, (HD.out.own.lower (by omega)).same fun g hg => setRow_other _ _ _ _ (by have := (HD.out.own.lt g hg).1; omega), HD.out.small, HD.out.but.setRow (Nat.le_refl _) _, ⟨?_, HD.out.st.2.but (HD.out.but.setRow (Nat.le_refl _) _)⟩⟩
   obtain ⟨p, hp, hc⟩ := HD.out.rd.1
   exact ⟨p, hp, (setRow_other _ _ _ _ (by omega)).trans hc⟩
  have e1 : (v == 38) = false := by simp [h38]
  clear h38
  by_cases h39 : v = 39
  ·have e2 : (v == 39) = true := by simp [h39]
   clear h39
   rcases hps : q.procs with _ | ⟨x, xs⟩
   ·have il : (q.procs.length : Int) = 0 := by rw [hps]; rfl
    have m2 := HD.out.box.cells.2.2.1
    rw [hps] at m2
    simp only [List.length_nil] at m2
    clear il hps
    go_wp2_with (first | (refine wpList_load_row rfl 32 (.tmp 4) rfl X (by rfl) 32 q.cells (0, 0) _ HD.out.box Tryz.underlying32 rfl (by kernel_rfl) ?_) | (refine wpList_store_row rfl 32 (.tmp 2) (.tmp 52) rfl (w.heap.size) _ _ q.cells rfl rfl HD.out.ans (by kernel_rfl) rfl (by kernel_rfl) ?_))
    refine bodyPost_ret (v := .tuple #[.agg q.cells, .int .i64 now]) (results_row_tmp Tryz.results81 _ _ (w.heap.size) _ _ _ _ (by rfl) (setRow_heap _ _ _ _ _ _ HD.out.ans) Tryz.underlying32 rfl (by kernel_rfl)) rfl ?_
    have hx := HD.out.hx
    have hl := HD.out.st.lt
    refine ⟨q, now, rfl, ⟨n0, by omega⟩, (HD.out.own.lower (by omega)).same fun g hg => setRow_other _ _ _ _ (by have := (HD.out.own.lt g hg).1; omega), HD.out.small, HD.out.but.setRow (Nat.le_refl _) _, ⟨?_, HD.out.st.2.but (HD.out.but.setRow (Nat.le_refl _) _)⟩⟩
    obtain ⟨p, hp, hc⟩ := HD.out.rd.1
    exact ⟨p, hp, (setRow_other _ _ _ _ (by omega)).trans hc⟩
   have hx : q.procs[0]? = some x := by rw [hps]; rfl
   have il : 0 < q.procs.length := by rw [hps]; simp
   have il2 : (0 : Int) < (q.procs.length : Int) := by omega
   have il3 : ¬ q.procs.length = 0 := by omega
   have HX : Hid (q.procs[0]? = some x) := hx
   clear hps hx
   obtain ⟨gs, ha, -⟩ := proc_at HD.out.own.at.1 HX.out
   have m2 := HD.out.box.cells.2.2.1
   rw [ha] at m2
   have HA : Hid (q.procA = some ⟨gs, 0, none⟩) := ha
   clear ha
   go_upto_region 14 with fail
   clear m2
   replace HD := hided (HD.out.reads (Below.refl _ _).drew)
   refine wp_region_held_drew (S := fun w' => PartBox w' X q) (by kernel_rfl) HD.out.box (fun hHeld => ?_)
   generalize World.drew _ = V at *
   refine tk 0 (v := ?_) ?_ hHeld ?_; rotate_left; (intro w0 hS0; have q0 := hS0.cells.2.2.1; rw [HA.out] at q0; go_simp; try with_reducible rfl); simp only [pt, sb, s0, s1]
   refine tk 1 (v := ?_) ?_ hHeld ?_; rotate_left; (intro w0 hS0; have q0 := hS0.cells.2.2.1; rw [HA.out] at q0; go_simp; try with_reducible rfl); simp only [pt, sb, s0, s1]
   refine tk 2 (v := ?_) ?_ hHeld ?_; rotate_left; (intro w0 hS0; have q0 := hS0.cells.2.2.1; rw [HA.out] at q0; go_simp; try with_reducible rfl); simp only [pt, sb, s0, s1]
   clear hHeld
   refine wpAnyH_ready (rs := [3]) (by kernel_rfl) (by simp) ?_
   refine AllReadyH.cons rfl (fun K hK => ?_) AllReadyH.nil
   simp only [List.getElem_toArray, List.getElem_cons_zero, List.getElem_cons_succ]
   rw [if_pos (by rfl)]
   go_wp2_with fail
   refine (off_wf r a len cap 0 7 _ hl (by omega) (by omega) (by omega) HD.out.rd).mono ?_
   rintro e V2 ⟨z, rfl, hzw, hb1, hr1⟩
   replace HD := hided (HD.out.drawn hb1 hr1)
   have HZ : Hid ((Lit.int .i64 z).wf = true) := hzw
   clear hb1 hr1 hzw
   refine hK.out _ _ HD.out.box (fun hHeld => ?_)
   clear hK K
   try simp only [pt, sb, s0, s1]
   refine tk 4 (v := ?_) ?_ hHeld ?_; rotate_left; (intro w0 hS0; have q0 := hS0.cells.2.2.1; rw [HA.out] at q0; go_simp; try with_reducible rfl); simp only [pt, sb, s0, s1]
   refine tk 5 (v := ?_) ?_ hHeld ?_; rotate_left; (intro w0 hS0; have q0 := hS0.cells.2.2.1; rw [HA.out] at q0; go_simp; try with_reducible rfl); simp only [pt, sb, s0, s1]
   clear hHeld
   obtain ⟨s1, ⟨u9, c⟩, f⟩ := HD.out.cell (n := 0) (j := 3) (v := .int .i64 z) (y := { x with state := z }) HX.out HA.out ⟨rfl, rfl, rfl⟩ (by decide) rfl (state_small HD.out.small HX.out)
   simp only [Nat.zero_mul, Nat.zero_add] at s1 c f
   have HS := hided s1
   clear s1
   refine wpAnyH_ready (rs := [6]) (by kernel_rfl) (by simp) ?_
   refine AllReadyH.cons rfl (fun K hK => ?_) AllReadyH.nil
   simp only [List.getElem_toArray, List.getElem_cons_zero, List.getElem_cons_succ]
   rw [if_pos (by rfl)]
   go_wp2_with fail
   refine hK.out _ _ (by have h5 := HS.out.box; unfold PartBox at h5 ⊢; simpa only [List.length_set] using h5) (fun hHeld => ?_)
   clear hK K
   refine wpAnyH_done (by kernel_rfl) ?_ _
   clear c f u9 HD hHeld
   have HD := HS
   clear HS
   obtain ⟨q9, hq9⟩ : ∃ q9 : PartD, q9 = { q with procs := q.procs.set 0 { x with state := z } } := ⟨_, rfl⟩
   rw [← hq9] at HD
   clear hq9
   go_upto_region 15 with fail
   generalize V2.setCell ⟨gs, 3, none⟩ (.int .i64 z) = V3 at *
   go_wp2_with (first | (refine wpList_load_row rfl 32 (.tmp 4) rfl X (by rfl) 32 q9.cells (0, 0) _ HD.out.box Tryz.underlying32 rfl (by kernel_rfl) ?_) | (refine wpList_store_row rfl 32 (.tmp 2) (.tmp 52) rfl (w.heap.size) _ _ q9.cells rfl rfl HD.out.ans (by kernel_rfl) rfl (by kernel_rfl) ?_))
   refine bodyPost_ret (v := .tuple #[.agg q9.cells, .int .i64 now]) (results_row_tmp Tryz.results81 _ _ (w.heap.size) _ _ _ _ (by rfl) (setRow_heap _ _ _ _ _ _ HD.out.ans) Tryz.underlying32 rfl (by kernel_rfl)) rfl ?_
   have hx := HD.out.hx
   have hl := HD.out.st.lt
   refine ⟨q9, now, rfl, ⟨n0, by omega⟩, (HD.out.own.lower (by omega)).same fun g hg => setRow_other _ _ _ _ (by have := (HD.out.own.lt g hg).1; omega), HD.out.small, HD.out.but.setRow (Nat.le_refl _) _, ⟨?_, HD.out.st.2.but (HD.out.but.setRow (Nat.le_refl _) _)⟩⟩
   obtain ⟨p, hp, hc⟩ := HD.out.rd.1
   exact ⟨p, hp, (setRow_other _ _ _ _ (by omega)).trans hc⟩
  have e2 : (v == 39) = false := by simp [h39]
  clear h39
  go_wp2_with (first | (refine wpList_load_row rfl 32 (.tmp 4) rfl X (by rfl) 32 q.cells (0, 0) _ HD.out.box Tryz.underlying32 rfl (by kernel_rfl) ?_) | (refine wpList_store_row rfl 32 (.tmp 2) (.tmp 52) rfl (w.heap.size) _ _ q.cells rfl rfl HD.out.ans (by kernel_rfl) rfl (by kernel_rfl) ?_))
  refine bodyPost_ret (v := .tuple #[.agg q.cells, .int .i64 now]) (results_row_tmp Tryz.results81 _ _ (w.heap.size) _ _ _ _ (by rfl) (setRow_heap _ _ _ _ _ _ HD.out.ans) Tryz.underlying32 rfl (by kernel_rfl)) rfl ?_
  have hx := HD.out.hx
  have hl := HD.out.st.lt
  refine ⟨q, now, rfl, ⟨n0, by omega⟩, (HD.out.own.lower (by omega)).same fun g hg => setRow_other _ _ _ _ (by have := (HD.out.own.lt g hg).1; omega), HD.out.small, HD.out.but.setRow (Nat.le_refl _) _, ⟨?_, HD.out.st.2.but (HD.out.but.setRow (Nat.le_refl _) _)⟩⟩
  obtain ⟨p, hp, hc⟩ := HD.out.rd.1
  exact ⟨p, hp, (setRow_other _ _ _ _ (by omega)).trans hc⟩
end Go.Proofs.YtkbcplnlehdjfaaGreat
