/- What SupplyOf answers, the specification's and the program's. -/
import Derived.Test.YticpedhfclkjcafOwned
import Derived.Deep.RegionHeld3
import Derived.Deep.MidRow
namespace Go.Proofs.Yticpedhfclkjcaf
open Go.RowKit

theorem supZ_bd {major : Int} {len : Nat} {Z : Nat → Int} {part t : Int} (hl : len ≤ 20) (h1 : 1 ≤ major) (h2 : major ≤ 1000) (h : ∀ i, i < len → winAt major Z i = true) (t0 : 0 ≤ t) (t1 : t ≤ 2000000000) : 0 ≤ supZ major len Z part t ∧ supZ major len Z part t ≤ 50000000000000 := by
  have lb := lenTo_bd (part := part) h2 h len (Nat.le_refl _)
  have rb := restTo_bd (part := part) (x := t % major) h2 h len (Nat.le_refl _)
  have q0 : 0 ≤ t / major := Int.ediv_nonneg t0 (by omega)
  have q1 : t / major ≤ 2000000000 := Int.le_trans (Int.ediv_le_self _ t0) t1
  have mb := mul_bd q0 q1 lb.1 (by omega)
  unfold supZ
  omega

theorem wpList_loadTab {ops : Array Oper} {rest : List Oper} {op : Oper} {a : Act} {w : World} {Q : Exit → Act → World → Prop} (hgd : op.guard = none) (x : Operand) (ho : op.op = .load 50 x)
    (g : Nat) (hx : a.eval x = .pointer (some ⟨g, 0, none⟩)) (cs : Array Value) (hg : w.heap[g]? = some (.cells cs 50 (0, 0))) (hs : cs.size = 62)
    (h : wpList Try.prog ops Q rest (a.put op.dst (.agg cs)) w) : wpList Try.prog ops Q (op :: rest) a w :=
  wpList_load_row hgd 50 x ho g hx 50 cs (0, 0) _ hg Try.underlying50 rfl (tabSize' cs hs) h

set_option maxHeartbeats 1000000 in
theorem supply_any (major part from_ to : Int) (cs : Array Value) (len : Nat) (Z : Nat → Int) (w : World) (hl : len ≤ 20) (h1 : 1 ≤ major) (h2 : major ≤ 1000) (h3 : ∀ i, i < len → winAt major Z i = true) (t0 : 0 ≤ from_) (t1 : from_ ≤ 2000000000) (t2 : 0 ≤ to) (t3 : to ≤ 2000000000) (hc : IsTab major len Z cs) :
    Calls Try.prog 26 #[.agg cs, .int .i64 part, .int .i64 from_, .int .i64 to] w fun e w' => e = .returned (.int .i64 (supZ major len Z part to - supZ major len Z part from_)) ∧ Below w.heap.size w w' := by
  have s1 := supZ_bd (part := part) hl h1 h2 h3 t0 t1
  have s2 := supZ_bd (part := part) hl h1 h2 h3 t2 t3
  have HC : Hid (IsTab major len Z cs) := hc
  have H3 : Hid (∀ i, i < len → winAt major Z i = true) := h3
  clear h3
  obtain ⟨L⟩ := cs
  have hLl : L.length = 62 := hc.1
  have hu := Try.underlying50
  have hi : (Try.prog.info? 50).map (·.size) = some L.length := by rw [tabSize, hLl]
  have h1c : ∀ v ∈ L, v.oneCell' = true := fun v hv => Array.all_eq_true_iff_forall_mem.1 hc.one v (by simpa using hv)
  clear hc
  go_enter Try.func26, Try.ntmps26
  go_wp2
  have hra : (w.alloc (.cells L.toArray 50)).rangeAt w.heap.size 0 L := by
    intro j v hv
    rw [Nat.zero_add, World.cell?_alloc_new]
    simpa using hv
  have own : ∀ (X : World) (t : Int), 0 ≤ t → t ≤ 2000000000 → Calls Try.prog 35 #[.agg L.toArray, .int .i64 part, .int .i64 t] X fun e w' => e = .returned (.int .i64 (supZ major len Z part t)) ∧ Below X.heap.size X w' :=
    fun X t a b => callsIn_wide.1 (ownedBefore_in major part t ⟨L⟩ len Z X hl h1 h2 H3.out a b HC.out)
  have keep : ∀ X Y : World, Below X.heap.size X Y → X.rangeAt w.heap.size 0 L → Y.rangeAt w.heap.size 0 L := fun X Y hb hx j v hv => (hb.cell (p := ⟨w.heap.size, 0 + j, none⟩) (block_lt_of_cell (hx j v hv))).trans (hx j v hv)
  refine wp_region_held_drew (S := fun w' => w'.rangeAt w.heap.size 0 L) (by kernel_rfl) hra (fun hHeld => ?_)
  refine wpAnyH_take (i := 0) (v := .agg L.toArray) rfl (by kernel_rfl) (by kernel_rfl) (by kernel_rfl) (fun _ _ _ h => h) (yieldsIf_load_mid (by rfl) _ _ rfl w.heap.size 0 (by rfl) L _ (fun _ h => h) hu rfl hi) hHeld ?_
  simp only [List.getElem_toArray, List.getElem_cons_zero, Act.put, List.setIfInBounds_toArray, List.set_cons_zero, List.set_cons_succ]
  refine wpAnyH_take (i := 1) (v := .int .i64 part) rfl (by kernel_rfl) (by kernel_rfl) (by kernel_rfl) (fun _ _ _ h => h) (Or.inl ⟨by rfl, fun _ _ => rfl⟩) hHeld ?_
  simp only [List.getElem_toArray, List.getElem_cons_zero, List.getElem_cons_succ, Act.put, List.setIfInBounds_toArray, List.set_cons_zero, List.set_cons_succ]
  refine wpAnyH_take (i := 2) (v := .int .i64 to) rfl (by kernel_rfl) (by kernel_rfl) (by kernel_rfl) (fun _ _ _ h => h) (Or.inl ⟨by rfl, fun _ _ => rfl⟩) hHeld ?_
  simp only [List.getElem_toArray, List.getElem_cons_zero, List.getElem_cons_succ, Act.put, List.setIfInBounds_toArray, List.set_cons_zero, List.set_cons_succ]
  refine wpAnyH_take (i := 4) (v := .agg L.toArray) rfl (by kernel_rfl) (by kernel_rfl) (by kernel_rfl) (fun _ _ _ h => h) (yieldsIf_load_mid (by rfl) _ _ rfl w.heap.size 0 (by rfl) L _ (fun _ h => h) hu rfl hi) hHeld ?_
  simp only [List.getElem_toArray, List.getElem_cons_zero, List.getElem_cons_succ, Act.put, List.setIfInBounds_toArray, List.set_cons_zero, List.set_cons_succ]
  refine wpAnyH_take (i := 5) (v := .int .i64 part) rfl (by kernel_rfl) (by kernel_rfl) (by kernel_rfl) (fun _ _ _ h => h) (Or.inl ⟨by rfl, fun _ _ => rfl⟩) hHeld ?_
  simp only [List.getElem_toArray, List.getElem_cons_zero, List.getElem_cons_succ, Act.put, List.setIfInBounds_toArray, List.set_cons_zero, List.set_cons_succ]
  refine wpAnyH_take (i := 6) (v := .int .i64 from_) rfl (by kernel_rfl) (by kernel_rfl) (by kernel_rfl) (fun _ _ _ h => h) (Or.inl ⟨by rfl, fun _ _ => rfl⟩) hHeld ?_
  simp only [List.getElem_toArray, List.getElem_cons_zero, List.getElem_cons_succ, Act.put, List.setIfInBounds_toArray, List.set_cons_zero, List.set_cons_succ]
  refine wpAnyH_ready (rs := [3]) (by kernel_rfl) (by simp) ?_
  refine AllReadyH.cons rfl (fun K hK => ?_) AllReadyH.nil
  simp only [List.getElem_toArray, List.getElem_cons_zero, List.getElem_cons_succ]
  rw [if_pos (by rfl)]
  go_wp2_with fail
  refine (own _ to t2 t3).mono ?_
  rintro e w1 ⟨rfl, hb1⟩
  refine hK.out _ _ (keep _ _ hb1 hHeld) (fun hHeld1 => ?_)
  clear hK K
  try simp only [List.getElem_toArray, List.getElem_cons_zero, List.getElem_cons_succ, Act.put, List.setIfInBounds_toArray, List.set_cons_zero, List.set_cons_succ]
  refine wpAnyH_ready (rs := [7]) (by kernel_rfl) (by simp) ?_
  refine AllReadyH.cons rfl (fun K hK => ?_) AllReadyH.nil
  simp only [List.getElem_toArray, List.getElem_cons_zero, List.getElem_cons_succ]
  rw [if_pos (by rfl)]
  go_wp2_with fail
  refine (own _ from_ t0 t1).mono ?_
  rintro e w2 ⟨rfl, hb2⟩
  refine hK.out _ _ (keep _ _ hb2 hHeld1) (fun hHeld2 => ?_)
  clear hK K
  try simp only [List.getElem_toArray, List.getElem_cons_zero, List.getElem_cons_succ, Act.put, List.setIfInBounds_toArray, List.set_cons_zero, List.set_cons_succ]
  have ws : IntKind.i64.wrap (supZ major len Z part to - supZ major len Z part from_) = supZ major len Z part to - supZ major len Z part from_ := wrapI (by omega) (by omega)
  refine wpAnyH_take (i := 8) (v := .int .i64 (supZ major len Z part to - supZ major len Z part from_)) rfl (by kernel_rfl) (by kernel_rfl) (by kernel_rfl) (fun _ _ _ h => h) (Or.inl ⟨by rfl, fun _ _ => ?_⟩) hHeld2 ?_
  · go_simp
  simp only [List.getElem_toArray, List.getElem_cons_zero, List.getElem_cons_succ, Act.put, List.setIfInBounds_toArray, List.set_cons_zero, List.set_cons_succ]
  refine wpAnyH_take (i := 9) (v := .int .i64 (supZ major len Z part to - supZ major len Z part from_)) rfl (by kernel_rfl) (by kernel_rfl) (by kernel_rfl) (fun _ _ _ h => h) (Or.inl ⟨by rfl, fun _ _ => rfl⟩) hHeld2 ?_
  simp only [List.getElem_toArray, List.getElem_cons_zero, List.getElem_cons_succ, Act.put, List.setIfInBounds_toArray, List.set_cons_zero, List.set_cons_succ]
  refine wpAnyH_done (by kernel_rfl) ?_ _
  go_wp2
  go_ret
  refine ⟨rfl, ?_⟩
  exact ((((Below.refl _ _).alloc (Nat.le_refl _) _).drew).trans (hb1.mono (by simp))).trans (hb2.mono (by have := hb1.size; simp at this; omega))

/-- What SupplyOf answers. -/
def supB (major : Int) (len : Nat) (Z : Nat → Int) (part from_ to : Int) : Int := if frameB major len Z = true ∧ 0 ≤ from_ ∧ from_ ≤ 1000000000 ∧ from_ ≤ to ∧ to ≤ 1000000000 then supZ major len Z part to - supZ major len Z part from_ else -1
theorem supB_yes {major : Int} {len : Nat} {Z : Nat → Int} {part from_ to : Int} (h : frameB major len Z = true ∧ 0 ≤ from_ ∧ from_ ≤ 1000000000 ∧ from_ ≤ to ∧ to ≤ 1000000000) : supB major len Z part from_ to = supZ major len Z part to - supZ major len Z part from_ := if_pos h
theorem supB_no {major : Int} {len : Nat} {Z : Nat → Int} {part from_ to : Int} (h : ¬ (frameB major len Z = true ∧ 0 ≤ from_ ∧ from_ ≤ 1000000000 ∧ from_ ≤ to ∧ to ≤ 1000000000)) : supB major len Z part from_ to = -1 := if_neg h

set_option maxHeartbeats 1000000 in
theorem specSupplyOf_any (major part from_ to : Int) (g len cap : Nat) (Z : Nat → Int) (w : World) (hl : len ≤ 1048576) (hz : ∀ j, -9223372036854775808 ≤ Z j ∧ Z j ≤ 9223372036854775807) (hr : WinsAt w g len Z) :
    Calls Try.prog 8 #[.agg #[.int .i64 major, .slice (some ⟨g, 0, none⟩) len cap], .int .i64 part, .int .i64 from_, .int .i64 to] w fun e w' => e = .returned (.int .i64 (supB major len Z part from_ to)) ∧ Below w.heap.size w w' := by
  have HR : Hid (WinsAt w g len Z) := hr
  have HZ : Hid (∀ j, -9223372036854775808 ≤ Z j ∧ Z j ≤ 9223372036854775807) := hz
  clear hr hz
  cases hf : frameB major len Z with
  | false =>
    have HF : Hid (frameB major len Z = false) := hf
    clear hf
    go_enter Try.func8, Try.ntmps8
    go_wp2_with fail
    refine (specFrameOk_any major g len cap Z _ hl HZ.out (HR.out.alloc _)).mono ?_
    rintro e w1 ⟨rfl, hb1⟩
    rw [HF.out]
    go_wp2
    go_ret
    exact ⟨ret_int (supB_no (by rw [HF.out]; simp)).symm, ((Below.refl _ _).alloc (Nat.le_refl _) _).trans (hb1.mono (by simp))⟩
  | true =>
    have HF : Hid (frameB major len Z = true) := hf
    clear hf
    by_cases ht : ¬ (0 ≤ from_ ∧ from_ ≤ 1000000000)
    · have hin : inB from_ 0 1000000000 = false := by simp [inB]; omega
      go_enter Try.func8, Try.ntmps8
      go_wp2_with fail
      refine (specFrameOk_any major g len cap Z _ hl HZ.out (HR.out.alloc _)).mono ?_
      rintro e w1 ⟨rfl, hb1⟩
      rw [HF.out]
      go_wp2_with (go_at_call 22; refine (l1In_any _ _ _ _).mono ?_; rintro e wx ⟨rfl, hx⟩; rw [hx]; clear hx wx)
      go_ret
      exact ⟨ret_int (supB_no (by omega)).symm, ((Below.refl _ _).alloc (Nat.le_refl _) _).trans (hb1.mono (by simp))⟩
    have ht : 0 ≤ from_ ∧ from_ ≤ 1000000000 := by omega
    have hin : inB from_ 0 1000000000 = true := inB_true ht.1 ht.2
    by_cases hu : ¬ (from_ ≤ to ∧ to ≤ 1000000000)
    · have hin2 : inB to from_ 1000000000 = false := by simp [inB]; omega
      go_enter Try.func8, Try.ntmps8
      go_wp2_with fail
      refine (specFrameOk_any major g len cap Z _ hl HZ.out (HR.out.alloc _)).mono ?_
      rintro e w1 ⟨rfl, hb1⟩
      rw [HF.out]
      go_wp2_with (go_at_call 22; refine (l1In_any _ _ _ _).mono ?_; rintro e wx ⟨rfl, hx⟩; rw [hx]; clear hx wx)
      go_ret
      exact ⟨ret_int (supB_no (by omega)).symm, ((Below.refl _ _).alloc (Nat.le_refl _) _).trans (hb1.mono (by simp))⟩
    have hu : from_ ≤ to ∧ to ≤ 1000000000 := by omega
    have hin2 : inB to from_ 1000000000 = true := inB_true hu.1 hu.2
    obtain ⟨r1, r2, r3, r4⟩ := frameB_out HF.out
    have s1 := supZ_bd (part := part) r3 r1 r2 r4 ht.1 (by omega)
    have s2 := supZ_bd (part := part) (t := to) r3 r1 r2 r4 (by omega) (by omega)
    have R4 : Hid (∀ i, i < len → winAt major Z i = true) := r4
    clear r4
    go_enter Try.func8, Try.ntmps8
    go_wp2_with fail
    refine (specFrameOk_any major g len cap Z _ hl HZ.out (HR.out.alloc _)).mono ?_
    rintro e w1 ⟨rfl, hb1⟩
    rw [HF.out]
    have z1 : w.heap.size < w1.heap.size := by have := hb1.size; simp only [World.size_alloc] at this; omega
    have c0 : w1.cell? ⟨w.heap.size, 0, none⟩ = some (.int .i64 major) := (hb1.cell (p := ⟨w.heap.size, 0, none⟩) (by simp)).trans (by simp)
    have c1 : w1.cell? ⟨w.heap.size, 1, none⟩ = some (.slice (some ⟨g, 0, none⟩) len cap) := (hb1.cell (p := ⟨w.heap.size, 1, none⟩) (by simp)).trans (by simp)
    have HB1 : Hid (Below w.heap.size w w1) := ((Below.refl _ _).alloc (Nat.le_refl _) _).trans (hb1.mono (by simp))
    have HR1 : Hid (WinsAt w1 g len Z) := HR.out.of_block (HB1.out.block _ HR.out.lt)
    clear hb1
    go_wp2_with (go_at_call 22; refine (l1In_any _ _ _ _).mono ?_; rintro e wx ⟨rfl, hx⟩; rw [hx]; clear hx wx)
    go_region_held3 (fun w' => w'.cell? ⟨w.heap.size, 0, none⟩ = some (.int .i64 major) ∧ w'.cell? ⟨w.heap.size, 1, none⟩ = some (.slice (some ⟨g, 0, none⟩) len cap))
      (first | go_keep | exact ⟨(hb2.cell (p := ⟨w.heap.size, 0, none⟩) z1).trans c0, (hb2.cell (p := ⟨w.heap.size, 1, none⟩) z1).trans c1⟩ | exact ⟨(hb3.cell (p := ⟨w.heap.size, 0, none⟩) (Nat.lt_of_lt_of_le z1 z2)).trans ((hb2.cell (p := ⟨w.heap.size, 0, none⟩) z1).trans c0), (hb3.cell (p := ⟨w.heap.size, 1, none⟩) (Nat.lt_of_lt_of_le z1 z2)).trans ((hb2.cell (p := ⟨w.heap.size, 1, none⟩) z1).trans c1)⟩)
      (first | (go_at_call_of 23 (Value.int IntKind.i64 to); refine (l1Supply_any major part to g len cap Z _ r3 r1 r2 R4.out (by omega) (by omega) (by exact HR1.out)).mono ?_; rintro e w2 ⟨rfl, hb2⟩; have z2 : w1.heap.size ≤ w2.heap.size := hb2.size; have HR2 : Hid (WinsAt w2 g len Z) := HR1.out.of_block (hb2.block _ HR1.out.lt)) | (go_at_call_of 23 (Value.int IntKind.i64 from_); refine (l1Supply_any major part from_ g len cap Z _ r3 r1 r2 R4.out (by omega) (by omega) (by exact HR2.out)).mono ?_; rintro e w3 ⟨rfl, hb3⟩))
    have ws : IntKind.i64.wrap (supZ major len Z part to - supZ major len Z part from_) = supZ major len Z part to - supZ major len Z part from_ := wrapI (by omega) (by omega)
    go_wp2
    go_ret
    exact ⟨ret_int (by rw [supB_yes ⟨HF.out, ht.1, ht.2, hu⟩]; first | rfl | exact ws), (HB1.out.drew.trans (hb2.mono (Nat.le_of_lt z1))).trans (hb3.mono (by omega))⟩

set_option maxHeartbeats 1000000 in
set_option maxRecDepth 100000 in
theorem implSupplyOf_any (major part from_ to : Int) (g len cap : Nat) (Z : Nat → Int) (w : World) (hl : len ≤ 1048576) (hz : ∀ j, -9223372036854775808 ≤ Z j ∧ Z j ≤ 9223372036854775807) (hr : WinsAt w g len Z) :
    Calls Try.prog 10 #[.agg #[.int .i64 major, .slice (some ⟨g, 0, none⟩) len cap], .int .i64 part, .int .i64 from_, .int .i64 to] w fun e w' => e = .returned (.int .i64 (supB major len Z part from_ to)) ∧ Below w.heap.size w w' := by
  obtain ⟨T, hT⟩ : ∃ T, tabZ = T := ⟨_, rfl⟩
  have hs : T.size = 62 := by rw [← hT]; exact tabZ_size
  have ho : T.all (·.oneCell') = true := by rw [← hT]; exact tabZ_one
  have HT : Hid (tabZ = T) := hT
  clear hT
  have HR : Hid (WinsAt w g len Z) := hr
  have HZ : Hid (∀ j, -9223372036854775808 ≤ Z j ∧ Z j ≤ 9223372036854775807) := hz
  clear hr hz
  go_enter Try.func10, Try.ntmps10
  go_wp2_with fail
  refine (tableOf_any major g len cap Z _ hl HZ.out (HR.out.alloc _)).mono ?_
  rintro e w1 ⟨⟨hf, cs, rfl, hc⟩ | ⟨hf, rfl⟩, hb1⟩
  · have hcs := hc.1
    have hco := hc.one
    have HC : Hid (IsTab major len Z cs) := hc
    have HF : Hid (frameB major len Z = true) := hf
    clear hf hc
    have z1 : w.heap.size < w1.heap.size := by have := hb1.size; simp only [World.size_alloc] at this; omega
    have HB1 : Hid (Below w.heap.size w w1) := ((Below.refl _ _).alloc (Nat.le_refl _) _).trans (hb1.mono (by simp))
    clear hb1
    obtain ⟨r1, r2, r3, r4⟩ := frameB_out HF.out
    have R4 : Hid (∀ i, i < len → winAt major Z i = true) := r4
    clear r4
    by_cases k1 : from_ < 0
    · go_wp2_with (first | (refine wpList_allocTab rfl rfl w1.heap.size rfl T HT.out ?_) | (refine wpList_storeTab rfl (.tmp 9) (.tmp 14) rfl w1.heap.size cs (by rfl) (by rfl) T (by exact heap_alloc_new _ _) hs hcs hco ?_))
      go_ret
      exact ⟨ret_int (supB_no (by omega)).symm, below_setRow (HB1.out.alloc (by omega) _) (by omega) _⟩
    by_cases k2 : 1000000000 < from_
    · go_wp2_with (first | (refine wpList_allocTab rfl rfl w1.heap.size rfl T HT.out ?_) | (refine wpList_storeTab rfl (.tmp 9) (.tmp 14) rfl w1.heap.size cs (by rfl) (by rfl) T (by exact heap_alloc_new _ _) hs hcs hco ?_))
      go_ret
      exact ⟨ret_int (supB_no (by omega)).symm, below_setRow (HB1.out.alloc (by omega) _) (by omega) _⟩
    by_cases k3 : to < from_
    · go_wp2_with (first | (refine wpList_allocTab rfl rfl w1.heap.size rfl T HT.out ?_) | (refine wpList_storeTab rfl (.tmp 9) (.tmp 14) rfl w1.heap.size cs (by rfl) (by rfl) T (by exact heap_alloc_new _ _) hs hcs hco ?_))
      go_ret
      exact ⟨ret_int (supB_no (by omega)).symm, below_setRow (HB1.out.alloc (by omega) _) (by omega) _⟩
    by_cases k4 : 1000000000 < to
    · go_wp2_with (first | (refine wpList_allocTab rfl rfl w1.heap.size rfl T HT.out ?_) | (refine wpList_storeTab rfl (.tmp 9) (.tmp 14) rfl w1.heap.size cs (by rfl) (by rfl) T (by exact heap_alloc_new _ _) hs hcs hco ?_))
      go_ret
      exact ⟨ret_int (supB_no (by omega)).symm, below_setRow (HB1.out.alloc (by omega) _) (by omega) _⟩
    go_wp2_with (first | (refine wpList_allocTab rfl rfl w1.heap.size rfl T HT.out ?_) | (refine wpList_storeTab rfl (.tmp 9) (.tmp 14) rfl w1.heap.size cs (by rfl) (by rfl) T (by exact heap_alloc_new _ _) hs hcs hco ?_) | (refine wpList_loadTab rfl (.tmp 9) rfl w1.heap.size (by rfl) cs ?hg hcs ?_; (case hg => exact setRow_heap _ _ T _ _ _ (heap_alloc_new _ _))))
    refine (supply_any major part from_ to cs len Z _ r3 r1 r2 R4.out (by omega) (by omega) (by omega) (by omega) HC.out).mono ?_
    rintro e w2 ⟨rfl, hb2⟩
    go_wp2
    go_ret
    exact ⟨ret_int (supB_yes ⟨HF.out, by omega, by omega, by omega, by omega⟩).symm, (below_setRow (HB1.out.alloc (by omega) _) (by omega) _).trans (hb2.mono (by simp; omega))⟩
  · have HF : Hid (frameB major len Z = false) := hf
    clear hf
    have z1 : w.heap.size < w1.heap.size := by have := hb1.size; simp only [World.size_alloc] at this; omega
    have HB1 : Hid (Below w.heap.size w w1) := ((Below.refl _ _).alloc (Nat.le_refl _) _).trans (hb1.mono (by simp))
    clear hb1
    rw [HT.out]
    go_wp2_with (first | (refine wpList_allocTab rfl rfl w1.heap.size rfl T HT.out ?_) | (refine wpList_storeTab rfl (.tmp 9) (.tmp 14) rfl w1.heap.size T (by rfl) (by rfl) T (by exact heap_alloc_new _ _) hs hs ho ?_))
    go_ret
    exact ⟨ret_int (supB_no (by rw [HF.out]; simp)).symm, below_setRow (HB1.out.alloc (by omega) _) (by omega) _⟩

end Go.Proofs.Yticpedhfclkjcaf
