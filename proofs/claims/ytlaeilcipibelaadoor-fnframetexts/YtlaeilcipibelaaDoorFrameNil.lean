/- A frame without windows, its list nil. -/
import Derived.Test.YtlaeilcipibelaaDoorFTextImpl
import Derived.Test.YtlaeilcipibelaaDoorImplFrameOk
namespace Go.Proofs.YtlaeilcipibelaaDoor
open Go.RowKit
attribute [local go_sem] Oper.semAt_some

set_option maxHeartbeats 2000000 in
theorem specFrameOk_nil (major : Int) (len cap : Nat) (Z : Nat → Int) (w : World) (hl : len ≤ 1048576) (_hz : ∀ j, -9223372036854775808 ≤ Z j ∧ Z j ≤ 9223372036854775807) (h0 : len = 0) :
    Calls Tryd.prog 39 #[.agg #[.int .i64 major, .slice none len cap]] w fun e w' => e = .returned (.bool (frameB major len Z)) ∧ Below w.heap.size w w' := by
  have H0 : Hid (len = 0) := h0
  clear h0
  by_cases k1 : ¬ (1 ≤ major ∧ major ≤ 1000)
  · have hin : inB major 1 1000 = false := by simp [inB]; omega
    go_enter Tryd.func39, Tryd.ntmps39
    go_wp2_with (go_at_call 69; refine (l1In_any _ _ _ _).mono ?_; rintro e w' ⟨rfl, rfl⟩)
    go_ret
    exact ⟨ret_bool (frameB_false (by omega)).symm, by go_grown⟩
  have k1 : 1 ≤ major ∧ major ≤ 1000 := by omega
  have hin : inB major 1 1000 = true := inB_true k1.1 k1.2
  by_cases k2 : 20 < len
  · go_enter Tryd.func39, Tryd.ntmps39
    go_wp2_with (go_at_call 69; refine (l1In_any _ _ _ _).mono ?_; rintro e w' ⟨rfl, rfl⟩)
    go_ret
    exact ⟨ret_bool (frameB_false (by omega)).symm, by go_grown⟩
  obtain ⟨k1, k1'⟩ := k1
  go_enter Tryd.func39, Tryd.ntmps39
  go_wp2_with (go_at_call 69; refine (l1In_any _ _ _ _).mono ?_; rintro e w' ⟨rfl, rfl⟩)
  go_loopw [3, 4] (fun t i wr => ∃ k : Nat, k ≤ len ∧ i = .int .i64 k ∧ t = .int .i64 (endAt Z k) ∧ (∀ i, i < k → winAt major Z i = true) ∧ Below (w.heap.size + 1) (w.alloc (.cells #[.int .i64 major, .slice none len cap] 26)) wr) (fun _ i _ => len - (intOf i).toNat)
  case atStart => exact ⟨0, Nat.zero_le _, rfl, rfl, fun i hi => by omega, Below.refl _ _⟩
  case round =>
    obtain ⟨k, hk, rfl, rfl, hall, hbel⟩ := hrel
    have HA : Hid (∀ i, i < k → winAt major Z i = true) := hall
    have he := endAt_nonneg k hall
    clear hall
    obtain ⟨he0, he1⟩ := he
    have he1 := he1 k1
    have hs : w.heap.size < wr.heap.size := by have := hbel.size; simp only [World.size_alloc] at this; omega
    have m0 : wr.cell? ⟨w.heap.size, 0, none⟩ = some (.int .i64 major) := (hbel.cell (p := ⟨w.heap.size, 0, none⟩) (by simp)).trans (by simp)
    have m1 : wr.cell? ⟨w.heap.size, 1, none⟩ = some (.slice none len cap) := (hbel.cell (p := ⟨w.heap.size, 1, none⟩) (by simp)).trans (by simp)
    have hlt : ¬ k < len := by have := H0.out; omega
    · go_wp2
      go_ret
      have e : k = len := by omega
      subst e
      exact ⟨ret_bool (frameB_true ⟨k1, k1', by omega, HA.out⟩).symm, ((Below.refl _ _).alloc (Nat.le_refl _) _).trans (hbel.mono (by omega))⟩

set_option maxHeartbeats 1000000 in
set_option maxRecDepth 100000 in
theorem tableOf_noN (major : Int) (len cap : Nat) (w : World) (hl : len ≤ 1048576) (h : major < 1 ∨ 1000 < major ∨ 20 < len) :
    Calls Tryd.prog 33 #[.agg #[.int .i64 major, .slice none len cap]] w fun e w' => e = .returned (.tuple #[.agg tabZ, .bool false]) ∧ Below w.heap.size w w' := by
  obtain ⟨T, hT⟩ : ∃ T, tabZ = T := ⟨_, rfl⟩
  have hs : T.size = 62 := by rw [← hT]; exact tabZ_size
  have ho : T.all (·.oneCell') = true := by rw [← hT]; exact tabZ_one
  have HT : Hid (tabZ = T) := hT
  clear hT
  by_cases h1 : major < 1
  · go_enter Tryd.func33, Tryd.ntmps33
    go_wp2_with (first | (refine wpList_allocTab rfl rfl (w.heap.size + 1) ?hN T HT.out ?_; (case hN => (rw [World.size_alloc]; done))) | (refine wpList_buildTab0 rfl rfl T HT.out ?_) | (refine wpList_storeTab rfl (.tmp 2) (.tmp 22) rfl (w.heap.size + 1) T (by rfl) (by rfl) T (by exact heap_alloc2_new _ _ _) hs hs ho ?_))
    refine bodyPost_ret (tableResults (cs := T) (b := false) (g := w.heap.size + 1) (t := 59) (fr := (0, 0)) rfl rfl ?_ hs) rfl ⟨by rw [HT.out], ?_⟩
    · exact setRow_heap _ _ T _ _ _ (heap_alloc2_new _ _ _)
    · exact below_setRow (by go_grown) (by omega) _
  by_cases h2 : 1000 < major
  · go_enter Tryd.func33, Tryd.ntmps33
    go_wp2_with (first | (refine wpList_allocTab rfl rfl (w.heap.size + 1) ?hN T HT.out ?_; (case hN => (rw [World.size_alloc]; done))) | (refine wpList_buildTab0 rfl rfl T HT.out ?_) | (refine wpList_storeTab rfl (.tmp 2) (.tmp 22) rfl (w.heap.size + 1) T (by rfl) (by rfl) T (by exact heap_alloc2_new _ _ _) hs hs ho ?_))
    refine bodyPost_ret (tableResults (cs := T) (b := false) (g := w.heap.size + 1) (t := 59) (fr := (0, 0)) rfl rfl ?_ hs) rfl ⟨by rw [HT.out], ?_⟩
    · exact setRow_heap _ _ T _ _ _ (heap_alloc2_new _ _ _)
    · exact below_setRow (by go_grown) (by omega) _
  have h3 : 20 < len := by omega
  go_enter Tryd.func33, Tryd.ntmps33
  go_wp2_with (first | (refine wpList_allocTab rfl rfl (w.heap.size + 1) ?hN T HT.out ?_; (case hN => (rw [World.size_alloc]; done))) | (refine wpList_buildTab0 rfl rfl T HT.out ?_) | (refine wpList_storeTab rfl (.tmp 2) (.tmp 22) rfl (w.heap.size + 1) T (by rfl) (by rfl) T (by exact heap_alloc2_new _ _ _) hs hs ho ?_))
  refine bodyPost_ret (tableResults (cs := T) (b := false) (g := w.heap.size + 1) (t := 59) (fr := (0, 0)) rfl rfl ?_ hs) rfl ⟨by rw [HT.out], ?_⟩
  · exact setRow_heap _ _ T _ _ _ (heap_alloc2_new _ _ _)
  · exact below_setRow (by go_grown) (by omega) _

set_option maxHeartbeats 1000000 in
set_option maxRecDepth 100000 in
theorem tableOf_yesN (major : Int) (len cap : Nat) (Z : Nat → Int) (w : World) (h1 : 1 ≤ major) (h2 : major ≤ 1000) (h3 : len ≤ 20) (_hz : ∀ j, -9223372036854775808 ≤ Z j ∧ Z j ≤ 9223372036854775807) (h0 : len = 0) :
    Calls Tryd.prog 33 #[.agg #[.int .i64 major, .slice none len cap]] w fun e w' =>
      (((∀ i, i < len → winAt major Z i = true) ∧ ∃ cs, e = .returned (.tuple #[.agg cs, .bool true]) ∧ IsTab major len Z cs) ∨ (¬ (∀ i, i < len → winAt major Z i = true) ∧ e = .returned (.tuple #[.agg tabZ, .bool false]))) ∧ Below w.heap.size w w' := by
  have H0 : Hid (len = 0) := h0
  clear h0
  have k1 : ¬ major < 1 := by omega
  have k2 : ¬ 1000 < major := by omega
  have k3 : ¬ (20 : Int) < len := by omega
  obtain ⟨T, hT⟩ : ∃ T, tabZ = T := ⟨_, rfl⟩
  have hs : T.size = 62 := by rw [← hT]; exact tabZ_size
  have ho : T.all (·.oneCell') = true := by rw [← hT]; exact tabZ_one
  have HT : Hid (tabZ = T) := hT
  clear hT
  obtain ⟨U, hU⟩ : ∃ U, tabH major len = U := ⟨_, rfl⟩
  have hs' : U.size = 62 := by rw [← hU]; exact tabH_size _ _
  have ho' : U.all (·.oneCell') = true := by rw [← hU]; exact tabH_one _ _
  have HU : Hid (tabH major len = U) := hU
  clear hU
  go_enter Tryd.func33, Tryd.ntmps33
  go_wp2_with (first | (refine wpList_allocTab rfl rfl (w.heap.size + 1) ?hN T HT.out ?_; (case hN => (rw [World.size_alloc]; done))) | (refine wpList_allocTab rfl rfl (w.heap.size + 1 + 1) ?hN T HT.out ?_; (case hN => rw [World.size_alloc, World.size_alloc])) | (refine wpList_buildTab rfl (.tmp 24) (.tmp 27) rfl major len (by rfl) (by rfl) U HU.out ?_) | (refine wpList_storeTab rfl (.tmp 4) (.tmp 28) rfl (w.heap.size + 1 + 1) U (by rfl) (by rfl) T (by exact heap_alloc3_new _ _ _ _) hs hs' ho' ?_; rw [setRow3]))
  obtain ⟨W0, hW0⟩ : ∃ W0, (((w.alloc (Obj.cells #[Value.int IntKind.i64 major, Value.slice none len cap] 26)).alloc (Obj.cells T 59)).alloc (Obj.cells U 59)) = W0 := ⟨_, rfl⟩
  have b0 : W0.heap.size = w.heap.size + 3 := by rw [← hW0]; simp
  have b1 : Below w.heap.size w W0 := by rw [← hW0]; go_grown
  have b2 : W0.rowIs (w.heap.size + 1 + 1) 59 62 (tabF major len Z 0) := by rw [← hW0, ← HU.out]; have := tab_start ((w.alloc (Obj.cells #[Value.int IntKind.i64 major, Value.slice none len cap] 26)).alloc (Obj.cells T 59)) major len Z; rwa [World.size_alloc, World.size_alloc] at this
  have b3 : W0.heap[w.heap.size + 1]? = some (.cells T 59 (0, 0)) := by rw [← hW0, heap_alloc_old _ _ (by simp), heap_alloc2_new]
  have b4 : W0.heap[w.heap.size]? = some (.cells #[Value.int IntKind.i64 major, Value.slice none len cap] 26 (0, 0)) := by rw [← hW0, heap_alloc_old _ _ (by simp; omega), heap_alloc2_old]
  rw [hW0]
  clear hW0
  go_loopw [5, 32] (fun t i wr => ∃ k : Nat, k ≤ len ∧ i = .int .i64 k ∧ t = .int .i64 (endAt Z k) ∧ (∀ i, i < k → winAt major Z i = true) ∧ wr.rowIs (w.heap.size + 1 + 1) 59 62 (tabF major len Z k) ∧ Below (w.heap.size + 1 + 1) W0 wr) (fun _ i _ => len - (intOf i).toNat)
  case atStart => exact ⟨0, Nat.zero_le _, rfl, rfl, fun i hi => by omega, b2, Below.refl _ _⟩
  case round =>
    obtain ⟨k, hk, rfl, rfl, hall, htab, hbel⟩ := hrel
    have HA : Hid (∀ i, i < k → winAt major Z i = true) := hall
    have he := endAt_nonneg k hall
    clear hall
    obtain ⟨he0, he1⟩ := he
    have he1 := he1 h1
    have hsz : w.heap.size + 1 + 1 < wr.heap.size := by have := hbel.size; omega
    have hsz0 : w.heap.size < wr.heap.size := by omega
    have hsz1 : w.heap.size + 1 < wr.heap.size := by omega
    have hB : Below w.heap.size w wr := b1.trans (hbel.mono (by omega))
    have r4 : wr.heap[w.heap.size]? = some (.cells #[Value.int IntKind.i64 major, Value.slice none len cap] 26 (0, 0)) := (hbel.block _ (by omega)).trans b4
    have r3 : wr.heap[w.heap.size + 1]? = some (.cells T 59 (0, 0)) := (hbel.block _ (by omega)).trans b3
    have m0 : wr.cell? ⟨w.heap.size, 0, none⟩ = some (.int .i64 major) := by simp [World.cell?, r4]
    have R3 : Hid (wr.heap[w.heap.size + 1]? = some (.cells T 59 (0, 0))) := r3
    clear r3 r4
    have HTab : Hid (wr.rowIs (w.heap.size + 1 + 1) 59 62 (tabF major len Z k)) := htab
    clear htab
    have hlt : ¬ k < len := by have := H0.out; omega
    · have e : k = len := by omega
      subst e
      obtain ⟨cs, hcs, hcsz, hcc⟩ := HTab.out
      have htab : IsTab major k Z cs := ⟨hcsz, hcc⟩
      have hcc1 := htab.one
      have HI : Hid (IsTab major k Z cs) := htab
      have HC : Hid (wr.heap[w.heap.size + 1 + 1]? = some (.cells cs 59 (0, 0))) := hcs
      clear htab hcc hcs hlt _hz
      go_wp2_with (first | (refine wpList_load_row rfl 59 (.tmp 4) rfl (w.heap.size + 1 + 1) (by rfl) 59 cs (0, 0) _ HC.out Tryd.underlying59 rfl (by rw [tabSize, hcsz]) ?_) | (refine wpList_storeTab rfl (.tmp 2) (.tmp 54) rfl (w.heap.size + 1) cs (by rfl) (by rfl) T R3.out hs hcsz hcc1 ?_))
      refine bodyPost_ret (tableResults (cs := cs) (b := true) (g := w.heap.size + 1) (t := 59) (fr := (0, 0)) rfl rfl ?_ hcsz) rfl ⟨.inl ⟨HA.out, cs, rfl, HI.out⟩, ?_⟩
      · exact setRow_heap _ _ T _ _ _ R3.out
      · exact below_setRow hB (by omega) _

theorem tableOf_nil (major : Int) (len cap : Nat) (Z : Nat → Int) (w : World) (hl : len ≤ 1048576) (hz : ∀ j, -9223372036854775808 ≤ Z j ∧ Z j ≤ 9223372036854775807) (h0 : len = 0) :
    Calls Tryd.prog 33 #[.agg #[.int .i64 major, .slice none len cap]] w fun e w' =>
      ((frameB major len Z = true ∧ ∃ cs, e = .returned (.tuple #[.agg cs, .bool true]) ∧ IsTab major len Z cs) ∨ (frameB major len Z = false ∧ e = .returned (.tuple #[.agg tabZ, .bool false]))) ∧ Below w.heap.size w w' := by
  by_cases h : major < 1 ∨ 1000 < major ∨ 20 < len
  · refine (tableOf_noN major len cap w hl h).mono ?_
    rintro e w' ⟨rfl, hb⟩
    exact ⟨.inr ⟨frameB_false (by omega), rfl⟩, hb⟩
  · refine (tableOf_yesN major len cap Z w (by omega) (by omega) (by omega) hz h0).mono ?_
    rintro e w' ⟨⟨ha, cs, rfl, hc⟩ | ⟨ha, rfl⟩, hb⟩
    · exact ⟨.inl ⟨frameB_true ⟨by omega, by omega, by omega, ha⟩, cs, rfl, hc⟩, hb⟩
    · exact ⟨.inr ⟨frameB_false (fun hh => ha hh.2.2.2), rfl⟩, hb⟩

set_option maxHeartbeats 1000000 in
set_option maxRecDepth 100000 in
theorem implFrameOk_nil (major : Int) (len cap : Nat) (Z : Nat → Int) (w : World) (hl : len ≤ 1048576) (hz : ∀ j, -9223372036854775808 ≤ Z j ∧ Z j ≤ 9223372036854775807) (h0 : len = 0) :
    Calls Tryd.prog 13 #[.agg #[.int .i64 major, .slice none len cap]] w fun e w' => e = .returned (.bool (frameB major len Z)) ∧ Below w.heap.size w w' := by
  obtain ⟨T, hT⟩ : ∃ T, tabZ = T := ⟨_, rfl⟩
  have hs : T.size = 62 := by rw [← hT]; exact tabZ_size
  have ho : T.all (·.oneCell') = true := by rw [← hT]; exact tabZ_one
  have HT : Hid (tabZ = T) := hT
  clear hT
  have H0 : Hid (len = 0) := h0
  clear h0
  have HZ : Hid (∀ j, -9223372036854775808 ≤ Z j ∧ Z j ≤ 9223372036854775807) := hz
  clear hz
  go_enter Tryd.func13, Tryd.ntmps13
  go_wp2_with fail
  refine (tableOf_nil major len cap Z _ hl HZ.out H0.out).mono ?_
  rintro e w1 ⟨⟨hf, cs, rfl, hc⟩ | ⟨hf, rfl⟩, hb1⟩
  · have hcs := hc.1
    have hco := hc.one
    have HF : Hid (frameB major len Z = true) := hf
    clear hf hc
    have z1 := hb1.size
    simp only [World.size_alloc] at z1
    go_wp2_with (first | (refine wpList_allocTab rfl rfl w1.heap.size rfl T HT.out ?_) | (refine wpList_storeTab rfl (.tmp 3) (.tmp 8) rfl w1.heap.size cs (by rfl) (by rfl) T (by exact heap_alloc_new _ _) hs hcs hco ?_))
    go_ret
    exact ⟨ret_bool HF.out.symm, below_setRow ((((Below.refl _ _).alloc (Nat.le_refl _) _).trans (hb1.mono (by simp))).alloc (by omega) _) (by omega) _⟩
  · have HF : Hid (frameB major len Z = false) := hf
    clear hf
    have z1 := hb1.size
    simp only [World.size_alloc] at z1
    rw [HT.out]
    go_wp2_with (first | (refine wpList_allocTab rfl rfl w1.heap.size rfl T HT.out ?_) | (refine wpList_storeTab rfl (.tmp 3) (.tmp 8) rfl w1.heap.size T (by rfl) (by rfl) T (by exact heap_alloc_new _ _) hs hs ho ?_))
    go_ret
    exact ⟨ret_bool HF.out.symm, below_setRow ((((Below.refl _ _).alloc (Nat.le_refl _) _).trans (hb1.mono (by simp))).alloc (by omega) _) (by omega) _⟩

set_option maxHeartbeats 4000000 in
theorem specFrameText_nil (major : Int) (len cap : Nat) (Z : Nat → Int) (w : World) (hl : len ≤ 1048576) (hz : ∀ j, -9223372036854775808 ≤ Z j ∧ Z j ≤ 9223372036854775807) (h0 : len = 0) :
    Calls Tryd.prog 12 #[.agg #[.int .i64 major, .slice none len cap]] w fun e w' => e = .returned (.string (textB major len Z)) ∧ Below w.heap.size w w' := by
  have H0 : Hid (len = 0) := h0
  clear h0
  have HZ : Hid (∀ j, -9223372036854775808 ≤ Z j ∧ Z j ≤ 9223372036854775807) := hz
  clear hz
  go_enter Tryd.func12, Tryd.ntmps12
  go_wp2_with fail
  have HB0 : Hid (Below w.heap.size w (w.alloc (.cells #[.int .i64 major, .slice none len cap] 26)) ∧ (w.alloc (.cells #[.int .i64 major, .slice none len cap] 26)).cell? ⟨w.heap.size, 0, none⟩ = some (.int .i64 major) ∧ (w.alloc (.cells #[.int .i64 major, .slice none len cap] 26)).cell? ⟨w.heap.size, 1, none⟩ = some (.slice none len cap)) := ⟨(Below.refl _ _).alloc (Nat.le_refl _) _, by simp, by simp⟩
  generalize w.alloc (.cells #[.int .i64 major, .slice none len cap] 26) = W0 at *
  refine (specFrameOk_nil major len cap Z W0 hl HZ.out H0.out).mono ?_
  rintro e w1 ⟨rfl, hb1⟩
  have HB1 : Hid (Below w.heap.size w w1) := HB0.out.1.trans (hb1.mono HB0.out.1.size)
  have m0 : w1.cell? ⟨w.heap.size, 0, none⟩ = some (.int .i64 major) := (hb1.cell (p := ⟨w.heap.size, 0, none⟩) (block_lt_of_cell HB0.out.2.1)).trans HB0.out.2.1
  have m1 : w1.cell? ⟨w.heap.size, 1, none⟩ = some (.slice none len cap) := (hb1.cell (p := ⟨w.heap.size, 1, none⟩) (block_lt_of_cell HB0.out.2.2)).trans HB0.out.2.2
  clear hb1 HB0
  cases hf : frameB major len Z with
  | false =>
    have HF : Hid (frameB major len Z = false) := hf
    clear hf
    go_wp2
    go_ret
    refine ⟨?_, HB1.out⟩
    rw [textB, HF.out]
    rfl
  | true =>
    have HF : Hid (1 ≤ major ∧ major ≤ 1000 ∧ len ≤ 20 ∧ (∀ i, i < len → winAt major Z i = true) ∧ frameB major len Z = true) := ⟨(frameB_out hf).1, (frameB_out hf).2.1, (frameB_out hf).2.2.1, (frameB_out hf).2.2.2, hf⟩
    clear hf
    go_wp2_with fail
    refine (l1Dec_any major (by have := HF.out; omega) (by have := HF.out; omega) w1).mono ?_
    rintro e w2 ⟨rfl, hb2⟩
    have HB2 : Hid (Below w.heap.size w w2 ∧ w2.cell? ⟨w.heap.size, 0, none⟩ = some (.int .i64 major) ∧ w2.cell? ⟨w.heap.size, 1, none⟩ = some (.slice none len cap)) := ⟨HB1.out.trans (hb2.mono HB1.out.size), (hb2.cell (p := ⟨w.heap.size, 0, none⟩) (block_lt_of_cell m0)).trans m0, (hb2.cell (p := ⟨w.heap.size, 1, none⟩) (block_lt_of_cell m1)).trans m1⟩
    clear hb2 m0 m1 HB1
    go_wp2_with fail
    go_loopw [3, 4] (fun t i wr => ∃ k : Nat, k ≤ len ∧ i = .int .i64 k ∧ t = .string (textTo major Z k) ∧ Hid (Two w w2 wr)) (fun _ i _ => len - (intOf i).toNat)
    case atStart => exact ⟨0, Nat.zero_le _, rfl, rfl, ⟨HB2.out.1, Below.refl _ _⟩⟩
    case round =>
      obtain ⟨k, hk, rfl, rfl, HW⟩ := hrel
      have m1 : wr.cell? ⟨w.heap.size, 1, none⟩ = some (.slice none len cap) := (HW.out.2.cell (p := ⟨w.heap.size, 1, none⟩) (block_lt_of_cell HB2.out.2.2)).trans HB2.out.2.2
      have hlt : ¬ k < len := by have := H0.out; omega
      · go_wp2
        go_ret
        have e : k = len := by omega
        subst e
        refine ⟨?_, HW.out.1⟩
        rw [textB, if_pos HF.out.2.2.2.2]
        rfl

set_option maxHeartbeats 2000000 in
theorem implFrameText_nil (major : Int) (len cap : Nat) (Z : Nat → Int) (w : World) (hl : len ≤ 1048576) (hz : ∀ j, -9223372036854775808 ≤ Z j ∧ Z j ≤ 9223372036854775807) (h0 : len = 0) (hp : Pow w) :
    Calls Tryd.prog 10 #[.agg #[.int .i64 major, .slice none len cap]] w fun e w' => e = .returned (.string (textB major len Z)) ∧ Below w.heap.size w w' := by
  obtain ⟨T, hT⟩ : ∃ T, tabZ = T := ⟨_, rfl⟩
  have hs : T.size = 62 := by rw [← hT]; exact tabZ_size
  have ho : T.all (·.oneCell') = true := by rw [← hT]; exact tabZ_one
  have HT : Hid (tabZ = T) := hT
  clear hT
  have H0 : Hid (len = 0) := h0
  clear h0
  have HZ : Hid (∀ j, -9223372036854775808 ≤ Z j ∧ Z j ≤ 9223372036854775807) := hz
  have HP : Hid (Pow w) := hp
  clear hz hp
  have hmf : ∀ (fn : Fn) (first cap : Array Value) (w : World), (Instr.makeFunc fn first cap).run Tryd.prog w = .ok (.func fn first cap) w := fun _ _ _ _ => rfl
  refine (callsIn_wide (n := 6)).1 ?_
  refine callsIn_of_wp_marks Tryd.func10 rfl trivial ?_ rfl
  refine wpIn_wide.2 ?_
  simp only [Tryd.ntmps10, List.size_toArray, List.length_cons, List.length_nil, Nat.reduceAdd, Nat.reduceSub, Array.replicate_succ, Array.replicate_zero, List.push_toArray, List.append_toArray, List.nil_append, List.cons_append]
  go_wp2_with fail
  refine (tableOf_nil major len cap Z _ hl HZ.out H0.out).mono ?_
  rintro e w1 ⟨⟨hf, cs, rfl, hc⟩ | ⟨hf, rfl⟩, hb1⟩
  · have hcs := hc.1
    have hco := hc.one
    have HC : Hid (IsTab major len Z cs) := hc
    have HF : Hid (frameB major len Z = true) := hf
    clear hf hc
    have z1 : w.heap.size < w1.heap.size := by have := hb1.size; simp only [World.size_alloc] at this; omega
    have HB1 : Hid (Below w.heap.size w w1) := ((Below.refl _ _).alloc (Nat.le_refl _) _).trans (hb1.mono (by simp))
    clear hb1
    obtain ⟨r1, r2, r3, r4⟩ := frameB_out HF.out
    have R4 : Hid (∀ i, i < len → winAt major Z i = true) := r4
    clear r4
    have hT0 : ((w1.alloc (.cells T 59)).setRow w1.heap.size cs).heap[w1.heap.size]? = some (.cells cs 59 (0, 0)) := setRow_heap _ _ T _ _ _ (heap_alloc_new _ _)
    have m0 : ((w1.alloc (.cells T 59)).setRow w1.heap.size cs).cell? ⟨w1.heap.size, 0, none⟩ = some (.int .i64 major) := by unfold World.cell?; rw [hT0]; exact HC.out.major
    have HT0 : Hid (((w1.alloc (.cells T 59)).setRow w1.heap.size cs).heap[w1.heap.size]? = some (.cells cs 59 (0, 0)) ∧ Below w.heap.size w ((w1.alloc (.cells T 59)).setRow w1.heap.size cs) ∧ Pow ((w1.alloc (.cells T 59)).setRow w1.heap.size cs)) := ⟨hT0, below_setRow (HB1.out.alloc (by omega) _) (by omega) _, HP.out.below (below_setRow (HB1.out.alloc (by omega) _) (by omega) _) (Nat.le_refl _)⟩
    clear hT0
    go_wp2_with (first | (refine wpList_allocTab rfl rfl w1.heap.size rfl T HT.out ?_) | (refine wpList_storeTab rfl (.tmp 3) (.tmp 10) rfl w1.heap.size cs (by rfl) (by rfl) T (by exact heap_alloc_new _ _) hs hcs hco ?_))
    generalize (w1.alloc (.cells T 59)).setRow w1.heap.size cs = WT at *
    generalize w1.heap.size = gt at *
    refine (decimal_any major (by omega) (by omega) WT HT0.out.2.2).mono ?_
    rintro e w2 ⟨rfl, hb2⟩
    have HT2 : Hid ((w2.alloc (.cells #[.string (decB major)] 9)).heap[gt]? = some (.cells cs 59 (0, 0)) ∧ Below w.heap.size w w2 ∧ Pow w2) := by
      have l1 := (Array.getElem?_eq_some_iff.1 HT0.out.1).1
      refine ⟨(heap_alloc_old _ _ (Nat.lt_of_lt_of_le l1 hb2.size)).trans ((hb2.block _ l1).trans HT0.out.1), HT0.out.2.1.trans (hb2.mono HT0.out.2.1.size), HT0.out.2.2.below hb2 (Nat.le_refl _)⟩
    clear hb2 m0
    go_wp2_with (refine wpList_load_row rfl 59 (.tmp 3) rfl gt (by rfl) 59 cs (0, 0) _ ?hg Tryd.underlying59 rfl (tabSize' cs hcs) ?_; (case hg => exact HT2.out.1))
    obtain ⟨W0, hW0⟩ : ∃ W0, (w2.alloc (.cells #[.string (decB major)] 9)) = W0 := ⟨_, rfl⟩
    have z0 : W0.heap.size = w2.heap.size + 1 := by rw [← hW0, World.size_alloc]
    have g5 : W0.heap[w2.heap.size]? = some (.cells #[.string (decB major)] 9 (0, 0)) := by rw [← hW0]; exact heap_alloc_new _ _
    have gB : Below w.heap.size w W0 := by rw [← hW0]; exact HT2.out.2.1.alloc HT2.out.2.1.size _
    have y2 : w.heap.size ≤ w2.heap.size := HT2.out.2.1.size
    rw [hW0]
    clear hW0
    generalize w2.heap.size = b5 at *
    refine wpIn_wide.1 (wp_rangeBound (gf := 35) (fa := #[.agg cs]) rfl (enters_of Tryd.func35 (by kernel_rfl) rfl) (encs := fun k => #[winV Z k]) (all_iter cs major len Z HC.out r3 W0.heap.size) (fun _ => rfl)
      (fun k X => X.heap[b5]? = some (.cells #[.string (textTo major Z k)] 9 (0, 0)) ∧ Below w.heap.size w X)
      (fun _ => False)
      (fun k X Y h hj => ⟨(h.block _ (by omega)).trans hj.1, hj.2.trans (h.mono (by omega))⟩)
      (fun X Y h hj => hj)
      ⟨g5, gB⟩
      (fun k a' X => ∃ Bx, X.heap[Bx]? = some (.cells #[.int .i64 (Z (k * 3)), .int .i64 (Z (k * 3 + 1)), .int .i64 (Z (k * 3 + 2))] 56 (0, 0)) ∧ a' = ⟨#[Value.agg #[Value.int IntKind.i64 major, Value.slice none len cap],
          Value.pointer (some { block := w.heap.size, off := 0 }), Value.string { data := #[] },
          Value.pointer (some { block := gt, off := 0 }), Value.bool true,
          Value.pointer (some { block := b5, off := 0 }), Value.pointer (some { block := Bx, off := 0 }), Value.tuple #[Value.agg cs, Value.bool true],
          Value.agg #[Value.int IntKind.i64 major, Value.slice none len cap],
          Value.tuple #[Value.agg cs, Value.bool true], Value.agg cs, Value.bool true, Value.bool true,
          Value.bool false, Value.pointer (some { block := gt, off := 0 }), Value.int IntKind.i64 major,
          Value.string (decB major), Value.agg cs, Value.func (Fn.func 35) #[Value.agg cs] #[], winV Z k, undef, undef, undef, undef, undef, undef, undef, undef, undef, undef, undef, undef, undef, undef, undef, undef, undef], []⟩)
      (fun k a' X l r o hl' ha => by
        obtain ⟨Bx, h1, h2⟩ := ha
        exact ⟨Bx, (World.putObj_heap_other (fun e => by subst e; rw [hl'] at h1; cases h1)).trans h1, h2⟩)
      ?assign ?body ?done ?stop)
    case assign =>
      intro l k W K hk hj hz hK
      simp only [winV_at]
      gi_wp2
      have al : ∀ {b : Nat} {o : Obj} (o' : Obj), W.heap[b]? = some o → (W.alloc o').heap[b]? = some o := fun o' h => (Below.heap_alloc _ _ _ (Array.getElem?_eq_some_iff.1 h).1).trans h
      refine hK _ _ (Kept.alloc _ _ _) ⟨al _ hj.1, hj.2.alloc hj.2.size _⟩ ⟨W.heap.size, heap_alloc_new _ _, rfl⟩
    case body =>
      rintro l k a' W hk
      exact absurd hk (by have := H0.out; omega)
    case done =>
      rintro W ⟨j5, hbel⟩ hD
      have d5 : W.cell? ⟨b5, 0, none⟩ = some (.string (textTo major Z len)) := by simp [World.cell?, j5]
      gi_wp2
      go_wp2
      refine ⟨by simp, .inl ⟨_, _, rfl, run_takeDeferred hD, ?_⟩⟩
      exact ⟨_, results_tmp rfl _ _ _, (by rw [textB, if_pos HF.out]; rfl), hbel.trans (below_putObj (by omega) _)⟩
    case stop =>
      rintro W h
      exact h.elim
  · have HF : Hid (frameB major len Z = false) := hf
    clear hf
    have z1 : w.heap.size < w1.heap.size := by have := hb1.size; simp only [World.size_alloc] at this; omega
    have HB1 : Hid (Below w.heap.size w w1) := ((Below.refl _ _).alloc (Nat.le_refl _) _).trans (hb1.mono (by simp))
    clear hb1
    rw [HT.out]
    go_wp2_with (first | (refine wpList_allocTab rfl rfl w1.heap.size rfl T HT.out ?_) | (refine wpList_storeTab rfl (.tmp 3) (.tmp 10) rfl w1.heap.size T (by rfl) (by rfl) T (by exact heap_alloc_new _ _) hs hs ho ?_))
    exact ⟨_, results_tmp rfl _ _ _, (by rw [textB, HF.out]; rfl), below_setRow (HB1.out.alloc (by omega) _) (by omega) _⟩

end Go.Proofs.YtlaeilcipibelaaDoor
