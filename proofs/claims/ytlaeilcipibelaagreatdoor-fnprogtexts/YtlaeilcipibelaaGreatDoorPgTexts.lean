/- FnProgTexts, called at any code: true, and nothing that was there is changed. -/
import Derived.Test.YtlaeilcipibelaaGreatDoorPgProg
import Derived.Test.YtlaeilcipibelaaGreatDoorRdOrNone
import Derived.Test.YtlaeilcipibelaaGreatDoorProgTextI
import Derived.Test.YtlaeilcipibelaaGreatDoorBigL
namespace Go.Proofs.YtlaeilcipibelaaGreatDoor
open Go.RowKit

/-- What ReadProg says of a text, with where its answer lies. -/
theorem PRdEnds.flag {s : ByteArray} {w w' : World} {e : Ending} (h : PRdEnds s w e w') : ∃ a os c ok, e = .returned (.tuple #[.slice a os.length c, .bool ok]) ∧ LiesO w' a os ∧ (ok = true → ProgIs s os) ∧ (ok = false → os = [] ∧ ∀ os', ¬ ProgIs s os') := by
  rcases h with ⟨g, os, c, h1, rfl, _, cur, h2, h3, h4⟩ | ⟨rfl, h1⟩
  · exact ⟨_, os, c, true, rfl, fun _ => ⟨g, rfl, (Array.getElem?_eq_some_iff.1 h2).1, fun j hj => by rw [cell_of_row _ _ _ _ _ _ h2]; exact h4 j hj⟩, fun _ => h1, fun h => by cases h⟩
  · exact ⟨none, [], 0, false, rfl, (fun h => by simp at h), (fun h => by cases h), fun _ => ⟨rfl, h1⟩⟩
theorem pflags_same {s : ByteArray} {ok ok' : Bool} {os os' : List OpD} (h1 : ok = true → ProgIs s os) (h0 : ok = false → ∀ os', ¬ ProgIs s os') (k1 : ok' = true → ProgIs s os') (k0 : ok' = false → ∀ os', ¬ ProgIs s os') : ok = ok' := by
  cases ok <;> cases ok'
  · rfl
  · exact absurd (k1 rfl) (h0 rfl _)
  · exact absurd (h1 rfl) (k0 rfl _)
  · rfl
theorem progIs_sz {s : ByteArray} {os : List OpD} (h : ProgIs s os) : ∀ o ∈ os, o.2.2.2.size ≤ 1048576 := fun o ho => by
  rcases opOk_out (h.2.2 o ho) with ⟨_, _, _, h⟩ | ⟨_, _, _, _, _, h⟩
  · rw [h]; exact Nat.zero_le _
  · have := plainR_size h; omega
theorem text_empty {s : ByteArray} {os : List OpD} (hs : s = progText os.length (kOf os) (nOf os) (mOf os) (sOf os)) : (progB os.length (kOf os) (nOf os) (mOf os) (sOf os) = true → ProgIs s os) ∧ (progB os.length (kOf os) (nOf os) (mOf os) (sOf os) = false → ∀ os', ¬ ProgIs s os') := by
  refine ⟨fun hb => ?_, fun hb os' ho => ?_⟩
  · refine (text_iff os).1 ⟨hs.symm, fun h0 => ?_⟩
    obtain ⟨b1, b2, b3⟩ := (progB_iff os).1 hb
    have e : s.data.toList = Lib.join (os.map (fun o => (opTx o).data.toList)) [59] := by rw [hs, progText, if_pos hb, pT_join, texts_of]
    cases os with
    | nil => simp at b1
    | cons o r =>
      rw [h0] at e
      exact join_ne (opTx_some (b3 o (by simp))) e.symm
  · have h1 := ((text_iff os').2 ho).2
    apply h1
    rw [hs, progText, if_neg (by rw [hb]; simp)]

set_option maxHeartbeats 8000000 in
theorem progTexts_any (a : Option Addr) (len cap : Nat) (w : World) (hb : len ≤ 1048576 → Bytes w a len) (he : EnvW w) :
    Calls Tryz.prog 3 #[.slice a len cap] w fun e w' => e = .returned (.bool true) ∧ Below w.heap.size w w' := by
  by_cases hl : 1048576 < len
  · have hd : decide (1048576 < len) = true := by simp [hl]
    go_enter Tryz.func3, Tryz.ntmps3
    go_wp2_with (go_at_call 4; refine (big_any _ _ _ _).mono ?_; rintro e w' ⟨rfl, rfl⟩; rw [hd])
    go_ret
    exact ⟨rfl, by go_grown⟩
  have hd : decide (1048576 < len) = false := by simp [hl]
  have HBY : Hid (Bytes w a len ∧ EnvW w) := ⟨hb (by omega), he⟩
  clear hb he
  go_enter Tryz.func3, Tryz.ntmps3
  go_wp2_with (go_at_call 4; refine (big_any _ _ _ _).mono ?_; rintro e w' ⟨rfl, rfl⟩; rw [hd])
  refine (drawProgText_any a len cap _ (by omega) HBY.out.1).mono ?_
  rintro e W1 ⟨g, c, os, rfl, hn, hw, hsz, hbel⟩
  have H1 : Hid (ListAt W1 g os ∧ (∀ o ∈ os, o.2.2.2.size ≤ 1048576) ∧ Below w'.heap.size w' W1) := ⟨hw, three_le hsz, hbel⟩
  clear hw hsz hbel
  go_wp2_with fail
  refine (implProgText_any g os.length c _ _ _ _ W1 (by omega) (fun i _ => sOf_size H1.out.2.1 i) H1.out.1 (HBY.out.2.below H1.out.2.2).env.pow (HBY.out.2.below H1.out.2.2).words).mono ?_
  rintro e W2 ⟨rfl, hb2⟩
  have H2 : Hid (ListAt W2 g os ∧ Below w'.heap.size w' W2) := ⟨OpsAt.below H1.out.1 hb2, H1.out.2.2.trans (hb2.mono H1.out.2.2.size)⟩
  have hts := progText_size os
  obtain ⟨tx, htx⟩ : ∃ tx, tx = progText os.length (kOf os) (nOf os) (mOf os) (sOf os) := ⟨_, rfl⟩
  have HTX : Hid (tx = progText os.length (kOf os) (nOf os) (mOf os) (sOf os)) := htx
  rw [← htx] at hts
  rw [← htx]
  clear hb2 htx
  go_wp2_with fail
  refine (implReadProg_any tx W2 (by omega) (HBY.out.2.below H2.out.2)).mono ?_
  rintro e W3 ⟨he3, hb3⟩
  obtain ⟨a3, os3, c3, is3, rfl, hl3, ht3, hf3⟩ := he3.flag
  have H3 : Hid (ListAt W3 g os ∧ Below w'.heap.size w' W3 ∧ LiesO W3 a3 os3) := ⟨OpsAt.below H2.out.1 hb3, H2.out.2.trans (hb3.mono H2.out.2.size), hl3⟩
  have HF : Hid ((is3 = true → ProgIs tx os3) ∧ (is3 = false → os3 = [] ∧ ∀ os', ¬ ProgIs tx os')) := ⟨ht3, hf3⟩
  clear he3 hb3 hl3 ht3 hf3 H2
  go_wp2_with fail
  refine (specProg_list H3.out.1 (by omega) H1.out.2.1).mono ?_
  rintro e W4 ⟨rfl, hb4⟩
  rw [← HTX.out]
  have H4 : Hid (ListAt W4 g os ∧ Below w'.heap.size w' W4 ∧ LiesO W4 a3 os3) := ⟨OpsAt.below H3.out.1 hb4, H3.out.2.1.trans (hb4.mono H3.out.2.1.size), H3.out.2.2.below hb4⟩
  clear hb4 H3
  go_wp2_with fail
  refine (implProgOk_any g os.length c _ _ _ _ W4 (by omega) (fun i _ => sOf_size H1.out.2.1 i) H4.out.1).mono ?_
  rintro e W5 ⟨rfl, hb5⟩
  have H5 : Hid (ListAt W5 g os ∧ Below w'.heap.size w' W5 ∧ LiesO W5 a3 os3) := ⟨OpsAt.below H4.out.1 hb5, H4.out.2.1.trans (hb5.mono H4.out.2.1.size), H4.out.2.2.below hb5⟩
  clear hb5 H4
  have HS : Hid (is3 = progB os.length (kOf os) (nOf os) (mOf os) (sOf os)) := by
    have h := text_empty HTX.out
    show is3 = _
    cases hp : progB os.length (kOf os) (nOf os) (mOf os) (sOf os) with
    | true => exact pflags_same HF.out.1 (fun h => (HF.out.2 h).2) (fun _ => h.1 hp) (fun h => by cases h)
    | false => exact pflags_same (os' := []) HF.out.1 (fun h => (HF.out.2 h).2) (fun h => by cases h) (fun _ => h.2 hp)
  rw [← HS.out]
  cases is3 with
  | true =>
    have HI : Hid (os3 = os) := ((text_empty HTX.out).1 HS.out.symm).inj (HF.out.1 rfl)
    obtain rfl : os3 = os := HI.out
    go_wp2_with fail
    refine (sameOps_any a3 (some ⟨g, 0, none⟩) os3 c3 c W5 (by omega) H5.out.2.2 (fun _ => ⟨g, rfl, H5.out.1⟩)).mono ?_
    rintro e W6 ⟨rfl, hb6⟩
    have HB : Hid (Below w'.heap.size w' W6) := H5.out.2.1.trans (hb6.mono H5.out.2.1.size)
    clear hb6 H5 HS HF HTX H1
    go_wp2_with fail
    refine (drawReadProg_any a len cap _ (by omega) (HBY.out.1.below HB.out)).mono ?_
    rintro e V1 ⟨t, rfl, htz, hv1⟩
    have HV1 : Hid (Below w'.heap.size w' V1) := HB.out.trans (hv1.mono HB.out.size)
    clear hv1 HB
    go_wp2_with fail
    refine (implReadProg_any t V1 htz (HBY.out.2.below HV1.out)).mono ?_
    rintro e V2 ⟨he4, hv2⟩
    obtain ⟨a4, os4, c4, fine, rfl, hl4, ht4, hf4⟩ := he4.flag
    have HV2 : Hid (Below w'.heap.size w' V2 ∧ LiesO V2 a4 os4) := ⟨HV1.out.trans (hv2.mono HV1.out.size), hl4⟩
    have H4 : Hid ((fine = true → ProgIs t os4) ∧ (fine = false → ∀ os', ¬ ProgIs t os')) := ⟨ht4, fun h => (hf4 h).2⟩
    clear he4 hv2 hl4 ht4 hf4
    go_wp2_with fail
    refine (specReadProg_any t V2 htz).mono ?_
    rintro e V3 ⟨he5, hv3⟩
    obtain ⟨a5, os5, c5, told, rfl, hl5, ht5, hf5⟩ := he5.flag
    obtain rfl : fine = told := pflags_same H4.out.1 H4.out.2 ht5 (fun h => (hf5 h).2)
    have HV3 : Hid (Below w'.heap.size w' V3 ∧ LiesO V3 a4 os4) := ⟨HV2.out.1.trans (hv3.mono HV2.out.1.size), HV2.out.2.below hv3⟩
    clear he5 hv3 hl5 ht5 hf5 HV2
    cases fine with
    | false =>
      go_wp2
      go_ret
      exact ⟨rfl, HV3.out.1⟩
    | true =>
      have HI4 := H4.out.1 rfl
      have HTT : Hid (progText os4.length (kOf os4) (nOf os4) (mOf os4) (sOf os4) = t) := ((text_iff os4).2 HI4).1
      have h20 := HI4.2.1
      obtain ⟨g4, rfl, hg4⟩ := HV3.out.2 HI4.pos
      go_wp2_with fail
      refine (implProgText_any g4 os4.length c4 _ _ _ _ V3 (by omega) (fun i _ => sOf_size (progIs_sz HI4) i) hg4 (HBY.out.2.below HV3.out.1).env.pow (HBY.out.2.below HV3.out.1).words).mono ?_
      rintro e V4 ⟨rfl, hv4⟩
      rw [HTT.out]
      have HV4 : Hid (Below w'.heap.size w' V4) := HV3.out.1.trans (hv4.mono HV3.out.1.size)
      clear hv4
      go_wp2
      go_ret
      exact ⟨ret_bool (by simp), HV4.out⟩
  | false =>
    have HB : Hid (Below w'.heap.size w' W5) := H5.out.2.1
    clear H5 HS HF HTX H1
    go_wp2_with fail
    refine (drawReadProg_any a len cap _ (by omega) (HBY.out.1.below HB.out)).mono ?_
    rintro e V1 ⟨t, rfl, htz, hv1⟩
    have HV1 : Hid (Below w'.heap.size w' V1) := HB.out.trans (hv1.mono HB.out.size)
    clear hv1 HB
    go_wp2_with fail
    refine (implReadProg_any t V1 htz (HBY.out.2.below HV1.out)).mono ?_
    rintro e V2 ⟨he4, hv2⟩
    obtain ⟨a4, os4, c4, fine, rfl, hl4, ht4, hf4⟩ := he4.flag
    have HV2 : Hid (Below w'.heap.size w' V2 ∧ LiesO V2 a4 os4) := ⟨HV1.out.trans (hv2.mono HV1.out.size), hl4⟩
    have H4 : Hid ((fine = true → ProgIs t os4) ∧ (fine = false → ∀ os', ¬ ProgIs t os')) := ⟨ht4, fun h => (hf4 h).2⟩
    clear he4 hv2 hl4 ht4 hf4
    go_wp2_with fail
    refine (specReadProg_any t V2 htz).mono ?_
    rintro e V3 ⟨he5, hv3⟩
    obtain ⟨a5, os5, c5, told, rfl, hl5, ht5, hf5⟩ := he5.flag
    obtain rfl : fine = told := pflags_same H4.out.1 H4.out.2 ht5 (fun h => (hf5 h).2)
    have HV3 : Hid (Below w'.heap.size w' V3 ∧ LiesO V3 a4 os4) := ⟨HV2.out.1.trans (hv3.mono HV2.out.1.size), HV2.out.2.below hv3⟩
    clear he5 hv3 hl5 ht5 hf5 HV2
    cases fine with
    | false =>
      go_wp2
      go_ret
      exact ⟨rfl, HV3.out.1⟩
    | true =>
      have HI4 := H4.out.1 rfl
      have HTT : Hid (progText os4.length (kOf os4) (nOf os4) (mOf os4) (sOf os4) = t) := ((text_iff os4).2 HI4).1
      have h20 := HI4.2.1
      obtain ⟨g4, rfl, hg4⟩ := HV3.out.2 HI4.pos
      go_wp2_with fail
      refine (implProgText_any g4 os4.length c4 _ _ _ _ V3 (by omega) (fun i _ => sOf_size (progIs_sz HI4) i) hg4 (HBY.out.2.below HV3.out.1).env.pow (HBY.out.2.below HV3.out.1).words).mono ?_
      rintro e V4 ⟨rfl, hv4⟩
      rw [HTT.out]
      have HV4 : Hid (Below w'.heap.size w' V4) := HV3.out.1.trans (hv4.mono HV3.out.1.size)
      clear hv4
      go_wp2
      go_ret
      exact ⟨ret_bool (by simp), HV4.out⟩

end Go.Proofs.YtlaeilcipibelaaGreatDoor
