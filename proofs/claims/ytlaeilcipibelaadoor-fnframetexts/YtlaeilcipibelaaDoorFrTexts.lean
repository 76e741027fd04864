/- FnFrameTexts, called at any code: true, and nothing that was there is changed. -/
import Derived.Test.YtlaeilcipibelaaDoorFrDraw
import Derived.Test.YtlaeilcipibelaaDoorRdImpl
import Derived.Test.YtlaeilcipibelaaDoorRdSpec
import Derived.Test.YtlaeilcipibelaaDoorFTextImpl
namespace Go.Proofs.YtlaeilcipibelaaDoor
open Go.RowKit

theorem implText_own {w : World} {base : Nat} {major : Int} {v : Value} {ws : List Win} (h : w.ownsRow base 56 3 v ws.length (cellsW ws)) (hb : ∀ q ∈ ws, Bd3 q) (hl : ws.length ≤ 1048576) (hp : Pow w) :
    Calls Tryd.prog 10 #[.agg #[.int .i64 major, v]] w fun e w' => e = .returned (.string (textB major ws.length (zOf ws))) ∧ Below w.heap.size w w' := by
  rcases own_form h rfl with ⟨rfl, h0⟩ | ⟨g, c, rfl, _, hw⟩
  · have := implFrameText_nil major ws.length 0 (zOf ws) w hl (zOf_bd hb) h0 hp
    rw [h0] at this ⊢
    exact this
  · exact implFrameText_any major g ws.length c (zOf ws) w hl (zOf_bd hb) hw hp
theorem LiesW.own {w : World} {base : Nat} {v : Value} {ws : List Win} (h : w.ownsRow base 56 3 v ws.length (cellsW ws)) : ∃ a c, v = .slice a ws.length c ∧ LiesW w a ws := by
  rcases own_form h rfl with ⟨rfl, h0⟩ | ⟨g, c, rfl, _, hw⟩
  · exact ⟨none, 0, by rw [h0], fun hl => by omega⟩
  · exact ⟨_, c, rfl, fun _ => ⟨g, rfl, hw⟩⟩
/-- What a reader of frames says of a text. -/
theorem RdEnds.flag {s : ByteArray} {w w' : World} {e : Ending} (h : RdEnds s w e w') : ∃ major v ws ok, e = .returned (.tuple #[.agg #[.int .i64 major, v], .bool ok]) ∧ w'.ownsRow w.heap.size 56 3 v ws.length (cellsW ws) ∧ (ok = true → FrameIs s.data.toList major ws ∧ frameB major ws.length (zOf ws) = true) ∧ (ok = false → major = 0 ∧ v = .slice none 0 0 ∧ ws = [] ∧ ∀ major ws, FrameIs s.data.toList major ws → frameB major ws.length (zOf ws) = true → False) := by
  rcases h with ⟨major, v, ws, rfl, h1, h2, h3⟩ | ⟨rfl, h1⟩
  · exact ⟨major, v, ws, true, rfl, h3, fun _ => ⟨h1, h2⟩, fun h => by cases h⟩
  · exact ⟨0, .slice none 0 0, [], false, rfl, ⟨rfl, .inl ⟨rfl, rfl⟩⟩, (fun h => by cases h), fun _ => ⟨rfl, rfl, rfl, h1⟩⟩

/-- The second part of the law: a drawn text, read by both. -/
theorem flags_same {s : ByteArray} {ok ok' : Bool} {m m' : Int} {ws ws' : List Win} (h1 : ok = true → FrameIs s.data.toList m ws ∧ frameB m ws.length (zOf ws) = true) (h0 : ok = false → ∀ major ws, FrameIs s.data.toList major ws → frameB major ws.length (zOf ws) = true → False)
    (k1 : ok' = true → FrameIs s.data.toList m' ws' ∧ frameB m' ws'.length (zOf ws') = true) (k0 : ok' = false → ∀ major ws, FrameIs s.data.toList major ws → frameB major ws.length (zOf ws) = true → False) : ok = ok' := by
  cases ok <;> cases ok'
  · rfl
  · exact (h0 rfl _ _ (k1 rfl).1 (k1 rfl).2).elim
  · exact (k0 rfl _ _ (h1 rfl).1 (h1 rfl).2).elim
  · rfl

set_option maxHeartbeats 4000000 in
theorem frameTexts_any (a : Option Addr) (len cap : Nat) (w : World) (hb : len ≤ 1048576 → Bytes w a len) (he : Env w) :
    Calls Tryd.prog 3 #[.slice a len cap] w fun e w' => e = .returned (.bool true) ∧ Below w.heap.size w w' := by
  by_cases hl : 1048576 < len
  · have hd : decide (1048576 < len) = true := by simp [hl]
    go_enter Tryd.func3, Tryd.ntmps3
    go_wp2_with (go_at_call 8; refine (big_any _ _ _ _).mono ?_; rintro e w' ⟨rfl, rfl⟩; rw [hd])
    go_ret
    exact ⟨rfl, by go_grown⟩
  have hd : decide (1048576 < len) = false := by simp [hl]
  have HBY : Hid (Bytes w a len ∧ Env w) := ⟨hb (by omega), he⟩
  clear hb he
  go_enter Tryd.func3, Tryd.ntmps3
  go_wp2_with (go_at_call 8; refine (big_any _ _ _ _).mono ?_; rintro e w' ⟨rfl, rfl⟩; rw [hd])
  refine (drawFrameText_any a len cap _ (by omega) HBY.out.1).mono ?_
  rintro e w1 ⟨mj, g, c, ws, rfl, hn, hw, hbd, hbel⟩
  have HF1 : Hid (Fr w' (w1.alloc (.cells #[.int .i64 mj, .slice (some ⟨g, 0, none⟩) ws.length c] 26)) w1.heap.size g ws.length c mj (zOf ws)) := Fr.start hw hbel
  have HZ : Hid (∀ q ∈ ws, Bd3 q) := hbd
  clear hw hbel hbd
  go_wp2_with fail
  generalize w1.alloc (.cells #[.int .i64 mj, .slice (some ⟨g, 0, none⟩) ws.length c] 26) = W1 at *
  generalize w1.heap.size = B at *
  refine (implFrameText_any mj g ws.length c (zOf ws) W1 (by omega) (zOf_bd HZ.out) HF1.out.wins (HBY.out.2.below HF1.out.bel).pow).mono ?_
  rintro e W2 ⟨rfl, hb2⟩
  have HF2 : Hid (Fr w' W2 B g ws.length c mj (zOf ws)) := HF1.out.below hb2
  have hts := textB_size (major := mj) (ws := ws)
  clear hb2 HF1
  go_wp2_with fail
  refine (implReadFrame_any _ W2 (by omega) (HBY.out.2.below HF2.out.bel)).mono ?_
  rintro e W3 ⟨he3, hb3⟩
  obtain ⟨m3, v3, ws3, is3, rfl, ho3, ht3, hf3⟩ := he3.flag
  have HF3 : Hid (Fr w' W3 B g ws.length c mj (zOf ws)) := HF2.out.below hb3
  clear hb3 HF2 he3
  cases hF : frameB mj ws.length (zOf ws) with
  | true =>
    have HT : Hid (FrameIs (textB mj ws.length (zOf ws)).data.toList mj ws) := text_is hF HZ.out
    obtain rfl : is3 = true := by
      cases is3 with
      | true => rfl
      | false => exact ((hf3 rfl).2.2.2 _ _ HT.out hF).elim
    obtain ⟨e1, e2⟩ := (ht3 rfl).1.inj HT.out
    subst e1 e2
    obtain ⟨a3, c3, rfl, hl3⟩ := LiesW.own ho3
    have HFB : Hid (frameB m3 ws3.length (zOf ws3) = true) := hF
    have HG : Hid (Fr w' (W3.alloc (.cells #[.int .i64 m3, .slice a3 ws3.length c3] 26)) B g ws3.length c m3 (zOf ws3) ∧ (W3.alloc (.cells #[.int .i64 m3, .slice a3 ws3.length c3] 26)).heap[W3.heap.size]? = some (.cells #[.int .i64 m3, .slice a3 ws3.length c3] 26 (0, 0)) ∧ LiesW (W3.alloc (.cells #[.int .i64 m3, .slice a3 ws3.length c3] 26)) a3 ws3) := ⟨HF3.out.below ((Below.refl _ _).alloc (Nat.le_refl _) _), heap_alloc_new _ _, hl3.below ((Below.refl _ _).alloc (Nat.le_refl _) _)⟩
    have m3' := HG.out.1.m
    have s3' := HG.out.1.s
    clear hl3 ho3 ht3 hf3 HF3 HT hF
    go_wp2_with fail
    generalize W3.alloc (.cells #[.int .i64 m3, .slice a3 ws3.length c3] 26) = W4 at *
    generalize W3.heap.size = B3 at *
    clear m3' s3'
    refine (specFrameText_any m3 g ws3.length c (zOf ws3) W4 (by omega) (zOf_bd HZ.out) HG.out.1.wins).mono ?_
    rintro e W5 ⟨rfl, hb5⟩
    have HG5 : Hid (Fr w' W5 B g ws3.length c m3 (zOf ws3) ∧ W5.heap[B3]? = some (.cells #[.int .i64 m3, .slice a3 ws3.length c3] 26 (0, 0)) ∧ LiesW W5 a3 ws3) := ⟨HG.out.1.below hb5, (hb5.block _ (Array.getElem?_eq_some_iff.1 HG.out.2.1).1).trans HG.out.2.1, HG.out.2.2.below hb5⟩
    have m5' := HG5.out.1.m
    have s5' := HG5.out.1.s
    clear hb5 HG
    generalize textB m3 ws3.length (zOf ws3) = tx at *
    go_wp2_with fail
    clear m5' s5'
    refine (implFrameOk_any m3 g ws3.length c (zOf ws3) W5 (by omega) (zOf_bd HZ.out) HG5.out.1.wins).mono ?_
    rintro e W6 ⟨rfl, hb6⟩
    rw [HFB.out]
    have HG6 : Hid (Fr w' W6 B g ws3.length c m3 (zOf ws3) ∧ W6.heap[B3]? = some (.cells #[.int .i64 m3, .slice a3 ws3.length c3] 26 (0, 0)) ∧ LiesW W6 a3 ws3) := ⟨HG5.out.1.below hb6, (hb6.block _ (Array.getElem?_eq_some_iff.1 HG5.out.2.1).1).trans HG5.out.2.1, HG5.out.2.2.below hb6⟩
    have m6' := HG6.out.1.m
    have s6' := HG6.out.1.s
    have g0 : W6.cell? ⟨B3, 0, none⟩ = some (.int .i64 m3) := by rw [cell_of_row _ _ _ _ _ _ HG6.out.2.1]; rfl
    have g1 : W6.cell? ⟨B3, 1, none⟩ = some (.slice a3 ws3.length c3) := by rw [cell_of_row _ _ _ _ _ _ HG6.out.2.1]; rfl
    clear hb6 HG5
    go_wp2_with fail
    clear m6' s6' g0 g1
    refine (sameFrame_any m3 a3 (some ⟨g, 0, none⟩) ws3 c3 c W6 (by omega) HG6.out.2.2 (fun _ => ⟨g, rfl, HG6.out.1.wins⟩)).mono ?_
    rintro e W7 ⟨rfl, hb7⟩
    have HB : Hid (Below w'.heap.size w' W7) := (HG6.out.1.below hb7).bel
    clear hb7 HG6
    go_wp2_with fail
    refine (drawReadFrame_any a len cap _ (by omega) (HBY.out.1.below HB.out)).mono ?_
    rintro e V1 ⟨t, rfl, htz, hv1⟩
    have HV1 : Hid (Below w'.heap.size w' V1) := HB.out.trans (hv1.mono HB.out.size)
    clear hv1 HB
    go_wp2_with fail
    refine (implReadFrame_any t V1 htz (HBY.out.2.below HV1.out)).mono ?_
    rintro e V2 ⟨he4, hv2⟩
    obtain ⟨m4, v4, ws4, fine, rfl, ho4, ht4, hf4⟩ := he4.flag
    obtain ⟨a4, c4, rfl, _⟩ := LiesW.own ho4
    have HV2 : Hid (Below w'.heap.size w' (V2.alloc (.cells #[.int .i64 m4, .slice a4 ws4.length c4] 26)) ∧ (V2.alloc (.cells #[.int .i64 m4, .slice a4 ws4.length c4] 26)).heap[V2.heap.size]? = some (.cells #[.int .i64 m4, .slice a4 ws4.length c4] 26 (0, 0)) ∧ (V2.alloc (.cells #[.int .i64 m4, .slice a4 ws4.length c4] 26)).ownsRow V1.heap.size 56 3 (.slice a4 ws4.length c4) ws4.length (cellsW ws4)) := ⟨(HV1.out.trans (hv2.mono HV1.out.size)).alloc (Nat.le_trans HV1.out.size hv2.size) _, heap_alloc_new _ _, ho4.alloc _⟩
    have H4 : Hid ((fine = true → FrameIs t.data.toList m4 ws4 ∧ frameB m4 ws4.length (zOf ws4) = true) ∧ (fine = false → ∀ major ws, FrameIs t.data.toList major ws → frameB major ws.length (zOf ws) = true → False)) := ⟨ht4, fun h => (hf4 h).2.2.2⟩
    clear he4 hv2 ho4 ht4 hf4
    go_wp2_with fail
    generalize V2.alloc (.cells #[.int .i64 m4, .slice a4 ws4.length c4] 26) = V3 at *
    generalize V2.heap.size = B4 at *
    refine (specReadFrame_any t V3 htz).mono ?_
    rintro e V4 ⟨he5, hv4⟩
    obtain ⟨m5, v5, ws5, told, rfl, ho5, ht5, hf5⟩ := he5.flag
    obtain ⟨a5, c5, rfl, _⟩ := LiesW.own ho5
    have HFL : Hid (fine = told) := flags_same H4.out.1 H4.out.2 ht5 (fun h => (hf5 h).2.2.2)
    obtain rfl : fine = told := HFL.out
    have HV4 : Hid (Below w'.heap.size w' (V4.alloc (.cells #[.int .i64 m5, .slice a5 ws5.length c5] 26)) ∧ (V4.alloc (.cells #[.int .i64 m5, .slice a5 ws5.length c5] 26)).heap[B4]? = some (.cells #[.int .i64 m4, .slice a4 ws4.length c4] 26 (0, 0)) ∧ (V4.alloc (.cells #[.int .i64 m5, .slice a5 ws5.length c5] 26)).ownsRow V1.heap.size 56 3 (.slice a4 ws4.length c4) ws4.length (cellsW ws4)) := by
      have hB4 : V4.heap[B4]? = some (.cells #[.int .i64 m4, .slice a4 ws4.length c4] 26 (0, 0)) := (hv4.block _ (Array.getElem?_eq_some_iff.1 HV2.out.2.1).1).trans HV2.out.2.1
      have hbl := HV2.out.1.trans (hv4.mono HV2.out.1.size)
      exact ⟨hbl.alloc hbl.size _, (heap_alloc_old _ _ (Array.getElem?_eq_some_iff.1 hB4).1).trans hB4, (ownsRow_below HV2.out.2.2 hv4).alloc _⟩
    clear he5 hv4 ho5 ht5 hf5 HV2 HFL
    cases fine with
    | false =>
      go_wp2
      go_ret
      exact ⟨rfl, HV4.out.1⟩
    | true =>
      have HT4 := H4.out.1 rfl
      have htx : textB m4 ws4.length (zOf ws4) = t := by rw [textB, if_pos HT4.2]; exact frame_text HT4.1
      have h20 := (frameB_out HT4.2).2.2.1
      have x0 : (V4.alloc (.cells #[.int .i64 m5, .slice a5 ws5.length c5] 26)).cell? ⟨B4, 0, none⟩ = some (.int .i64 m4) := by rw [cell_of_row _ _ _ _ _ _ HV4.out.2.1]; rfl
      have x1 : (V4.alloc (.cells #[.int .i64 m5, .slice a5 ws5.length c5] 26)).cell? ⟨B4, 1, none⟩ = some (.slice a4 ws4.length c4) := by rw [cell_of_row _ _ _ _ _ _ HV4.out.2.1]; rfl
      have hp4 := (HBY.out.2.below HV4.out.1).pow
      go_wp2_with fail
      clear x0 x1
      refine (implText_own (major := m4) HV4.out.2.2 HT4.1.2.2 (by omega) hp4).mono ?_
      rintro e V5 ⟨rfl, hb9⟩
      rw [htx]
      have HV5 : Hid (Below w'.heap.size w' V5) := HV4.out.1.trans (hb9.mono HV4.out.1.size)
      clear hb9
      go_wp2
      go_ret
      exact ⟨ret_bool (by simp), HV5.out⟩
  | false =>
    have htx : textB mj ws.length (zOf ws) = ⟨#[]⟩ := by rw [textB, if_neg (by rw [hF]; simp)]
    obtain rfl : is3 = false := by
      cases is3 with
      | false => rfl
      | true =>
        have h1 := frame_nonempty (s := textB mj ws.length (zOf ws)) (ht3 rfl).1
        rw [htx] at h1
        exact absurd rfl h1
    obtain ⟨rfl, rfl, rfl, _⟩ := hf3 rfl
    have HFB : Hid (frameB mj ws.length (zOf ws) = false) := hF
    have HG : Hid (Fr w' (W3.alloc (.cells #[.int .i64 0, .slice none 0 0] 26)) B g ws.length c mj (zOf ws)) := HF3.out.below ((Below.refl _ _).alloc (Nat.le_refl _) _)
    have m3' := HG.out.m
    have s3' := HG.out.s
    clear ho3 ht3 hf3 HF3 htx hF
    go_wp2_with fail
    generalize W3.alloc (.cells #[.int .i64 0, .slice none 0 0] 26) = W4 at *
    clear m3' s3'
    refine (specFrameText_any mj g ws.length c (zOf ws) W4 (by omega) (zOf_bd HZ.out) HG.out.wins).mono ?_
    rintro e W5 ⟨rfl, hb5⟩
    have HG5 : Hid (Fr w' W5 B g ws.length c mj (zOf ws)) := HG.out.below hb5
    have m5' := HG5.out.m
    have s5' := HG5.out.s
    clear hb5 HG
    generalize textB mj ws.length (zOf ws) = tx at *
    go_wp2_with fail
    clear m5' s5'
    refine (implFrameOk_any mj g ws.length c (zOf ws) W5 (by omega) (zOf_bd HZ.out) HG5.out.wins).mono ?_
    rintro e W6 ⟨rfl, hb6⟩
    rw [HFB.out]
    have HB : Hid (Below w'.heap.size w' W6) := (HG5.out.below hb6).bel
    clear hb6 HG5
    go_wp2_with fail
    refine (drawReadFrame_any a len cap _ (by omega) (HBY.out.1.below HB.out)).mono ?_
    rintro e V1 ⟨t, rfl, htz, hv1⟩
    have HV1 : Hid (Below w'.heap.size w' V1) := HB.out.trans (hv1.mono HB.out.size)
    clear hv1 HB
    go_wp2_with fail
    refine (implReadFrame_any t V1 htz (HBY.out.2.below HV1.out)).mono ?_
    rintro e V2 ⟨he4, hv2⟩
    obtain ⟨m4, v4, ws4, fine, rfl, ho4, ht4, hf4⟩ := he4.flag
    obtain ⟨a4, c4, rfl, _⟩ := LiesW.own ho4
    have HV2 : Hid (Below w'.heap.size w' (V2.alloc (.cells #[.int .i64 m4, .slice a4 ws4.length c4] 26)) ∧ (V2.alloc (.cells #[.int .i64 m4, .slice a4 ws4.length c4] 26)).heap[V2.heap.size]? = some (.cells #[.int .i64 m4, .slice a4 ws4.length c4] 26 (0, 0)) ∧ (V2.alloc (.cells #[.int .i64 m4, .slice a4 ws4.length c4] 26)).ownsRow V1.heap.size 56 3 (.slice a4 ws4.length c4) ws4.length (cellsW ws4)) := ⟨(HV1.out.trans (hv2.mono HV1.out.size)).alloc (Nat.le_trans HV1.out.size hv2.size) _, heap_alloc_new _ _, ho4.alloc _⟩
    have H4 : Hid ((fine = true → FrameIs t.data.toList m4 ws4 ∧ frameB m4 ws4.length (zOf ws4) = true) ∧ (fine = false → ∀ major ws, FrameIs t.data.toList major ws → frameB major ws.length (zOf ws) = true → False)) := ⟨ht4, fun h => (hf4 h).2.2.2⟩
    clear he4 hv2 ho4 ht4 hf4
    go_wp2_with fail
    generalize V2.alloc (.cells #[.int .i64 m4, .slice a4 ws4.length c4] 26) = V3 at *
    generalize V2.heap.size = B4 at *
    refine (specReadFrame_any t V3 htz).mono ?_
    rintro e V4 ⟨he5, hv4⟩
    obtain ⟨m5, v5, ws5, told, rfl, ho5, ht5, hf5⟩ := he5.flag
    obtain ⟨a5, c5, rfl, _⟩ := LiesW.own ho5
    have HFL : Hid (fine = told) := flags_same H4.out.1 H4.out.2 ht5 (fun h => (hf5 h).2.2.2)
    obtain rfl : fine = told := HFL.out
    have HV4 : Hid (Below w'.heap.size w' (V4.alloc (.cells #[.int .i64 m5, .slice a5 ws5.length c5] 26)) ∧ (V4.alloc (.cells #[.int .i64 m5, .slice a5 ws5.length c5] 26)).heap[B4]? = some (.cells #[.int .i64 m4, .slice a4 ws4.length c4] 26 (0, 0)) ∧ (V4.alloc (.cells #[.int .i64 m5, .slice a5 ws5.length c5] 26)).ownsRow V1.heap.size 56 3 (.slice a4 ws4.length c4) ws4.length (cellsW ws4)) := by
      have hB4 : V4.heap[B4]? = some (.cells #[.int .i64 m4, .slice a4 ws4.length c4] 26 (0, 0)) := (hv4.block _ (Array.getElem?_eq_some_iff.1 HV2.out.2.1).1).trans HV2.out.2.1
      have hbl := HV2.out.1.trans (hv4.mono HV2.out.1.size)
      exact ⟨hbl.alloc hbl.size _, (heap_alloc_old _ _ (Array.getElem?_eq_some_iff.1 hB4).1).trans hB4, (ownsRow_below HV2.out.2.2 hv4).alloc _⟩
    clear he5 hv4 ho5 ht5 hf5 HV2 HFL
    cases fine with
    | false =>
      go_wp2
      go_ret
      exact ⟨rfl, HV4.out.1⟩
    | true =>
      have HT4 := H4.out.1 rfl
      have htx : textB m4 ws4.length (zOf ws4) = t := by rw [textB, if_pos HT4.2]; exact frame_text HT4.1
      have h20 := (frameB_out HT4.2).2.2.1
      have x0 : (V4.alloc (.cells #[.int .i64 m5, .slice a5 ws5.length c5] 26)).cell? ⟨B4, 0, none⟩ = some (.int .i64 m4) := by rw [cell_of_row _ _ _ _ _ _ HV4.out.2.1]; rfl
      have x1 : (V4.alloc (.cells #[.int .i64 m5, .slice a5 ws5.length c5] 26)).cell? ⟨B4, 1, none⟩ = some (.slice a4 ws4.length c4) := by rw [cell_of_row _ _ _ _ _ _ HV4.out.2.1]; rfl
      have hp4 := (HBY.out.2.below HV4.out.1).pow
      go_wp2_with fail
      clear x0 x1
      refine (implText_own (major := m4) HV4.out.2.2 HT4.1.2.2 (by omega) hp4).mono ?_
      rintro e V5 ⟨rfl, hb9⟩
      rw [htx]
      have HV5 : Hid (Below w'.heap.size w' V5) := HV4.out.1.trans (hb9.mono HV4.out.1.size)
      clear hb9
      go_wp2
      go_ret
      exact ⟨ret_bool (by simp), HV5.out⟩

end Go.Proofs.YtlaeilcipibelaaDoor
