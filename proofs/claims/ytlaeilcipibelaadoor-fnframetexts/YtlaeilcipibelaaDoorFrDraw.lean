/- Drawn frames and texts of frames; two frames held against each other. -/
import Derived.Test.YtlaeilcipibelaaDoorRdBase
import Derived.Test.YtlaeilcipibelaaDoorOpenRd
import Derived.Test.YtlaeilcipibelaaDoorHurt
import Derived.Test.YtlaeilcipibelaaDoorLawB0
import Derived.Deep.QuietTactic
import Derived.BigQuiet
namespace Go.Proofs.YtlaeilcipibelaaDoor
open Go.RowKit

/-- The windows of a frame, out of their numbers. -/
def wsOf (n : Nat) (Z : Nat → Int) : List Win := (List.range n).map fun i => (Z (i * 3), Z (i * 3 + 1), Z (i * 3 + 2))
theorem wsOf_len (n : Nat) (Z : Nat → Int) : (wsOf n Z).length = n := by
  unfold wsOf
  exact (List.length_map (α := Nat) (β := Win) _).trans List.length_range
theorem wsOf_at {n : Nat} {Z : Nat → Int} {i : Nat} (h : i < n) : (wsOf n Z)[i]? = some (Z (i * 3), Z (i * 3 + 1), Z (i * 3 + 2)) := by
  unfold wsOf
  refine (List.getElem?_map (α := Nat) (β := Win)).trans ?_
  rw [List.getElem?_range h]
  rfl
theorem wsOf_z {n : Nat} {Z : Nat → Int} {j : Nat} (hj : j < n * 3) : zOf (wsOf n Z) j = Z j := by
  have hi : j / 3 < n := by omega
  have h := wsOf_at (Z := Z) hi
  have h3 : j % 3 = 0 ∨ j % 3 = 1 ∨ j % 3 = 2 := by omega
  rcases h3 with e | e | e
  · have ej : j = j / 3 * 3 := by omega
    rw [ej, zOf_0 h]
  · have ej : j = j / 3 * 3 + 1 := by omega
    rw [ej, zOf_1 h]
  · have ej : j = j / 3 * 3 + 2 := by omega
    rw [ej, zOf_2 h]
theorem wsOf_wins {w : World} {g n : Nat} {Z : Nat → Int} (h : WinsAt w g n Z) : WinsAt w g (wsOf n Z).length (zOf (wsOf n Z)) := by
  rw [wsOf_len]
  exact ⟨h.1, fun j hj => by rw [wsOf_z hj]; exact h.2 j hj⟩
theorem wsOf_bd {n : Nat} {Z : Nat → Int} (h : ∀ j, -1000 ≤ Z j ∧ Z j ≤ 1000) : ∀ q ∈ wsOf n Z, Bd3 q := by
  intro q hq
  obtain ⟨i, _, rfl⟩ := List.mem_map.1 hq
  have h0 := h (i * 3)
  have h1 := h (i * 3 + 1)
  have h2 := h (i * 3 + 2)
  exact ⟨⟨by show _ ≤ Z (i * 3); omega, by show Z (i * 3) ≤ _; omega⟩, ⟨by show _ ≤ Z (i * 3 + 1); omega, by show Z (i * 3 + 1) ≤ _; omega⟩, ⟨by show _ ≤ Z (i * 3 + 2); omega, by show Z (i * 3 + 2) ≤ _; omega⟩⟩
/-- A right frame's text is that of the frame. -/
theorem text_is {major : Int} {ws : List Win} (hf : frameB major ws.length (zOf ws) = true) (hb : ∀ q ∈ ws, Bd3 q) : FrameIs (textB major ws.length (zOf ws)).data.toList major ws := by
  obtain ⟨h1, h2, _, _⟩ := frameB_out hf
  refine ⟨?_, ⟨by omega, by omega⟩, hb⟩
  rw [textB, if_pos hf, text_join major ws ws.length (Nat.le_refl _), List.take_length]
  refine pcs_of (by simp) (fun p hp => ?_)
  rcases List.mem_cons.1 hp with rfl | hp
  · exact itoa_no32 _
  · obtain ⟨q, _, rfl⟩ := List.mem_map.1 hp
    exact winT_no32 q
theorem textB_size {major : Int} {ws : List Win} : (textB major ws.length (zOf ws)).size ≤ 11 + 36 * 20 := by
  unfold textB
  split
  · rename_i hf
    obtain ⟨h1, h2, h3, h4⟩ := frameB_out hf
    have := textTo_size h1 h2 ws.length h4
    omega
  · exact Nat.zero_le _

set_option maxHeartbeats 1000000 in
theorem drawFrameText_any (a : Option Addr) (len cap : Nat) (w : World) (hl : len ≤ 1048576) (hb : Bytes w a len) :
    Calls Tryd.prog 9 #[.slice a len cap] w fun e w' => ∃ (major : Int) (g c : Nat) (ws : List Win), e = .returned (.agg #[.int .i64 major, .slice (some ⟨g, 0, none⟩) ws.length c]) ∧ ws.length ≤ 4 ∧ WinsAt w' g ws.length (zOf ws) ∧ (∀ q ∈ ws, Bd3 q) ∧ Below w.heap.size w w' := by
  have hb0 : Bytes (w.alloc (.cells #[.int .i64 0, .slice none 0 0] 26)) a len := hb.below ((Below.refl _ _).alloc (Nat.le_refl _) _)
  go_enter Tryd.func9, Tryd.ntmps9
  go_wp2_with fail
  refine (open_any a len cap _ hb0).mono ?_
  rintro e w1 ⟨rfl, hb1, hr1, -⟩
  rw [World.size_alloc] at hb1 hr1
  have hres : w1.heap[w.heap.size]? = some (.cells #[.int .i64 0, .slice none 0 0] 26 (0, 0)) := (hb1.block _ (by simp)).trans (heap_alloc_new _ _)
  have HB1 : Hid (Below w.heap.size w w1) := ((Below.refl _ _).alloc (Nat.le_refl _) _).trans (hb1.mono (by simp))
  have HRES : Hid (w1.heap[w.heap.size]? = some (.cells #[.int .i64 0, .slice none 0 0] 26 (0, 0))) := hres
  clear hres hb1 hb0
  go_wp2_with fail
  refine (frame_any _ a len cap w1 hl hr1).mono ?_
  rintro e w2 ⟨mj, g, n, c, Z, rfl, hn, hg, hw, hz, hb2, hr2⟩
  have hl1 : w.heap.size < w1.heap.size := (Array.getElem?_eq_some_iff.1 HRES.out).1
  have HD : Hid (w2.heap[w.heap.size]? = some (.cells #[.int .i64 0, .slice none 0 0] 26 (0, 0)) ∧ WinsAt w2 g n Z ∧ (∀ j, -1000 ≤ Z j ∧ Z j ≤ 1000) ∧ Below w.heap.size w w2 ∧ w.heap.size < g) := ⟨(hb2.block _ hl1 (by omega)).trans HRES.out, hw, hz, HB1.out.trans (hb2.below (by omega) (by omega)), by omega⟩
  have f0 := HD.out.1
  have r0 : w2.cell? ⟨w.heap.size, 0, none⟩ = some (.int .i64 0) := by simp [World.cell?, f0]
  have r1 : w2.cell? ⟨w.heap.size, 1, none⟩ = some (.slice none 0 0) := by simp [World.cell?, f0]
  have z0 : w2.frozen? ⟨w.heap.size, 0, none⟩ = false := frozen_of_row _ _ _ _ _ f0
  have z1 : w2.frozen? ⟨w.heap.size, 1, none⟩ = false := frozen_of_row _ _ _ _ _ f0
  clear f0 hw hz hb2 hr2 hg hr1
  go_wp2
  refine bodyPost_ret (results_cell_row Tryd.results9 _ _ w.heap.size 26 _ (0, 0) _ (by rfl) (set2_heap HD.out.1 _ _) Tryd.underlying26 rfl frameSize) rfl ?_
  refine ⟨mj, g, c, wsOf n Z, by rw [wsOf_len], by rw [wsOf_len]; exact hn, ?_, wsOf_bd HD.out.2.2.1, set2_below HD.out.2.2.2.1 (Nat.le_refl _) _ _⟩
  have hgl := HD.out.2.2.2.2
  exact wsOf_wins (HD.out.2.1.of_block ((Below.heap_setCell _ _ _ _ (by simp; omega)).trans (Below.heap_setCell _ _ _ _ (by simp; omega))))

set_option maxHeartbeats 1000000 in
theorem drawReadFrame_any (a : Option Addr) (len cap : Nat) (w : World) (hl : len ≤ 1048576) (hb : Bytes w a len) :
    Calls Tryd.prog 15 #[.slice a len cap] w fun e w' => ∃ t : ByteArray, e = .returned (.string t) ∧ t.size ≤ 1048576 ∧ Below w.heap.size w w' := by
  go_enter Tryd.func15, Tryd.ntmps15
  go_wp2_with fail
  refine (open_any a len cap _ hb).mono ?_
  rintro e w1 ⟨rfl, hb1, hr1, -⟩
  have HB1 : Hid (Below w.heap.size w w1) := hb1
  clear hb1
  go_wp2_with fail
  refine (frame_any _ a len cap w1 hl hr1).mono ?_
  rintro e w2 ⟨mj, g, n, c, Z, rfl, hn, hg, hw, hz, hb2, hr2⟩
  have hl1 := hr1.lt
  have HB2 : Hid (Below w.heap.size w w2) := HB1.out.trans (hb2.below (Nat.le_refl _) (by omega))
  have hw' := wsOf_wins hw
  have hbd := wsOf_bd (n := n) hz
  have HL : Hid ((wsOf n Z).length = n) := wsOf_len n Z
  clear hb2
  go_wp2_with fail
  have hcall := specFrameText_any mj g (wsOf n Z).length c (zOf (wsOf n Z)) w2 (by rw [HL.out]; omega) (zOf_bd hbd) hw'
  rw [HL.out] at hcall
  refine hcall.mono ?_
  rintro e w3 ⟨rfl, hb3⟩
  have hts : (textB mj n (zOf (wsOf n Z))).size ≤ 50000 := by
    have := textB_size (major := mj) (ws := wsOf n Z)
    rw [HL.out] at this
    omega
  have HB3 : Hid (Below w.heap.size w w3) := HB2.out.trans (hb3.mono HB2.out.size)
  have hr3 := hr2.below hb3
  clear hb3 hr2 hcall hw'
  generalize textB mj n (zOf (wsOf n Z)) = tx at *
  go_wp2_with fail
  refine (hurt_any _ a len cap tx w3 hl hts hr3).mono ?_
  rintro e w4 ⟨t, ht, rfl, hb4, hr4⟩
  have hz3 := HB3.out.size
  have HB4 : Hid (Below w.heap.size w w4) := HB3.out.trans (hb4.below (Nat.le_refl _) hz3)
  clear hb4
  go_wp2
  go_ret
  exact ⟨t, rfl, by omega, HB4.out⟩

/-- A list of windows, wherever it lies. -/
def LiesW (w : World) (a : Option Addr) (ws : List Win) : Prop := 0 < ws.length → ∃ g, a = some ⟨g, 0, none⟩ ∧ WinsAt w g ws.length (zOf ws)
theorem LiesW.below {w w' : World} {a : Option Addr} {ws : List Win} (h : LiesW w a ws) (hb : Below w.heap.size w w') : LiesW w' a ws := fun hl => by
  obtain ⟨g, rfl, hw⟩ := h hl
  exact ⟨g, rfl, hw.of_block (hb.block g hw.lt)⟩

set_option maxHeartbeats 2000000 in
theorem sameFrame_any (major : Int) (a a' : Option Addr) (ws : List Win) (cap cap' : Nat) (w : World) (hl : ws.length ≤ 1048576) (hr : LiesW w a ws) (hr' : LiesW w a' ws) :
    Calls Tryd.prog 14 #[.agg #[.int .i64 major, .slice a ws.length cap], .agg #[.int .i64 major, .slice a' ws.length cap']] w fun e w' => e = .returned (.bool true) ∧ Below w.heap.size w w' := by
  have HR : Hid (LiesW w a ws ∧ LiesW w a' ws) := ⟨hr, hr'⟩
  clear hr hr'
  go_enter Tryd.func14, Tryd.ntmps14
  go_wp2_with fail
  have HW : Hid (((w.alloc (.cells #[.int .i64 major, .slice a ws.length cap] 26)).alloc (.cells #[.int .i64 major, .slice a' ws.length cap'] 26)).heap[w.heap.size]? = some (.cells #[.int .i64 major, .slice a ws.length cap] 26 (0, 0)) ∧ ((w.alloc (.cells #[.int .i64 major, .slice a ws.length cap] 26)).alloc (.cells #[.int .i64 major, .slice a' ws.length cap'] 26)).heap[w.heap.size + 1]? = some (.cells #[.int .i64 major, .slice a' ws.length cap'] 26 (0, 0)) ∧ Below w.heap.size w ((w.alloc (.cells #[.int .i64 major, .slice a ws.length cap] 26)).alloc (.cells #[.int .i64 major, .slice a' ws.length cap'] 26))) := ⟨(heap_alloc_old _ _ (by simp)).trans (heap_alloc_new _ _), by simpa using heap_alloc_new (w.alloc (.cells #[.int .i64 major, .slice a ws.length cap] 26)) (.cells #[.int .i64 major, .slice a' ws.length cap'] 26), ((Below.refl _ _).alloc (Nat.le_refl _) _).alloc (by simp) _⟩
  generalize (w.alloc (.cells #[.int .i64 major, .slice a ws.length cap] 26)).alloc (.cells #[.int .i64 major, .slice a' ws.length cap'] 26) = W0 at *
  go_loopw [5] (fun i wr => ∃ k : Nat, k ≤ ws.length ∧ i = .int .i64 k ∧ Hid (wr.heap[w.heap.size]? = some (.cells #[.int .i64 major, .slice a ws.length cap] 26 (0, 0)) ∧ wr.heap[w.heap.size + 1]? = some (.cells #[.int .i64 major, .slice a' ws.length cap'] 26 (0, 0)) ∧ Below w.heap.size w wr)) (fun i _ => ws.length - (intOf i).toNat)
  case atStart => exact ⟨0, Nat.zero_le _, rfl, HW⟩
  case round =>
    clear HW
    obtain ⟨k, hk, rfl, HW⟩ := hrel
    have f0 := HW.out.1
    have f1 := HW.out.2.1
    have p1 : wr.cell? ⟨w.heap.size, 1, none⟩ = some (.slice a ws.length cap) := by simp [World.cell?, f0]
    have q1 : wr.cell? ⟨w.heap.size + 1, 1, none⟩ = some (.slice a' ws.length cap') := by simp [World.cell?, f1]
    clear f0 f1
    by_cases hlt : k < ws.length
    · obtain ⟨g, rfl, hra⟩ := (HR.out.1.below HW.out.2.2) (by omega)
      obtain ⟨g', rfl, hrb⟩ := (HR.out.2.below HW.out.2.2) (by omega)
      have c0 : wr.cell? ⟨g, k * 3, none⟩ = some (.int .i64 (zOf ws (k * 3))) := hra.cell (by omega)
      have c1 : wr.cell? ⟨g, k * 3 + 1, none⟩ = some (.int .i64 (zOf ws (k * 3 + 1))) := hra.cell (by omega)
      have c2 : wr.cell? ⟨g, k * 3 + 2, none⟩ = some (.int .i64 (zOf ws (k * 3 + 2))) := hra.cell (by omega)
      have d0 : wr.cell? ⟨g', k * 3, none⟩ = some (.int .i64 (zOf ws (k * 3))) := hrb.cell (by omega)
      have d1 : wr.cell? ⟨g', k * 3 + 1, none⟩ = some (.int .i64 (zOf ws (k * 3 + 1))) := hrb.cell (by omega)
      have d2 : wr.cell? ⟨g', k * 3 + 2, none⟩ = some (.int .i64 (zOf ws (k * 3 + 2))) := hrb.cell (by omega)
      clear hra hrb HR
      have i0 : (0 : Int) ≤ (k : Int) := by omega
      have i1 : (k : Int) < (ws.length : Int) := by omega
      go_wp2_with fail
      go_quiet (fail)
      go_wp2
      go_roundw
      case rel => exact ⟨k + 1, by omega, by go_num, ⟨HW.out.1, HW.out.2.1, HW.out.2.2.os, HW.out.2.2.tape, HW.out.2.2.output, HW.out.2.2.size, HW.out.2.2.block⟩⟩
      case measure => simp [intOf]; omega
    · have i1 : ¬ (k : Int) < (ws.length : Int) := by omega
      go_wp2
      go_ret
      exact ⟨rfl, HW.out.2.2⟩

end Go.Proofs.YtlaeilcipibelaaDoor
