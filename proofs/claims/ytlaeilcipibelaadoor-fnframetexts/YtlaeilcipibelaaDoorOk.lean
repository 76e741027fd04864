/- Whether a frame is right: the specification's loop and the program's table of windows. -/
import Derived.Test.YtlaeilcipibelaaDoorBase
namespace Go.Proofs.YtlaeilcipibelaaDoor
open Go.RowKit

def winB (major fr a l p : Int) : Bool := decide (fr ≤ a ∧ a ≤ major ∧ 1 ≤ l ∧ l ≤ major - a ∧ 1 ≤ p ∧ p ≤ 6)
theorem winB_true {major fr a l p : Int} (h : fr ≤ a ∧ a ≤ major ∧ 1 ≤ l ∧ l ≤ major - a ∧ 1 ≤ p ∧ p ≤ 6) : winB major fr a l p = true := by simp only [winB]; exact decide_eq_true h
theorem winB_false {major fr a l p : Int} (h : ¬ (fr ≤ a ∧ a ≤ major ∧ 1 ≤ l ∧ l ≤ major - a ∧ 1 ≤ p ∧ p ≤ 6)) : winB major fr a l p = false := by simp only [winB]; exact decide_eq_false h
theorem winB_out {major fr a l p : Int} (h : winB major fr a l p = true) : fr ≤ a ∧ a ≤ major ∧ 1 ≤ l ∧ l ≤ major - a ∧ 1 ≤ p ∧ p ≤ 6 := by simpa [winB] using h

set_option maxHeartbeats 1000000 in
theorem windowOk_any (a l p fr major : Int) (w : World) (h0 : 0 ≤ fr) (h1 : 1 ≤ major) (h2 : major ≤ 1000) :
    Calls Tryd.prog 65 #[.agg #[.int .i64 a, .int .i64 l, .int .i64 p], .int .i64 fr, .int .i64 major] w fun e w' => e = .returned (.bool (winB major fr a l p)) ∧ Below w.heap.size w w' := by
  by_cases k1 : a < fr
  · go_enter Tryd.func65, Tryd.ntmps65
    go_wp2
    go_ret
    exact ⟨ret_bool (winB_false (by omega)).symm, by go_grown⟩
  by_cases k2 : major < a
  · go_enter Tryd.func65, Tryd.ntmps65
    go_wp2
    go_ret
    exact ⟨ret_bool (winB_false (by omega)).symm, by go_grown⟩
  by_cases k3 : l < 1
  · go_enter Tryd.func65, Tryd.ntmps65
    go_wp2
    go_ret
    exact ⟨ret_bool (winB_false (by omega)).symm, by go_grown⟩
  by_cases k4 : major - a < l
  · go_enter Tryd.func65, Tryd.ntmps65
    go_wp2
    go_ret
    exact ⟨ret_bool (winB_false (by omega)).symm, by go_grown⟩
  by_cases k5 : p < 1
  · go_enter Tryd.func65, Tryd.ntmps65
    go_wp2
    go_ret
    exact ⟨ret_bool (winB_false (by omega)).symm, by go_grown⟩
  by_cases k6 : 6 < p
  · go_enter Tryd.func65, Tryd.ntmps65
    go_wp2
    go_ret
    exact ⟨ret_bool (by rw [winB_false (by omega)]; exact decide_eq_false (by omega)), by go_grown⟩
  go_enter Tryd.func65, Tryd.ntmps65
  go_wp2
  go_ret
  exact ⟨ret_bool (winB_true (by omega)).symm, by go_grown⟩

/-- Where the window ahead of place i ends. -/
def endAt (Z : Nat → Int) : Nat → Int
  | 0 => 0
  | i + 1 => Z (i * 3) + Z (i * 3 + 1)
def winAt (major : Int) (Z : Nat → Int) (i : Nat) : Bool := winB major (endAt Z i) (Z (i * 3)) (Z (i * 3 + 1)) (Z (i * 3 + 2))
def frameB (major : Int) (len : Nat) (Z : Nat → Int) : Bool := decide (1 ≤ major ∧ major ≤ 1000 ∧ len ≤ 20 ∧ ∀ i, i < len → winAt major Z i = true)
theorem frameB_true {major : Int} {len : Nat} {Z : Nat → Int} (h : 1 ≤ major ∧ major ≤ 1000 ∧ len ≤ 20 ∧ ∀ i, i < len → winAt major Z i = true) : frameB major len Z = true := by simp only [frameB]; exact decide_eq_true h
theorem frameB_false {major : Int} {len : Nat} {Z : Nat → Int} (h : ¬ (1 ≤ major ∧ major ≤ 1000 ∧ len ≤ 20 ∧ ∀ i, i < len → winAt major Z i = true)) : frameB major len Z = false := by simp only [frameB]; exact decide_eq_false h
theorem frameB_out {major : Int} {len : Nat} {Z : Nat → Int} (h : frameB major len Z = true) : 1 ≤ major ∧ major ≤ 1000 ∧ len ≤ 20 ∧ ∀ i, i < len → winAt major Z i = true := by
  simp only [frameB] at h; exact of_decide_eq_true h
theorem endAt_nonneg {major : Int} {Z : Nat → Int} (k : Nat) (h : ∀ i, i < k → winAt major Z i = true) : 0 ≤ endAt Z k ∧ (1 ≤ major → endAt Z k ≤ major) := by
  induction k with
  | zero => simp [endAt]; omega
  | succ k ih =>
    have ih := ih (fun i hi => h i (by omega))
    have hk := winB_out (h k (by omega))
    simp only [endAt]
    omega

set_option maxHeartbeats 2000000 in
theorem specFrameOk_any (major : Int) (g len cap : Nat) (Z : Nat → Int) (w : World) (hl : len ≤ 1048576) (hz : ∀ j, -9223372036854775808 ≤ Z j ∧ Z j ≤ 9223372036854775807) (hr : WinsAt w g len Z) :
    Calls Tryd.prog 39 #[.agg #[.int .i64 major, .slice (some ⟨g, 0, none⟩) len cap]] w fun e w' => e = .returned (.bool (frameB major len Z)) ∧ Below w.heap.size w w' := by
  by_cases k1 : ¬ (1 ≤ major ∧ major ≤ 1000)
  · have hin : inB major 1 1000 = false := by simp [inB]; omega
    go_enter Tryd.func39, Tryd.ntmps39
    go_wp2_with (go_at_call 69; refine (l1In_any _ _ _ _).mono ?_; rintro e w' ⟨rfl, rfl⟩)
    go_ret
    exact ⟨ret_bool (frameB_false (by omega)).symm, by go_grown⟩
  have k1 : 1 ≤ major ∧ major ≤ 1000 := by omega
  have hin : inB major 1 1000 = true := inB_true k1.1 k1.2
  by_cases k2 : 20 < len
  · go_enter Tryd.func39, Tryd.ntmps39
    go_wp2_with (go_at_call 69; refine (l1In_any _ _ _ _).mono ?_; rintro e w' ⟨rfl, rfl⟩)
    go_ret
    exact ⟨ret_bool (frameB_false (by omega)).symm, by go_grown⟩
  obtain ⟨k1, k1'⟩ := k1
  have hgl := hr.lt
  go_enter Tryd.func39, Tryd.ntmps39
  go_wp2_with (go_at_call 69; refine (l1In_any _ _ _ _).mono ?_; rintro e w' ⟨rfl, rfl⟩)
  go_loopw [3, 4] (fun t i wr => ∃ k : Nat, k ≤ len ∧ i = .int .i64 k ∧ t = .int .i64 (endAt Z k) ∧ (∀ i, i < k → winAt major Z i = true) ∧ Below (w.heap.size + 1) (w.alloc (.cells #[.int .i64 major, .slice (some ⟨g, 0, none⟩) len cap] 26)) wr) (fun _ i _ => len - (intOf i).toNat)
  case atStart => exact ⟨0, Nat.zero_le _, rfl, rfl, fun i hi => by omega, Below.refl _ _⟩
  case round =>
    obtain ⟨k, hk, rfl, rfl, hall, hbel⟩ := hrel
    have HA : Hid (∀ i, i < k → winAt major Z i = true) := hall
    have he := endAt_nonneg k hall
    clear hall
    obtain ⟨he0, he1⟩ := he
    have he1 := he1 k1
    have hs : w.heap.size < wr.heap.size := by have := hbel.size; simp only [World.size_alloc] at this; omega
    have m0 : wr.cell? ⟨w.heap.size, 0, none⟩ = some (.int .i64 major) := (hbel.cell (p := ⟨w.heap.size, 0, none⟩) (by simp)).trans (by simp)
    have m1 : wr.cell? ⟨w.heap.size, 1, none⟩ = some (.slice (some ⟨g, 0, none⟩) len cap) := (hbel.cell (p := ⟨w.heap.size, 1, none⟩) (by simp)).trans (by simp)
    by_cases hlt : k < len
    · have hra : WinsAt wr g len Z := (hr.alloc _).of_block (hbel.block g (by omega))
      have c0 : wr.cell? ⟨g, k * 3, none⟩ = some (.int .i64 (Z (k * 3))) := hra.cell (by omega)
      have c1 : wr.cell? ⟨g, k * 3 + 1, none⟩ = some (.int .i64 (Z (k * 3 + 1))) := hra.cell (by omega)
      have c2 : wr.cell? ⟨g, k * 3 + 2, none⟩ = some (.int .i64 (Z (k * 3 + 2))) := hra.cell (by omega)
      have HR : Hid (WinsAt wr g len Z) := hra
      clear hra hr
      have q0 := hz (k * 3)
      have q0' := hz (k * 3 + 1)
      generalize ha : Z (k * 3) = a at *
      generalize hl' : Z (k * 3 + 1) = l at *
      generalize hp : Z (k * 3 + 2) = p at *
      have hend : endAt Z (k + 1) = a + l := by simp [endAt, ha, hl']
      have HE := (show Hid (endAt Z (k + 1) = a + l) from hend)
      have hwin : winAt major Z k = winB major (endAt Z k) a l p := by simp [winAt, ha, hl', hp]
      have HW := (show Hid (winAt major Z k = winB major (endAt Z k) a l p) from hwin)
      clear hend hwin ha hl' hp
      generalize hen : endAt Z k = en at *
      clear hen hz
      have hno : winB major en a l p = false → frameB major len Z = false := fun h => frameB_false (fun hh => by have := hh.2.2.2 k hlt; rw [HW.out, h] at this; cases this)
      have HN : Hid (winB major en a l p = false → frameB major len Z = false) := hno
      clear hno
      have hB : Below w.heap.size w wr := ((Below.refl _ _).alloc (Nat.le_refl _) _).trans (hbel.mono (by omega))
      by_cases q1 : ¬ (en ≤ a ∧ a ≤ major)
      · have i1 : inB a en major = false := by simp [inB]; omega
        go_wp2_with (go_at_call 69; refine (l1In_any _ _ _ _).mono ?_; rintro e w' ⟨rfl, rfl⟩)
        go_ret
        exact ⟨ret_bool (HN.out (winB_false (by omega))).symm, hB.alloc (by omega) _⟩
      have q1 : en ≤ a ∧ a ≤ major := by omega
      have i1 : inB a en major = true := inB_true q1.1 q1.2
      by_cases q2 : ¬ (1 ≤ l ∧ l ≤ major)
      · have i2 : inB l 1 major = false := by simp [inB]; omega
        go_wp2_with (go_at_call 69; refine (l1In_any _ _ _ _).mono ?_; rintro e w' ⟨rfl, rfl⟩)
        go_ret
        exact ⟨ret_bool (HN.out (winB_false (by omega))).symm, hB.alloc (by omega) _⟩
      have q2 : 1 ≤ l ∧ l ≤ major := by omega
      have i2 : inB l 1 major = true := inB_true q2.1 q2.2
      by_cases q3 : major < a + l
      · go_wp2_with (go_at_call 69; refine (l1In_any _ _ _ _).mono ?_; rintro e w' ⟨rfl, rfl⟩)
        go_ret
        exact ⟨ret_bool (HN.out (winB_false (by omega))).symm, hB.alloc (by omega) _⟩
      by_cases q4 : ¬ (1 ≤ p ∧ p ≤ 6)
      · have i4 : inB p 1 6 = false := by simp [inB]; omega
        go_wp2_with (go_at_call 69; refine (l1In_any _ _ _ _).mono ?_; rintro e w' ⟨rfl, rfl⟩)
        go_ret
        exact ⟨ret_bool (HN.out (winB_false (by omega))).symm, hB.alloc (by omega) _⟩
      have q4 : 1 ≤ p ∧ p ≤ 6 := by omega
      have i4 : inB p 1 6 = true := inB_true q4.1 q4.2
      go_wp2_with (go_at_call 69; refine (l1In_any _ _ _ _).mono ?_; rintro e w' ⟨rfl, rfl⟩)
      go_roundw
      case rel =>
        refine ⟨k + 1, by omega, by go_num, by rw [HE.out], ?_, hbel.alloc (by omega) _⟩
        intro i hi
        by_cases e : i = k
        · subst e; rw [HW.out]; exact winB_true (by omega)
        · exact HA.out i (by omega)
      case measure => simp [intOf]; omega
    · go_wp2
      go_ret
      have e : k = len := by omega
      subst e
      exact ⟨ret_bool (frameB_true ⟨k1, k1', by omega, HA.out⟩).symm, ((Below.refl _ _).alloc (Nat.le_refl _) _).trans (hbel.mono (by omega))⟩

end Go.Proofs.YtlaeilcipibelaaDoor
