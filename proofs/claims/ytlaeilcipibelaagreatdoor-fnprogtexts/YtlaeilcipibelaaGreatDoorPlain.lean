/- Plain texts: at most twenty bytes 32 .. 126, but no semicolon: the specification's test and the program's. -/
import Derived.Test.YtlaeilcipibelaaGreatDoorBase
import Derived.Deep.QuietTactic
import Derived.BigQuiet
namespace Go.Proofs.YtlaeilcipibelaaGreatDoor
open Go.RowKit

def byteB (c : UInt8) : Bool := decide (32 ≤ (c.toNat : Int)) && decide ((c.toNat : Int) ≤ 126) && !decide ((c.toNat : Int) = 59)
def plainB (s : ByteArray) : Bool := decide (s.size ≤ 20) && s.data.toList.all byteB
theorem take_snoc (s : ByteArray) (k : Nat) (h : k < s.size) : s.data.toList.take (k + 1) = s.data.toList.take k ++ [s[k]] := by
  rw [List.take_succ_eq_append_getElem (by simpa using h)]; rfl
theorem all_snoc {s : ByteArray} {k : Nat} (h : k < s.size) (ha : (s.data.toList.take k).all byteB = true) (hb : byteB s[k] = true) : (s.data.toList.take (k + 1)).all byteB = true := by
  rw [take_snoc s k h, List.all_append, ha]; simp [hb]
theorem not_all {s : ByteArray} {k : Nat} (h : k < s.size) (hb : byteB s[k] = false) : s.data.toList.all byteB = false := by
  rw [List.all_eq_false]
  exact ⟨s[k], by rw [show s[k] = s.data.toList[k]'(by simpa using h) from rfl]; exact List.getElem_mem _, by simp [hb]⟩
theorem take_all (s : ByteArray) {k : Nat} (h : s.size ≤ k) : s.data.toList.take k = s.data.toList := List.take_of_length_le (by simpa using h)

theorem byteB_low {c : UInt8} (h : (c.toNat : Int) < 32) : byteB c = false := by simp [byteB]; omega
theorem byteB_high {c : UInt8} (h : 126 < (c.toNat : Int)) : byteB c = false := by simp [byteB]; omega
theorem byteB_semi {c : UInt8} (h : (c.toNat : Int) = 59) : byteB c = false := by simp [byteB]; omega
theorem byteB_yes {c : UInt8} (h1 : ¬ (c.toNat : Int) < 32) (h2 : ¬ 126 < (c.toNat : Int)) (h3 : ¬ (c.toNat : Int) = 59) : byteB c = true := by simp [byteB]; omega

set_option maxHeartbeats 1000000 in
theorem l2Plain_any (s : ByteArray) (w : World) (hs : s.size ≤ 1048576) :
    Calls Tryz.prog 50 #[.string s] w fun e w' => e = .returned (.bool (plainB s)) ∧ w' = w := by
  go_enter Tryz.func50, Tryz.ntmps50
  go_wp2
  go_loop [3] (fun i => ∃ k : Nat, k ≤ s.size ∧ i = .int .i64 k ∧ (s.data.toList.take k).all byteB = true) (fun i => s.size - (intOf i).toNat)
  case atStart => exact ⟨0, Nat.zero_le _, rfl, rfl⟩
  case round =>
    obtain ⟨k, hk, rfl, hall⟩ := hrel
    have HA : Hid ((s.data.toList.take k).all byteB = true) := hall
    clear hall
    by_cases hlt : k < s.size
    · have HY : Hid (byteB s[k] = true → (s.data.toList.take (k + 1)).all byteB = true) := fun h => all_snoc hlt HA.out h
      have HX : Hid (byteB s[k] = false → plainB s = false) := fun h => by simp [plainB, not_all hlt h]
      by_cases h1 : (s[k].toNat : Int) < 32
      · go_wp2
        go_ret
        exact ⟨ret_bool (HX.out (byteB_low h1)).symm, rfl⟩
      by_cases h2 : 126 < (s[k].toNat : Int)
      · go_wp2
        go_ret
        exact ⟨ret_bool (HX.out (byteB_high h2)).symm, rfl⟩
      by_cases h3 : (s[k].toNat : Int) = 59
      · have h3' : ((s[k].toNat : Int) == 59) = true := by simp [h3]
        go_wp2
        go_ret
        exact ⟨ret_bool (HX.out (byteB_semi h3)).symm, rfl⟩
      have h3' : ((s[k].toNat : Int) == 59) = false := by simp [h3]
      have HB : Hid (byteB s[k] = true) := byteB_yes h1 h2 h3
      go_wp2
      go_round
      case rel => exact ⟨k + 1, by omega, by go_num, HY.out HB.out⟩
      case measure => simp [intOf]; omega
    · have HA' : Hid (s.data.toList.all byteB = true) := by have := HA.out; rwa [take_all s (by omega)] at this
      go_wp2
      go_ret
      exact ⟨ret_bool (by rw [Bool.eq_iff_iff]; simp [plainB, HA'.out]; omega), rfl⟩

set_option maxHeartbeats 1000000 in
theorem isPlain_any (s : ByteArray) (w : World) (hs : s.size ≤ 1048576) :
    Calls Tryz.prog 53 #[.string s] w fun e w' => e = .returned (.bool (plainB s)) ∧ w' = w := by
  by_cases hl : 20 < s.size
  · have hl' : (20 : Int) < (s.size : Int) := by omega
    go_enter Tryz.func53, Tryz.ntmps53
    go_wp2
    go_ret
    exact ⟨ret_bool (by simp [plainB]; intro h; omega), rfl⟩
  · have hl' : ¬ (20 : Int) < (s.size : Int) := by omega
    go_enter Tryz.func53, Tryz.ntmps53
    go_wp2
    go_loop [9] (fun i => ∃ k : Nat, k ≤ s.size ∧ i = .int .i64 k ∧ (s.data.toList.take k).all byteB = true) (fun i => s.size - (intOf i).toNat)
    case atStart => exact ⟨0, Nat.zero_le _, rfl, rfl⟩
    case round =>
      obtain ⟨k, hk, rfl, hall⟩ := hrel
      have HA : Hid ((s.data.toList.take k).all byteB = true) := hall
      clear hall
      by_cases hlt : k < s.size
      · have HY : Hid (byteB s[k] = true → (s.data.toList.take (k + 1)).all byteB = true) := fun h => all_snoc hlt HA.out h
        have HX : Hid (byteB s[k] = false → plainB s = false) := fun h => by simp [plainB, not_all hlt h]
        by_cases h1 : (s[k].toNat : Int) < 32
        · go_wp2
          go_ret
          exact ⟨ret_bool (HX.out (byteB_low h1)).symm, rfl⟩
        by_cases h2 : 126 < (s[k].toNat : Int)
        · go_wp2
          go_ret
          exact ⟨ret_bool (HX.out (byteB_high h2)).symm, rfl⟩
        by_cases h3 : (s[k].toNat : Int) = 59
        · have h3' : ((s[k].toNat : Int) == 59) = true := by simp [h3]
          go_wp2
          go_ret
          exact ⟨ret_bool (HX.out (byteB_semi h3)).symm, rfl⟩
        have h3' : ((s[k].toNat : Int) == 59) = false := by simp [h3]
        have HB : Hid (byteB s[k] = true) := byteB_yes h1 h2 h3
        go_wp2
        go_round
        case rel => exact ⟨k + 1, by omega, by go_num, HY.out HB.out⟩
        case measure => simp [intOf]; omega
      · have HA' : Hid (s.data.toList.all byteB = true) := by have := HA.out; rwa [take_all s (by omega)] at this
        have hd : decide (s.size ≤ 20) = true := by simp; omega
        go_wp2
        go_ret
        exact ⟨ret_bool (by simp only [plainB, HA'.out, hd]; rfl), rfl⟩

end Go.Proofs.YtlaeilcipibelaaGreatDoor
