/- Numbers in decimal: what the specification writes and what the program writes. -/
import Derived.Test.YtlaeilcipibelaaGreatDoorBase
import Derived.Test.YtlaeilcipibelaaGreatDoorFmtLay
import Derived.Lib.ItoaNum
import Derived.Laws.BytesString
namespace Go.Proofs.YtlaeilcipibelaaGreatDoor
open Go.RowKit

/-- A number in decimal. -/
def decB (n : Int) : ByteArray := ⟨(Lib.itoa n).toArray⟩
theorem itoa_pos {n : Int} (h : 0 ≤ n) : Lib.itoa n = Lib.decDigits n.toNat := by
  unfold Lib.itoa
  rw [if_neg (by omega)]

theorem dec_len : ∀ (k u : Nat), u < 10 ^ (k + 1) → (Lib.decDigits u).length ≤ k + 1
  | 0, u, h => by rw [Lib.decDigits, dif_pos (by simpa using h)]; simp
  | k + 1, u, h => by
    by_cases h1 : u < 10
    · rw [Lib.decDigits, dif_pos h1]; simp
    · rw [Lib.decDigits, dif_neg h1]
      have := dec_len k (u / 10) (by rw [Nat.pow_succ] at h; omega)
      simp; omega
theorem dec_len10 {n : Int} (h : n ≤ 9999999999) : (Lib.decDigits n.toNat).length ≤ 10 := dec_len 9 _ (by simp; omega)
theorem dec_step {a n : Int} {s : ByteArray} (h10 : 10 ≤ a) (h : Lib.decDigits a.toNat ++ s.data.toList = Lib.decDigits n.toNat) :
    Lib.decDigits (a / 10).toNat ++ ((⟨#[UInt8.ofNat (48 + a % 10).toNat]⟩ : ByteArray) ++ s).data.toList = Lib.decDigits n.toNat := by
  rw [← h, Lib.decDigits.eq_def a.toNat, dif_neg (by omega)]
  have e1 : (a / 10).toNat = a.toNat / 10 := by omega
  have e2 : (48 + a % 10).toNat = 48 + a.toNat % 10 := by omega
  simp [e1, e2, ByteArray.data_append]
theorem dec_last {a n : Int} {s : ByteArray} (h0 : 0 ≤ a) (h10 : a < 10) (h : Lib.decDigits a.toNat ++ s.data.toList = Lib.decDigits n.toNat) (hn : 0 ≤ n) :
    (⟨#[UInt8.ofNat (48 + a).toNat]⟩ : ByteArray) ++ s = decB n := by
  have e2 : (48 + a).toNat = 48 + a.toNat := by omega
  apply ByteArray.ext
  apply Array.ext'
  rw [decB, itoa_pos hn, ← h, Lib.decDigits, dif_pos (by omega)]
  simp [e2, ByteArray.data_append]

theorem below_grow (w : World) (k : Nat) (os : Array Obj) : Below w.heap.size w (Sort.grow (w.drewN k) os) := by
  refine ⟨rfl, rfl, rfl, by simp [Sort.grow, World.drewN], fun b hb => ?_⟩
  simp [Sort.grow, World.drewN, Array.getElem?_append, hb]

/-- string of a slice of one byte that has just been laid. -/
theorem conv_one (W : World) (c : Int) : (convert 22 9 (.slice (some ⟨W.heap.size, 0, none⟩) 1 1)).run Tryz.prog (W.alloc (.cells #[.int .u8 c] 5)) = .ok (.string ⟨#[UInt8.ofNat c.toNat]⟩) (W.alloc (.cells #[.int .u8 c] 5)) := by
  rw [run_convert_bytes_string _ 22 9 5 _ 1 1 Tryz.underlying22 Tryz.underlying5 Tryz.underlying9]
  rw [run_bytesToString _ ⟨W.heap.size, 0, none⟩ 1 1 [c] (by simp [go_sem])]
  rfl

set_option maxHeartbeats 1000000 in
theorem l1Dec_pos (n : Int) (hn0 : 0 ≤ n) (hn : n ≤ 9999999999) (w : World) :
    Calls Tryz.prog 36 #[.int .i64 n] w fun e w' => e = .returned (.string (decB n)) ∧ Below w.heap.size w w' := by
  have h0 : ¬ n < 0 := by omega
  have hcv := conv_one
  have HN : Hid (0 ≤ n ∧ n ≤ 9999999999) := ⟨hn0, hn⟩
  clear hn0 hn
  go_enter Tryz.func36, Tryz.ntmps36
  go_wp2
  clear h0
  go_loopw [0, 3] (fun i t wr => ∃ (a : Int) (s : ByteArray), i = .int .i64 a ∧ t = .string s ∧ Hid (0 ≤ a ∧ a ≤ n ∧ Lib.decDigits a.toNat ++ s.data.toList = Lib.decDigits n.toNat) ∧ Below w.heap.size w wr) (fun i _ _ => (intOf i).toNat)
  case atStart => exact ⟨n, ⟨#[]⟩, rfl, rfl, ⟨HN.out.1, Int.le_refl _, by simp⟩, Below.refl _ _⟩
  case round =>
    obtain ⟨a, s, rfl, rfl, HD, hbel⟩ := hrel
    have hs : ¬ 9223372036854775807 < 1 + s.size := by
      have h1 := congrArg List.length HD.out.2.2
      have h2 := dec_len10 HN.out.2
      have h3 : s.data.toList.length = s.size := by simp
      rw [List.length_append] at h1
      omega
    by_cases h10 : 10 ≤ a
    · have e1 : wrap64 (48 + a.tmod 10) % 256 = 48 + a % 10 := by
        have := HD.out
        rw [Int.tmod_eq_emod_of_nonneg (by omega)]
        unfold wrap64; omega
      have e2 : a.tdiv 10 = a / 10 := Int.tdiv_eq_ediv_of_nonneg (by have := HD.out; omega)
      have e3 : wrap64 (a / 10) = a / 10 := by have := HD.out; have := HN.out; unfold wrap64; omega
      go_wp2
      go_roundw
      case rel =>
        refine ⟨a / 10, _, by rw [e3], rfl, ?_, hbel.alloc hbel.size _⟩
        have HD' := HD.out
        refine ⟨by omega, by omega, ?_⟩
        exact dec_step h10 HD'.2.2
      case measure => simp only [intOf]; have := HD.out; omega
    · have e1 : wrap64 (48 + a) % 256 = 48 + a := by have := HD.out; unfold wrap64; omega
      go_wp2
      go_ret
      refine ⟨?_, hbel.alloc hbel.size _⟩
      have HD' := HD.out
      rw [dec_last HD'.1 (by omega) HD'.2.2 HN.out.1]
      rfl

theorem itoa_neg {n : Int} (h : n < 0) : Lib.itoa n = 45 :: Lib.decDigits (-n).toNat := by
  unfold Lib.itoa
  rw [if_pos h]
  congr 2
  omega
theorem dec_neg {n : Int} (h : n < 0) : (⟨#[45]⟩ : ByteArray) ++ decB (-n) = decB n := by
  apply ByteArray.ext
  apply Array.ext'
  rw [decB, decB, itoa_neg h, itoa_pos (by omega)]
  simp [ByteArray.data_append]
theorem decB_size {n : Int} (h0 : -9999999999 ≤ n) (h : n ≤ 9999999999) : (decB n).size ≤ 11 := by
  have e : (decB n).size = (Lib.itoa n).length := by simp [decB, ByteArray.size]
  rw [e]
  by_cases hn : n < 0
  · have := dec_len10 (n := -n) (by omega)
    rw [itoa_neg hn]; simp; omega
  · have := dec_len10 h
    rw [itoa_pos (by omega)]; omega

set_option maxHeartbeats 1000000 in
theorem l1Dec_any (n : Int) (hn0 : -9999999999 ≤ n) (hn : n ≤ 9999999999) (w : World) :
    Calls Tryz.prog 36 #[.int .i64 n] w fun e w' => e = .returned (.string (decB n)) ∧ Below w.heap.size w w' := by
  by_cases h : n < 0
  · have e1 : wrap64 (-n) = -n := by unfold wrap64; omega
    have hs : ¬ 9223372036854775807 < 1 + (decB (-n)).size := by have := decB_size (n := -n) (by omega) (by omega); omega
    have h1 : 0 ≤ -n := by omega
    have h2 : -n ≤ 9999999999 := by omega
    have e4 := dec_neg h
    clear hn0 hn
    go_enter Tryz.func36, Tryz.ntmps36
    go_wp2_with (go_at_call 36; refine (l1Dec_pos (-n) h1 h2 _).mono ?_; rintro e w' ⟨rfl, hb⟩)
    go_ret
    exact ⟨by first | rfl | (rw [e4]; rfl), hb⟩
  · exact l1Dec_pos n (by omega) hn w

set_option maxHeartbeats 1000000 in
theorem decimal_any (n : Int) (hn0 : -9223372036854775808 ≤ n) (hn : n ≤ 9223372036854775807) (w : World) (ht : Lib.TabIs Tryz.prog w "internal/strconv.uint64pow10" .u64 Lib.pow10Tab) :
    Calls Tryz.prog 28 #[.int .i64 n] w fun e w' => e = .returned (.string (decB n)) ∧ Below w.heap.size w w' := by
  have HT : Hid (Lib.TabIs Tryz.prog w "internal/strconv.uint64pow10" .u64 Lib.pow10Tab) := ht
  have HN : Hid (-9223372036854775808 ≤ n ∧ n ≤ 9223372036854775807) := ⟨hn0, hn⟩
  clear ht hn0 hn
  go_enter Tryz.func28, Tryz.ntmps28
  go_wp2_with fail
  refine (show Calls Tryz.prog 43 #[.int .i64 n, .int .i64 10] w _ from Go.Proofs.Any.strconv_FormatInt_10 Tryz.laysM173 n HN.out.1 HN.out.2 w HT.out).mono ?_
  rintro e w' ⟨rfl, k, os, rfl⟩
  go_wp2
  go_ret
  exact ⟨rfl, below_grow w k os⟩

end Go.Proofs.YtlaeilcipibelaaGreatDoor
