/- A drawn text that is hurt: some text, not long. -/
import Derived.Test.YtlaeilcipibelaaGreatDoorReader
import Derived.Deep.QuietTactic
import Derived.BigQuiet
import Derived.Deep.RegionHeld3
import Derived.Deep.RegionLaw
import Derived.Deep.DrawnRows
namespace Go.Proofs.YtlaeilcipibelaaGreatDoor
open Go.RowKit
attribute [local go_sem ↓] Go.wp_at_zero Go.wp_at_succ

set_option maxHeartbeats 1000000 in
theorem below_gen (r : Nat) (a : Option Addr) (len cap : Nat) (n : Int) (w : World) (hl : len ≤ 1048576) (n0 : 1 ≤ n) (n1 : n ≤ 60000) (h : Rd r a len cap w) :
    Calls Tryz.prog 25 #[.pointer (some ⟨r, 0, none⟩), .int .i64 n] w fun e w' => ∃ v : Int, 0 ≤ v ∧ v < n ∧ e = .returned (.int .i64 v) ∧ But r w w' ∧ Rd r a len cap w' := by
  by_cases k1 : n ≤ 1
  · go_enter Tryz.func25, Tryz.ntmps25
    go_wp2_with fail
    go_ret
    exact ⟨0, by omega, by omega, rfl, But.refl _ _, h⟩
  by_cases k3 : n ≤ 256
  · exact below_any r a len cap n w hl (by omega) k3 h
  have k2 : ¬ n = 0 := by omega
  go_enter Tryz.func25, Tryz.ntmps25
  go_wp2_with fail
  refine (next_any r a len cap _ hl h).mono ?_
  rintro e w1 ⟨v, v0, v1, rfl, hb, hr⟩
  have e1 : IntKind.i64.wrap (v * 256) = v * 256 := by rw [IntKind.wrap_i64]; omega
  go_wp2_with fail
  refine (next_any r a len cap _ hl hr).mono ?_
  rintro e w2 ⟨u, u0, u1, rfl, hb2, hr2⟩
  have e2 : IntKind.i64.wrap (v * 256 + u) = v * 256 + u := by rw [IntKind.wrap_i64]; omega
  have m0 : 0 ≤ (v * 256 + u) % n := Int.emod_nonneg _ k2
  have m1 : (v * 256 + u) % n < n := Int.emod_lt_of_pos _ (by omega)
  go_wp2
  go_ret
  exact ⟨(v * 256 + u) % n, m0, m1, rfl, hb.trans hb2, hr2⟩

theorem ext_len (s : ByteArray) (i k : Nat) : (s.extract i k).size ≤ s.size := by
  rw [ByteArray.size_extract]
  omega

def lit6 (k : Nat) : ByteArray := ((#[⟨#[48]⟩, ⟨#[49]⟩, ⟨#[32]⟩, ⟨#[58]⟩, ⟨#[59]⟩, ⟨#[120]⟩] : Array ByteArray)[k]?).getD ⟨#[]⟩
theorem lits6 {k : Nat} (h : k < 6) : (#[.string ⟨#[48]⟩, .string ⟨#[49]⟩, .string ⟨#[32]⟩, .string ⟨#[58]⟩, .string ⟨#[59]⟩, .string ⟨#[120]⟩] : Array Value)[k]? = some (.string (lit6 k)) := by
  have h6 : k = 0 ∨ k = 1 ∨ k = 2 ∨ k = 3 ∨ k = 4 ∨ k = 5 := by omega
  rcases h6 with rfl | rfl | rfl | rfl | rfl | rfl <;> rfl
theorem lit6_size (k : Nat) : (lit6 k).size ≤ 1 := by
  rcases Nat.lt_or_ge k 6 with h | h
  · have h6 : k = 0 ∨ k = 1 ∨ k = 2 ∨ k = 3 ∨ k = 4 ∨ k = 5 := by omega
    rcases h6 with rfl | rfl | rfl | rfl | rfl | rfl <;> decide
  · rw [lit6, Array.getElem?_eq_none (by simpa using h)]
    decide

theorem cell_lit {r : Nat} {W w3 : World} {k : Nat} (hb : But r (W.alloc (.cells #[.string ⟨#[48]⟩, .string ⟨#[49]⟩, .string ⟨#[32]⟩, .string ⟨#[58]⟩, .string ⟨#[59]⟩, .string ⟨#[120]⟩] 9)) w3) (hr : r < W.heap.size) (hk : k < 6) : w3.cell? ⟨W.heap.size, k, none⟩ = some (.string (lit6 k)) := by
  have hrow : w3.heap[W.heap.size]? = some (.cells #[.string ⟨#[48]⟩, .string ⟨#[49]⟩, .string ⟨#[32]⟩, .string ⟨#[58]⟩, .string ⟨#[59]⟩, .string ⟨#[120]⟩] 9 (0, 0)) := (hb.block _ (by simp) (by omega)).trans (heap_alloc_new _ _)
  rw [cell_of_row _ _ _ _ _ _ hrow]
  exact lits6 hk

set_option maxHeartbeats 4000000 in
theorem hurt_any (r : Nat) (a : Option Addr) (len cap : Nat) (s : ByteArray) (w : World) (hl : len ≤ 1048576) (hs : s.size ≤ 50000) (h : Rd r a len cap w) :
    Calls Tryz.prog 22 #[.pointer (some ⟨r, 0, none⟩), .string s] w fun e w' => ∃ t : ByteArray, t.size ≤ 50001 ∧ e = .returned (.string t) ∧ But r w w' ∧ Rd r a len cap w' := by
  go_enter Tryz.func22, Tryz.ntmps22
  go_wp2_with fail
  refine (below_any r a len cap 6 _ hl (by omega) (by omega) h).mono ?_
  rintro e w1 ⟨v, v0, v1, rfl, hb, hr⟩
  have h6 : v = 0 ∨ v = 1 ∨ v = 2 ∨ v = 3 ∨ v = 4 ∨ v = 5 := by omega
  have HB : Hid (But r w w1) := hb
  clear hb
  rcases h6 with rfl | rfl | rfl | rfl | rfl | rfl
  · go_wp2
    go_ret
    exact ⟨s, by omega, rfl, HB.out, hr⟩
  · go_wp2_with fail
    refine (below_gen r a len cap ((s.size : Int) + 1) _ hl (by omega) (by omega) hr).mono ?_
    rintro e w2 ⟨u, u0, u1, rfl, hb2, hr2⟩
    obtain ⟨k, rfl⟩ : ∃ k : Nat, u = k := ⟨u.toNat, by omega⟩
    have HB2 : Hid (But r w w2) := HB.out.trans hb2
    have i1 : (k : Int) ≤ (s.size : Int) := by omega
    clear hb2
    go_wp2
    go_ret
    refine ⟨s.extract 0 k, ?_, rfl, HB2.out, hr2⟩
    have := ext_len s 0 k
    omega
  · by_cases h0 : 0 < s.size
    · have h0' : (0 : Int) < (s.size : Int) := by omega
      go_wp2_with fail
      refine (below_gen r a len cap (s.size : Int) _ hl (by omega) (by omega) hr).mono ?_
      rintro e w2 ⟨u, u0, u1, rfl, hb2, hr2⟩
      obtain ⟨k, rfl⟩ : ∃ k : Nat, u = k := ⟨u.toNat, by omega⟩
      have HB2 : Hid (But r w w2) := HB.out.trans hb2
      have HR2 : Hid (Rd r a len cap w2) := hr2
      have hrn := hr2.lt
      clear hb2 hr2
      have HA : Hid (But r w (w2.alloc (.cells #[.string ⟨#[48]⟩, .string ⟨#[49]⟩, .string ⟨#[32]⟩, .string ⟨#[58]⟩, .string ⟨#[59]⟩, .string ⟨#[120]⟩] 9)) ∧ Rd r a len cap (w2.alloc (.cells #[.string ⟨#[48]⟩, .string ⟨#[49]⟩, .string ⟨#[32]⟩, .string ⟨#[58]⟩, .string ⟨#[59]⟩, .string ⟨#[120]⟩] 9))) := ⟨HB2.out.alloc _, HR2.out.below ((Below.refl _ _).alloc (Nat.le_refl _) _)⟩
      have i1 : (k : Int) ≤ (s.size : Int) := by omega
      have i2 : ((k : Int) + 1) ≤ (s.size : Int) := by omega
      have i3 : (0 : Int) ≤ (k : Int) + 1 := by omega
      have hw : IntKind.i64.wrap ((k : Int) + 1) = (k : Int) + 1 := by rw [IntKind.wrap_i64]; omega
      have t1 := ext_len s 0 k
      have t2 := ext_len s (k + 1) s.size
      go_wp2_with fail
      go_region_law
        ((first
          | (go_simp
             go_at_call 25
             refine (below_any r a len cap 6 _ hl (by omega) (by omega) ?_).mono ?_
             first | exact HA.out.2 | exact HR2.out | exact HA.out.2.drew | exact HR2.out.drew
             rintro e w3 ⟨u, u0, u1, rfl, hb3, hr3⟩
             obtain ⟨k2, rfl⟩ : ∃ k2 : Nat, u = k2 := ⟨u.toNat, by omega⟩
             have hlit := lits6 (k := k2) (by omega)
             have hlz := lit6_size k2
             have HB3 : Hid (But r w w3) := by first | exact HA.out.1.trans hb3 | exact HB2.out.trans hb3 | exact HA.out.1.trans hb3.undrew | exact HB2.out.trans hb3.undrew
             first | (have hc3 : w3.cell? ⟨w2.heap.size, k2, none⟩ = some (.string (lit6 k2)) := cell_lit hb3 hrn (by omega)) | (have hc3 : w3.cell? ⟨w2.heap.size, k2, none⟩ = some (.string (lit6 k2)) := cell_lit hb3.undrew hrn (by omega)) | skip
             have HR3 : Hid (Rd r a len cap w3) := hr3
             have j1 : (k2 : Int) < 6 := by omega
             generalize lit6 k2 = lt at *
             have g1 : ¬ 9223372036854775807 < min k s.size + lt.size := by omega
             have g2 : ¬ 9223372036854775807 < min k s.size + lt.size + (s.size - (k + 1)) := by omega
             clear hr3)))
      all_goals
        go_wp2
        go_ret
        first
          | exact ⟨_, by simp only [ByteArray.size_append, ByteArray.size_extract]; omega, rfl, HB3.out, HR3.out⟩
          | exact ⟨_, by simp only [ByteArray.size_append, ByteArray.size_extract]; omega, rfl, HB3.out.alloc _, HR3.out.below ((Below.refl _ _).alloc (Nat.le_refl _) _)⟩
          | exact ⟨_, by simp only [ByteArray.size_append, ByteArray.size_extract]; omega, rfl, HB3.out.drew, HR3.out.below (Below.refl _ _).drew⟩
          | exact ⟨_, by simp only [ByteArray.size_append, ByteArray.size_extract]; omega, rfl, (HB3.out.alloc _).drew, HR3.out.below ((Below.refl _ _).alloc (Nat.le_refl _) _).drew⟩
    · have h0' : ¬ (0 : Int) < (s.size : Int) := by omega
      go_wp2
      go_ret
      exact ⟨s, by omega, rfl, HB.out, hr⟩
  · have HB1 : Hid (But r w (w1.alloc (.cells #[.string ⟨#[32]⟩, .string ⟨#[59]⟩, .string ⟨#[48]⟩, .string ⟨#[120]⟩] 9))) := HB.out.alloc _
    have hrn := hr.lt
    go_wp2_with fail
    refine (below_any r a len cap 4 _ hl (by omega) (by omega) (hr.below ((Below.refl _ _).alloc (Nat.le_refl _) _))).mono ?_
    rintro e w2 ⟨u, u0, u1, rfl, hb2, hr2⟩
    have hrow : w2.heap[w1.heap.size]? = some (.cells #[.string ⟨#[32]⟩, .string ⟨#[59]⟩, .string ⟨#[48]⟩, .string ⟨#[120]⟩] 9 (0, 0)) := (hb2.block _ (by simp) (by omega)).trans (heap_alloc_new _ _)
    have HB2 : Hid (But r w w2) := HB1.out.trans hb2
    have q0 : w2.cell? ⟨w1.heap.size, 0, none⟩ = some (.string ⟨#[32]⟩) := by rw [cell_of_row _ _ _ _ _ _ hrow]; rfl
    have q1 : w2.cell? ⟨w1.heap.size, 1, none⟩ = some (.string ⟨#[59]⟩) := by rw [cell_of_row _ _ _ _ _ _ hrow]; rfl
    have q2 : w2.cell? ⟨w1.heap.size, 2, none⟩ = some (.string ⟨#[48]⟩) := by rw [cell_of_row _ _ _ _ _ _ hrow]; rfl
    have q3 : w2.cell? ⟨w1.heap.size, 3, none⟩ = some (.string ⟨#[120]⟩) := by rw [cell_of_row _ _ _ _ _ _ hrow]; rfl
    clear hb2 hrow HB1
    have l1 : ¬ 9223372036854775807 < s.size + 1 := by omega
    have h4 : u = 0 ∨ u = 1 ∨ u = 2 ∨ u = 3 := by omega
    rcases h4 with rfl | rfl | rfl | rfl
    all_goals
      go_wp2
      go_ret
      exact ⟨_, by simp only [ByteArray.size_append]; show s.size + 1 ≤ 50001; omega, rfl, HB2.out, hr2⟩
  · go_wp2
    go_ret
    exact ⟨s, by omega, rfl, HB.out, hr⟩
  · go_wp2
    go_ret
    exact ⟨s, by omega, rfl, HB.out, hr⟩

end Go.Proofs.YtlaeilcipibelaaGreatDoor
