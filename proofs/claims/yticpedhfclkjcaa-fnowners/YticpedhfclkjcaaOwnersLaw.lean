/- FnOwners, called at any code: true, and nothing that was there is changed. -/
import Derived.Test.YticpedhfclkjcaaLawBase
namespace Go.Proofs.Yticpedhfclkjcaa
open Go.RowKit

set_option maxHeartbeats 1000000 in
theorem owners_any (a : Option Addr) (len cap : Nat) (w : World) (hb : len ≤ 1048576 → Bytes w a len) :
    Calls Try.prog 3 #[.slice a len cap] w fun e w' => e = .returned (.bool true) ∧ Below w.heap.size w w' := by
  by_cases hl : 1048576 < len
  · have hd : decide (1048576 < len) = true := by simp [hl]
    go_enter Try.func3, Try.ntmps3
    go_wp2_with (go_at_call 7; refine (big_any _ _ _ _).mono ?_; rintro e w' ⟨rfl, rfl⟩; rw [hd])
    go_ret
    exact ⟨rfl, by go_grown⟩
  have hd : decide (1048576 < len) = false := by simp [hl]
  have hb := hb (by omega)
  go_enter Try.func3, Try.ntmps3
  go_wp2_with (go_at_call 7; refine (big_any _ _ _ _).mono ?_; rintro e w' ⟨rfl, rfl⟩; rw [hd])
  refine (drawOwnerAt_any a len cap _ (by omega) hb).mono ?_
  rintro e w1 ⟨mj, t, g, n, c, Z, rfl, hn, hg, hw, hz, hbel⟩
  have HF1 : Hid (Fr w' (w1.alloc (.cells #[.int .i64 mj, .slice (some ⟨g, 0, none⟩) n c] 26)) w1.heap.size g n c mj Z) := Fr.start hw hbel
  have HZ := wide hz
  clear hw hbel hb hz hg
  go_wp2_with fail
  generalize w1.alloc (.cells #[.int .i64 mj, .slice (some ⟨g, 0, none⟩) n c] 26) = W1 at *
  generalize w1.heap.size = B at *
  refine (implOwnerAt_any mj t g n c Z W1 (by omega) HZ HF1.out.wins).mono ?_
  rintro e W2 ⟨rfl, hb2⟩
  have HF2 : Hid (Fr w' W2 B g n c mj Z) := HF1.out.below hb2
  have m2 := HF2.out.m
  have s2 := HF2.out.s
  clear hb2 HF1
  go_wp2_with fail
  refine (specOwnerAt_any mj t g n c Z W2 (by omega) HZ HF2.out.wins).mono ?_
  rintro e W3 ⟨rfl, hb3⟩
  have HF3 : Hid (Fr w' W3 B g n c mj Z) := HF2.out.below hb3
  have m3 := HF3.out.m
  have s3 := HF3.out.s
  clear hb3 HF2 m2 s2
  by_cases hneg : ownerB mj n Z t < 0
  · go_wp2_with fail
    refine (specOwnerAt_any mj t g n c Z W3 (by omega) HZ HF3.out.wins).mono ?_
    rintro e W4 ⟨rfl, hb4⟩
    have HF4 : Hid (Fr w' W4 B g n c mj Z) := HF3.out.below hb4
    go_wp2
    go_ret
    exact ⟨ret_bool (by simp), HF4.out.bel⟩
  have hyes : frameB mj n Z = true ∧ 0 ≤ t ∧ t ≤ 1000000000 := Classical.byContradiction fun hno => by rw [ownerB_no hno] at hneg; omega
  have HN : Hid (ownerB mj n Z t = ownerZ Z n (t % mj)) := ownerB_yes hyes
  obtain ⟨hF, t0, t1⟩ := hyes
  obtain ⟨k1, k2, -, k4⟩ := frameB_out hF
  have HK : Hid (∀ i, i < n → winAt mj Z i = true) := k4
  have HFB : Hid (frameB mj n Z = true) := hF
  clear k4 hF
  generalize ownerB mj n Z t = N at *
  have hm : ¬ mj = 0 := by omega
  have x0 : 0 ≤ t % mj := Int.emod_nonneg _ hm
  have x1 : t % mj < mj := Int.emod_lt_of_pos _ (by omega)
  go_wp2_with fail
  clear m3 s3
  go_loopw [6, 7] (fun v i wr => ∃ k : Nat, k ≤ n ∧ i = .int .i64 k ∧ v = .int .i64 (ownerZ Z k (t % mj)) ∧ Fr w' wr B g n c mj Z) (fun _ i _ => n - (intOf i).toNat)
  case atStart => exact ⟨0, by omega, rfl, by rw [ownerZ_zero], HF3.out⟩
  case round =>
    obtain ⟨k, hk, rfl, rfl, hfr⟩ := hrel
    have HF : Hid (Fr w' wr B g n c mj Z) := hfr
    have m3 := hfr.m
    have s3 := hfr.s
    clear hfr
    by_cases hlt : k < n
    · have hra := HF.out.wins
      have c0 : wr.cell? ⟨g, k * 3, none⟩ = some (.int .i64 (Z (k * 3))) := hra.cell (by omega)
      have c1 : wr.cell? ⟨g, k * 3 + 1, none⟩ = some (.int .i64 (Z (k * 3 + 1))) := hra.cell (by omega)
      have c2 : wr.cell? ⟨g, k * 3 + 2, none⟩ = some (.int .i64 (Z (k * 3 + 2))) := hra.cell (by omega)
      clear hra
      have hw := right_win HK.out hlt
      have HH : Hid (ownerZ Z (k + 1) (t % mj) = if hitB Z (t % mj) k = true then Z (k * 3 + 2) else ownerZ Z k (t % mj)) := ownerZ_last HK.out k hlt _
      have HT : Hid (Z (k * 3) ≤ t % mj ∧ t % mj < Z (k * 3) + Z (k * 3 + 1) → hitB Z (t % mj) k = true) := fun h => hitB_true h
      have HU : Hid (¬ (Z (k * 3) ≤ t % mj ∧ t % mj < Z (k * 3) + Z (k * 3 + 1)) → hitB Z (t % mj) k = false) := fun h => hitB_false h
      generalize Z (k * 3) = a' at *
      generalize Z (k * 3 + 1) = l at *
      generalize Z (k * 3 + 2) = p at *
      obtain ⟨w0, w1, w2, w3, w4⟩ := hw
      have i0 : (0 : Int) ≤ (k : Int) := by omega
      have i1 : (k : Int) < (n : Int) := by omega
      have hal : IntKind.i64.wrap (a' + l) = a' + l := by rw [IntKind.wrap_i64]; omega
      by_cases q1 : t % mj < a'
      · have q1d : decide (a' ≤ t % mj) = false := by simpa using q1
        go_wp2_with fail
        go_quiet (fail)
        go_wp2
        go_roundw
        case rel => exact ⟨k + 1, by omega, by go_num, by rw [HH.out, HU.out (by omega)]; simp, HF.out.drewN _⟩
        case measure => simp [intOf]; omega
      have q1' : a' ≤ t % mj := by omega
      by_cases q2 : t % mj < a' + l
      · go_wp2_with fail
        go_quiet (fail)
        go_wp2
        go_roundw
        case rel => exact ⟨k + 1, by omega, by go_num, by rw [HH.out, HT.out (by omega)]; simp, HF.out.drewN _⟩
        case measure => simp [intOf]; omega
      · go_wp2_with fail
        go_quiet (fail)
        go_wp2
        go_roundw
        case rel => exact ⟨k + 1, by omega, by go_num, by rw [HH.out, HU.out (by omega)]; simp, HF.out.drewN _⟩
        case measure => simp [intOf]; omega
    · have e : k = n := by omega
      subst e
      by_cases hgt : 1000000000 - mj < t
      · go_wp2_with fail
        go_ret
        exact ⟨rfl, HF.out.bel⟩
      · go_wp2_with fail
        refine (implOwnerAt_any mj (t + mj) g k c Z wr (by omega) HZ HF.out.wins).mono ?_
        rintro e W4 ⟨rfl, hb4⟩
        have HF4 : Hid (Fr w' W4 B g k c mj Z) := HF.out.below hb4
        have hlast : ownerB mj k Z (t + mj) = ownerZ Z k (t % mj) := by rw [ownerB_yes ⟨HFB.out, by omega, by omega⟩, Int.add_emod_right]
        rw [hlast]
        clear hlast hb4
        go_wp2
        go_ret
        exact ⟨ret_bool (by simp), HF4.out.bel⟩

end Go.Proofs.Yticpedhfclkjcaa
