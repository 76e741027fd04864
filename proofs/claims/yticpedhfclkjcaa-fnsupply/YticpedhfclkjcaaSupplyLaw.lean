/- FnSupply, called at any code: true, and nothing that was there is changed. -/
import Derived.Test.YticpedhfclkjcaaLawBase
import Derived.Test.YticpedhfclkjcaaDrawSup
namespace Go.Proofs.Yticpedhfclkjcaa
open Go.RowKit

set_option maxHeartbeats 1000000 in
theorem supply_law (a : Option Addr) (len cap : Nat) (w : World) (hb : len ≤ 1048576 → Bytes w a len) :
    Calls Try.prog 4 #[.slice a len cap] w fun e w' => e = .returned (.bool true) ∧ Below w.heap.size w w' := by
  by_cases hl : 1048576 < len
  · have hd : decide (1048576 < len) = true := by simp [hl]
    go_enter Try.func4, Try.ntmps4
    go_wp2_with (go_at_call 7; refine (big_any _ _ _ _).mono ?_; rintro e w' ⟨rfl, rfl⟩; rw [hd])
    go_ret
    exact ⟨rfl, by go_grown⟩
  have hd : decide (1048576 < len) = false := by simp [hl]
  have hb := hb (by omega)
  go_enter Try.func4, Try.ntmps4
  go_wp2_with (go_at_call 7; refine (big_any _ _ _ _).mono ?_; rintro e w' ⟨rfl, rfl⟩; rw [hd])
  refine (drawSupplyOf_any a len cap _ (by omega) hb).mono ?_
  rintro e w1 ⟨mj, p, t, s, g, n, c, Z, rfl, p0, p1, hn, hg, hw, hz, hbel⟩
  have HF1 : Hid (Fr w' (w1.alloc (.cells #[.int .i64 mj, .slice (some ⟨g, 0, none⟩) n c] 26)) w1.heap.size g n c mj Z) := Fr.start hw hbel
  have HZ := wide hz
  clear hw hbel hb hz hg
  go_wp2_with fail
  generalize w1.alloc (.cells #[.int .i64 mj, .slice (some ⟨g, 0, none⟩) n c] 26) = W1 at *
  generalize w1.heap.size = B at *
  refine (implSupplyOf_any mj p t s g n c Z W1 (by omega) HZ HF1.out.wins).mono ?_
  rintro e W2 ⟨rfl, hb2⟩
  have HF2 : Hid (Fr w' W2 B g n c mj Z) := HF1.out.below hb2
  have m2 := HF2.out.m
  have s2 := HF2.out.s
  clear hb2 HF1
  go_wp2_with fail
  refine (specSupplyOf_any mj p t s g n c Z W2 (by omega) HZ HF2.out.wins).mono ?_
  rintro e W3 ⟨rfl, hb3⟩
  have HF3 : Hid (Fr w' W3 B g n c mj Z) := HF2.out.below hb3
  have m3 := HF3.out.m
  have s3 := HF3.out.s
  clear hb3 HF2 m2 s2
  by_cases hneg : supB mj n Z p t s < 0
  · go_wp2_with fail
    refine (specSupplyOf_any mj p t s g n c Z W3 (by omega) HZ HF3.out.wins).mono ?_
    rintro e W5 ⟨rfl, hb5⟩
    have HF5 : Hid (Fr w' W5 B g n c mj Z) := HF3.out.below hb5
    go_wp2
    go_ret
    exact ⟨ret_bool (by simp), HF5.out.bel⟩
  have hyes : frameB mj n Z = true ∧ 0 ≤ t ∧ t ≤ 1000000000 ∧ t ≤ s ∧ s ≤ 1000000000 := Classical.byContradiction fun hno => by rw [supB_no hno] at hneg; omega
  have HN : Hid (supB mj n Z p t s = supZ mj n Z p s - supZ mj n Z p t) := supB_yes hyes
  obtain ⟨hF, t0, t1, t2, t3⟩ := hyes
  obtain ⟨k1, k2, -, k4⟩ := frameB_out hF
  have HK : Hid (∀ i, i < n → winAt mj Z i = true) := k4
  have HFB : Hid (frameB mj n Z = true) := hF
  clear k4 hF
  generalize supB mj n Z p t s = N at *
  go_wp2_with fail
  obtain ⟨M, hM⟩ : ∃ M, t + (s - t) / 2 = M := ⟨_, rfl⟩
  have M0 : t ≤ M := by omega
  have M1 : M ≤ s := by omega
  have HMM : Hid (t + (s - t) / 2 = M) := hM
  rw [hM]
  clear hM
  have HA1 : Hid (supB mj n Z p t M = supZ mj n Z p M - supZ mj n Z p t) := supB_yes ⟨HFB.out, by omega, by omega, by omega, by omega⟩
  have HA2 : Hid (supB mj n Z p M s = supZ mj n Z p s - supZ mj n Z p M) := supB_yes ⟨HFB.out, by omega, by omega, by omega, by omega⟩
  have hsum : supB mj n Z p t M + supB mj n Z p M s = N := by rw [HA1.out, HA2.out, HN.out]; omega
  have hpc : ∀ x y : Int, x ≤ y → 0 ≤ supZ mj n Z p y - supZ mj n Z p x ∧ supZ mj n Z p y - supZ mj n Z p x ≤ y - x := fun x y hxy => by
    have := supZ_piece (part := p) (by omega) k1 HK.out x (y - x).toNat
    have e : ((y - x).toNat : Int) = y - x := by omega
    rw [e] at this
    have e2 : x + (y - x) = y := by omega
    rwa [e2] at this
  have HP := hpc
  have hNle : N ≤ s - t := by rw [HN.out]; exact (hpc t s t2).2
  have n0 : 0 ≤ N := by omega
  have hwr : IntKind.i64.wrap (supB mj n Z p t M + supB mj n Z p M s) = supB mj n Z p t M + supB mj n Z p M s := by rw [hsum, IntKind.wrap_i64]; omega
  have HPC : Hid (∀ x y : Int, x ≤ y → 0 ≤ supZ mj n Z p y - supZ mj n Z p x ∧ supZ mj n Z p y - supZ mj n Z p x ≤ y - x) := hpc
  clear hpc HP
  go_region_held3 (fun w' => w'.cell? ⟨B, 0, none⟩ = some (.int .i64 mj) ∧ w'.cell? ⟨B, 1, none⟩ = some (.slice (some ⟨g, 0, none⟩) n c)) (go_keep)
    ((go_at_call 12
      refine (implSupplyOf_any mj p _ _ g n c Z _ (by omega) HZ ?_).mono ?_
      first | exact HF5.out.wins | exact (HF3.out.drewN 1).wins
      rintro e W5 ⟨rfl, hb5⟩
      first
        | (have HF6 : Hid (Fr w' W5 B g n c mj Z) := HF5.out.below hb5
           have m6 := HF6.out.m
           have s6 := HF6.out.s)
        | (have HF5 : Hid (Fr w' W5 B g n c mj Z) := (HF3.out.drewN 1).below hb5
           have m5 := HF5.out.m
           have s5 := HF5.out.s)
      clear hb5))
  rw [hsum] at hwr
  generalize supB mj n Z p t M + supB mj n Z p M s = SS at *
  subst hsum
  clear HA1 HA2
  by_cases hbig : 100 < s - t
  · go_wp2
    go_ret
    exact ⟨ret_bool (by first | (simp; omega) | simp), HF6.out.bel⟩
  have hst : IntKind.i64.wrap (s - t) = s - t := by rw [IntKind.wrap_i64]; omega
  go_wp2_with fail
  clear m6 s6 m5 s5
  go_loopw [9, 10] (fun v i wr => ∃ x : Int, t ≤ x ∧ x ≤ s ∧ i = .int .i64 x ∧ v = .int .i64 (supZ mj n Z p x - supZ mj n Z p t) ∧ Fr w' wr B g n c mj Z) (fun _ i _ => (s - intOf i).toNat)
  case atStart => exact ⟨t, by omega, by omega, rfl, by simp, HF6.out⟩
  case round =>
    obtain ⟨x, x0, x1, rfl, rfl, hfr⟩ := hrel
    have HF : Hid (Fr w' wr B g n c mj Z) := hfr
    have m3 := hfr.m
    have s3 := hfr.s
    have hcnt := HPC.out t x x0
    clear hfr
    by_cases hlt : x < s
    · go_wp2_with fail
      refine (implOwnerAt_any mj x g n c Z wr (by omega) HZ HF.out.wins).mono ?_
      rintro e W7 ⟨rfl, hb7⟩
      have HF7 : Hid (Fr w' W7 B g n c mj Z) := HF.out.below hb7
      have ho : ownerB mj n Z x = ownerZ Z n (x % mj) := ownerB_yes ⟨HFB.out, by omega, by omega⟩
      have HS : Hid (supZ mj n Z p (x + 1) = supZ mj n Z p x + if ownerZ Z n (x % mj) = p then 1 else 0) := supZ_step (by omega) k1 HK.out x
      rw [ho]
      clear ho hb7 HF m3 s3
      generalize ownerZ Z n (x % mj) = O at *
      by_cases hO : O = p
      · have hO' : (O == p) = true := by simp [hO]
        go_wp2
        go_roundw
        case rel => exact ⟨x + 1, by omega, by omega, by go_num, by rw [HS.out, if_pos hO]; go_num, HF7.out⟩
        case measure => simp [intOf]; omega
      · have hO' : (O == p) = false := by simp [hO]
        go_wp2
        go_roundw
        case rel => exact ⟨x + 1, by omega, by omega, by go_num, by rw [HS.out, if_neg hO]; simp, HF7.out⟩
        case measure => simp [intOf]; omega
    · have e : x = s := by omega
      subst e
      go_wp2
      go_ret
      exact ⟨ret_bool (by simp [HN.out]), HF.out.bel⟩

end Go.Proofs.Yticpedhfclkjcaa
