/- FnLeast, called at any code: true, and nothing that was there is changed. -/
import Derived.Test.YticpedhfclkjcaaLawBase
namespace Go.Proofs.Yticpedhfclkjcaa
open Go.RowKit

set_option maxHeartbeats 1000000 in
theorem least_law (a : Option Addr) (len cap : Nat) (w : World) (hb : len ≤ 1048576 → Bytes w a len) :
    Calls Try.prog 5 #[.slice a len cap] w fun e w' => e = .returned (.bool true) ∧ Below w.heap.size w w' := by
  by_cases hl : 1048576 < len
  · have hd : decide (1048576 < len) = true := by simp [hl]
    go_enter Try.func5, Try.ntmps5
    go_wp2_with (go_at_call 7; refine (big_any _ _ _ _).mono ?_; rintro e w' ⟨rfl, rfl⟩; rw [hd])
    go_ret
    exact ⟨rfl, by go_grown⟩
  have hd : decide (1048576 < len) = false := by simp [hl]
  have hb := hb (by omega)
  go_enter Try.func5, Try.ntmps5
  go_wp2_with (go_at_call 7; refine (big_any _ _ _ _).mono ?_; rintro e w' ⟨rfl, rfl⟩; rw [hd])
  refine (drawLeastSupply_any a len cap _ (by omega) hb).mono ?_
  rintro e w1 ⟨mj, p, t, g, n, c, Z, rfl, p0, p1, hn, hg, hw, hz, hbel⟩
  have HF1 : Hid (Fr w' (w1.alloc (.cells #[.int .i64 mj, .slice (some ⟨g, 0, none⟩) n c] 26)) w1.heap.size g n c mj Z) := Fr.start hw hbel
  have HZ := wide hz
  clear hw hbel hb hz hg
  go_wp2_with fail
  generalize w1.alloc (.cells #[.int .i64 mj, .slice (some ⟨g, 0, none⟩) n c] 26) = W1 at *
  generalize w1.heap.size = B at *
  refine (implLeastSupply_any mj p t g n c Z W1 (by omega) HZ HF1.out.wins).mono ?_
  rintro e W2 ⟨rfl, hb2⟩
  have HF2 : Hid (Fr w' W2 B g n c mj Z) := HF1.out.below hb2
  have m2 := HF2.out.m
  have s2 := HF2.out.s
  clear hb2 HF1
  go_wp2_with fail
  refine (specLeastSupply_any mj p t g n c Z W2 (by omega) HZ HF2.out.wins).mono ?_
  rintro e W3 ⟨rfl, hb3⟩
  have HF3 : Hid (Fr w' W3 B g n c mj Z) := HF2.out.below hb3
  have m3 := HF3.out.m
  have s3 := HF3.out.s
  clear hb3 HF2 m2 s2
  by_cases hneg : leastB mj n Z p t < 0
  · go_wp2_with fail
    refine (specLeastSupply_any mj p t g n c Z W3 (by omega) HZ HF3.out.wins).mono ?_
    rintro e W5 ⟨rfl, hb5⟩
    have HF5 : Hid (Fr w' W5 B g n c mj Z) := HF3.out.below hb5
    go_wp2
    go_ret
    exact ⟨ret_bool (by simp), HF5.out.bel⟩
  by_cases hbig : 60 < mj
  · go_wp2_with fail
    refine (specLeastSupply_any mj p t g n c Z W3 (by omega) HZ HF3.out.wins).mono ?_
    rintro e W5 ⟨rfl, hb5⟩
    have HF5 : Hid (Fr w' W5 B g n c mj Z) := HF3.out.below hb5
    go_wp2
    go_ret
    exact ⟨ret_bool (by simp), HF5.out.bel⟩
  have hyes : frameB mj n Z = true ∧ 0 ≤ t ∧ t ≤ 999999000 := Classical.byContradiction fun hno => by rw [leastB_no hno] at hneg; omega
  have HN : Hid (leastB mj n Z p t = leastTo mj n Z p t mj.toNat) := leastB_yes hyes
  obtain ⟨hF, t0, t1⟩ := hyes
  obtain ⟨k1, k2, -, k4⟩ := frameB_out hF
  have HK : Hid (∀ i, i < n → winAt mj Z i = true) := k4
  have HFB : Hid (frameB mj n Z = true) := hF
  clear k4 hF
  generalize leastB mj n Z p t = N at *
  go_wp2_with fail
  have HL : Hid (∀ k : Nat, (k : Int) < mj → N ≤ supZ mj n Z p (k + t) - supZ mj n Z p k) := fun k hk => by rw [HN.out]; exact (leastTo_le mj.toNat).2 k (by omega)
  have HM : Hid (∃ k : Nat, (k : Int) < mj ∧ supZ mj n Z p (k + t) - supZ mj n Z p k = N) := by
    obtain ⟨k, hk, e⟩ := leastTo_met (major := mj) (Z := Z) (len := n) (part := p) (n := t) (by omega) k1 HK.out t0
    exact ⟨k, by omega, by rw [HN.out]; exact e⟩
  clear m3 s3
  go_loopw [7, 8] (fun v i wr => ∃ (k : Nat) (b : Bool), (k : Int) ≤ mj ∧ i = .int .i64 k ∧ v = .bool b ∧ ((∃ j : Nat, j < k ∧ supZ mj n Z p (j + t) - supZ mj n Z p j = N) → b = true) ∧ Fr w' wr B g n c mj Z) (fun _ i _ => mj.toNat - (intOf i).toNat)
  case atStart => exact ⟨0, false, by omega, rfl, rfl, fun ⟨j, hj, _⟩ => absurd hj (by omega), HF3.out⟩
  case round =>
    obtain ⟨k, b, hk, rfl, rfl, hmet, hfr⟩ := hrel
    have HF : Hid (Fr w' wr B g n c mj Z) := hfr
    have HB : Hid ((∃ j : Nat, j < k ∧ supZ mj n Z p (j + t) - supZ mj n Z p j = N) → b = true) := hmet
    have m3 := hfr.m
    have s3 := hfr.s
    clear hfr hmet
    by_cases hlt : (k : Int) < mj
    · have hkt : IntKind.i64.wrap ((k : Int) + t) = (k : Int) + t := by rw [IntKind.wrap_i64]; omega
      go_wp2_with fail
      refine (implSupplyOf_any mj p k (k + t) g n c Z wr (by omega) HZ HF.out.wins).mono ?_
      rintro e W5 ⟨rfl, hb5⟩
      have HF5 : Hid (Fr w' W5 B g n c mj Z) := HF.out.below hb5
      have hs : supB mj n Z p k (k + t) = supZ mj n Z p (k + t) - supZ mj n Z p k := supB_yes ⟨HFB.out, by omega, by omega, by omega, by omega⟩
      have hge := HL.out k hlt
      have HE : Hid (∀ j : Nat, j < k + 1 → supZ mj n Z p (j + t) - supZ mj n Z p j = N → j < k ∨ supZ mj n Z p (k + t) - supZ mj n Z p k = N) := fun j hj e => by
        by_cases h : j = k
        · subst h; exact .inr e
        · exact .inl (by omega)
      rw [hs]
      clear hs hb5 HF
      generalize supZ mj n Z p (k + t) - supZ mj n Z p k = S at *
      have hns : ¬ S < N := by omega
      cases b with
      | true =>
        go_wp2
        go_roundw
        case rel => exact ⟨k + 1, true, by omega, by go_num, rfl, fun _ => rfl, HF5.out⟩
        case measure => simp [intOf]; omega
      | false =>
        go_wp2
        go_roundw
        case rel => exact ⟨k + 1, S == N, by omega, by go_num, rfl, fun ⟨j, hj, e⟩ => by
          rcases HE.out j hj e with h | h
          · exact absurd (HB.out ⟨j, h, e⟩) (by simp)
          · simp [h], HF5.out⟩
        case measure => simp [intOf]; omega
    · have hb : b = true := by
        obtain ⟨j, hj, e⟩ := HM.out
        exact HB.out ⟨j, by omega, e⟩
      subst hb
      go_wp2_with fail
      have q0 : 0 ≤ (len : Int) % 9 := Int.emod_nonneg _ (by omega)
      have q1 : (len : Int) % 9 ≤ 8 := by omega
      generalize (len : Int) % 9 = K at *
      have ht : N ≤ t := by rw [HN.out]; exact (leastTo_le mj.toNat).1
      by_cases hbt : 1000000 < t
      · go_quiet (fail)
        go_wp2
        go_ret
        exact ⟨rfl, (HF.out.drewN _).bel⟩
      · have hbd : decide (1000000 < t) = false := by simpa using hbt
        have HA : Hid (leastB mj n Z p (t + K) = leastTo mj n Z p (t + K) mj.toNat) := leastB_yes ⟨HFB.out, by omega, by omega⟩
        have HL' : Hid (leastB mj n Z p K = leastTo mj n Z p K mj.toNat) := leastB_yes ⟨HFB.out, by omega, by omega⟩
        have hsum : N + leastB mj n Z p K ≤ leastB mj n Z p (t + K) := by rw [HA.out, HL'.out, HN.out]; exact leastTo_add k1 t0
        have l0 : 0 ≤ leastB mj n Z p K := by
          rw [HL'.out]
          refine leastTo_ge _ q0 (fun j _ => ?_)
          have := (supZ_piece (part := p) (by omega) k1 HK.out (j : Int) K.toNat).1
          have e : (K.toNat : Int) = K := by omega
          rwa [e] at this
        have l1 : leastB mj n Z p K ≤ K := by rw [HL'.out]; exact (leastTo_le mj.toNat).1
        have ht2 : IntKind.i64.wrap (t + K) = t + K := by rw [IntKind.wrap_i64]; omega
        have hw2 : IntKind.i64.wrap (N + leastB mj n Z p K) = N + leastB mj n Z p K := by rw [IntKind.wrap_i64]; omega
        go_region_held3 (fun w' => w'.cell? ⟨B, 0, none⟩ = some (.int .i64 mj) ∧ w'.cell? ⟨B, 1, none⟩ = some (.slice (some ⟨g, 0, none⟩) n c)) (go_keep)
          ((go_at_call 15
            refine (implLeastSupply_any mj p _ g n c Z _ (by omega) HZ ?_).mono ?_
            first | exact HF5.out.wins | exact (HF.out.drewN 1).wins
            rintro e W5 ⟨rfl, hb5⟩
            first
              | (have HF6 : Hid (Fr w' W5 B g n c mj Z) := HF5.out.below hb5
                 have m6 := HF6.out.m
                 have s6 := HF6.out.s)
              | (have HF5 : Hid (Fr w' W5 B g n c mj Z) := (HF.out.drewN 1).below hb5
                 have m5 := HF5.out.m
                 have s5 := HF5.out.s)
            clear hb5))
        go_wp2
        go_ret
        exact ⟨ret_bool (by simp; try omega), HF6.out.bel⟩

end Go.Proofs.Yticpedhfclkjcaa
