/- FnNext, called at any code: true, and nothing that was there is changed. -/
import Derived.Test.YticpedhfclkjcaaLawBase
namespace Go.Proofs.Yticpedhfclkjcaa
open Go.RowKit

set_option maxHeartbeats 1000000 in
theorem next_law (a : Option Addr) (len cap : Nat) (w : World) (hb : len ≤ 1048576 → Bytes w a len) :
    Calls Try.prog 6 #[.slice a len cap] w fun e w' => e = .returned (.bool true) ∧ Below w.heap.size w w' := by
  by_cases hl : 1048576 < len
  · have hd : decide (1048576 < len) = true := by simp [hl]
    go_enter Try.func6, Try.ntmps6
    go_wp2_with (go_at_call 7; refine (big_any _ _ _ _).mono ?_; rintro e w' ⟨rfl, rfl⟩; rw [hd])
    go_ret
    exact ⟨rfl, by go_grown⟩
  have hd : decide (1048576 < len) = false := by simp [hl]
  have hb := hb (by omega)
  go_enter Try.func6, Try.ntmps6
  go_wp2_with (go_at_call 7; refine (big_any _ _ _ _).mono ?_; rintro e w' ⟨rfl, rfl⟩; rw [hd])
  refine (drawNextAt_any a len cap _ (by omega) hb).mono ?_
  rintro e w1 ⟨mj, p, t, g, n, c, Z, rfl, p0, p1, hn, hg, hw, hz, hbel⟩
  have HF1 : Hid (Fr w' (w1.alloc (.cells #[.int .i64 mj, .slice (some ⟨g, 0, none⟩) n c] 26)) w1.heap.size g n c mj Z) := Fr.start hw hbel
  have HZ := wide hz
  clear hw hbel hb hz hg
  go_wp2_with fail
  generalize w1.alloc (.cells #[.int .i64 mj, .slice (some ⟨g, 0, none⟩) n c] 26) = W1 at *
  generalize w1.heap.size = B at *
  refine (implNextAt_any mj p t g n c Z W1 (by omega) HZ HF1.out.wins).mono ?_
  rintro e W2 ⟨rfl, hb2⟩
  have HF2 : Hid (Fr w' W2 B g n c mj Z) := HF1.out.below hb2
  have m2 := HF2.out.m
  have s2 := HF2.out.s
  clear hb2 HF1
  go_wp2_with fail
  refine (specNextAt_any mj p t g n c Z W2 (by omega) HZ HF2.out.wins).mono ?_
  rintro e W3 ⟨rfl, hb3⟩
  have HF3 : Hid (Fr w' W3 B g n c mj Z) := HF2.out.below hb3
  have m3 := HF3.out.m
  have s3 := HF3.out.s
  clear hb3 HF2 m2 s2
  go_wp2_with fail
  refine (specFrameOk_any mj g n c Z W3 (by omega) HZ HF3.out.wins).mono ?_
  rintro e W4 ⟨rfl, hb4⟩
  have HF4 : Hid (Fr w' W4 B g n c mj Z) := HF3.out.below hb4
  have m4 := HF4.out.m
  have s4 := HF4.out.s
  clear hb4 HF3 m3 s3
  by_cases hF : frameB mj n Z = true
  · rw [hF]
    by_cases t0 : t < 0
    · go_wp2_with fail
      refine (specNextAt_any mj p t g n c Z W4 (by omega) HZ HF4.out.wins).mono ?_
      rintro e W5 ⟨rfl, hb5⟩
      have HF5 : Hid (Fr w' W5 B g n c mj Z) := HF4.out.below hb5
      go_wp2
      go_ret
      exact ⟨ret_bool (by simp), HF5.out.bel⟩
    by_cases t1 : 999999000 < t
    · go_wp2_with fail
      refine (specNextAt_any mj p t g n c Z W4 (by omega) HZ HF4.out.wins).mono ?_
      rintro e W5 ⟨rfl, hb5⟩
      have HF5 : Hid (Fr w' W5 B g n c mj Z) := HF4.out.below hb5
      go_wp2
      go_ret
      exact ⟨ret_bool (by simp), HF5.out.bel⟩
    obtain ⟨k1, k2, -, k4⟩ := frameB_out hF
    have HK : Hid (∀ i, i < n → winAt mj Z i = true) := k4
    have HFB : Hid (frameB mj n Z = true) := hF
    have hN : nextB mj n Z p t = nextZ mj n Z p t := nextB_yes ⟨hF, by omega, by omega⟩
    clear k4 hF
    rw [hN]
    clear hN
    rcases nextZ_cases (major := mj) (Z := Z) (len := n) (part := p) (t := t) with ⟨hN, hno⟩ | ⟨k, hk, hN, hown, hno⟩
    · have hs : supB mj n Z p 0 mj = 0 := by
        rw [supB_yes ⟨HFB.out, by omega, by omega, by omega, by omega⟩]
        exact supZ_never (by omega) k1 HK.out hno
      clear hno
      rw [hN]
      clear hN
      go_wp2_with fail
      refine (implSupplyOf_any mj p 0 mj g n c Z W4 (by omega) HZ HF4.out.wins).mono ?_
      rintro e W5 ⟨rfl, hb5⟩
      have HF5 : Hid (Fr w' W5 B g n c mj Z) := HF4.out.below hb5
      rw [hs]
      clear hs hb5
      go_wp2
      go_ret
      exact ⟨ret_bool (by simp), HF5.out.bel⟩
    · have hs : supB mj n Z p t (t + k) = 0 := by
        rw [supB_yes ⟨HFB.out, by omega, by omega, by omega, by omega⟩, supZ_none (by omega) k1 HK.out t k hno]
        omega
      have ho : ownerB mj n Z (t + k) = p := by rw [ownerB_yes ⟨HFB.out, by omega, by omega⟩]; exact hown
      have HS : Hid (supB mj n Z p t (t + k) = 0) := hs
      have HO : Hid (ownerB mj n Z (t + k) = p) := ho
      clear hno hown hs ho
      rw [hN]
      clear hN
      go_wp2_with fail
      refine (implOwnerAt_any mj (t + k) g n c Z W4 (by omega) HZ HF4.out.wins).mono ?_
      rintro e W5 ⟨rfl, hb5⟩
      have HF5 : Hid (Fr w' W5 B g n c mj Z) := HF4.out.below hb5
      have m5 := HF5.out.m
      have s5 := HF5.out.s
      rw [HO.out]
      clear hb5
      go_wp2_with fail
      refine (implSupplyOf_any mj p t (t + k) g n c Z W5 (by omega) HZ HF5.out.wins).mono ?_
      rintro e W6 ⟨rfl, hb6⟩
      have HF6 : Hid (Fr w' W6 B g n c mj Z) := HF5.out.below hb6
      rw [HS.out]
      clear hb6
      go_wp2
      go_ret
      exact ⟨ret_bool (by simp), HF6.out.bel⟩
  · have hF' : frameB mj n Z = false := by simpa using hF
    rw [hF']
    go_wp2_with fail
    refine (specNextAt_any mj p t g n c Z W4 (by omega) HZ HF4.out.wins).mono ?_
    rintro e W5 ⟨rfl, hb5⟩
    have HF5 : Hid (Fr w' W5 B g n c mj Z) := HF4.out.below hb5
    go_wp2
    go_ret
    exact ⟨ret_bool (by simp), HF5.out.bel⟩

end Go.Proofs.Yticpedhfclkjcaa
