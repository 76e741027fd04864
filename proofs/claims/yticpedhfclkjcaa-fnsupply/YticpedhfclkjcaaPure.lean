/- What follows of a frame being right: owners a frame later, supplies as counts, the least and the next. -/
import Derived.Test.YticpedhfclkjcaaLeastSupply
import Derived.Test.YticpedhfclkjcaaNextAt
import Derived.Test.YticpedhfclkjcaaOwnerAt
namespace Go.Proofs.Yticpedhfclkjcaa

/-- Of a right frame's windows at most one has x: so the last that has it is the first. -/
theorem endAt_mono {major : Int} {Z : Nat → Int} {len : Nat} (h : ∀ i, i < len → winAt major Z i = true) (k : Nat) (hk : k ≤ len) (i : Nat) (hi : i < k) : Z (i * 3) + Z (i * 3 + 1) ≤ endAt Z k := by
  induction k with
  | zero => omega
  | succ k ih =>
    have hw := winB_out (h k (by omega))
    simp only [endAt]
    by_cases e : i = k
    · subst e; omega
    · have := ih (by omega) (by omega); omega
theorem ownerZ_last {major : Int} {Z : Nat → Int} {len : Nat} (h : ∀ i, i < len → winAt major Z i = true) (k : Nat) (hk : k < len) (x : Int) : ownerZ Z (k + 1) x = if hitB Z x k = true then Z (k * 3 + 2) else ownerZ Z k x := by
  have hw := winB_out (h k hk)
  split
  · rename_i hh
    refine ownerZ_hit (by omega) hh (fun i hi => hitB_false ?_)
    have h1 := endAt_mono h k (by omega) i hi
    simp only [hitB, decide_eq_true_eq] at hh
    omega
  · rename_i hh
    by_cases he : ∃ i, i < k ∧ hitB Z x i = true
    · obtain ⟨i, hi, ht⟩ := he
      have hb : ∀ j, j < i → hitB Z x j = false := by
        intro j hj
        have h1 := endAt_mono h i (by omega) j hj
        have hw' := winB_out (h i (by omega))
        simp only [hitB, decide_eq_true_eq] at ht
        exact hitB_false (by omega)
      rw [ownerZ_hit (by omega : i < k + 1) ht hb, ownerZ_hit hi ht hb]
    · have hb : ∀ j, j < k → hitB Z x j = false := fun j hj => by
        cases e : hitB Z x j with
        | false => rfl
        | true => exact absurd ⟨j, hj, e⟩ he
      rw [ownerZ_none hb, ownerZ_none (fun j hj => by
        by_cases e : j = k
        · subst e; simpa using hh
        · exact hb j (by omega))]
theorem ownerZ_zero (Z : Nat → Int) (x : Int) : ownerZ Z 0 x = 0 := ownerZ_none (fun i hi => absurd hi (by omega))
theorem ownerZ_hit_before {major : Int} {Z : Nat → Int} {len : Nat} (h : ∀ i, i < len → winAt major Z i = true) (k : Nat) (hk : k < len) (x : Int) (hh : hitB Z x k = true) : ownerZ Z k x = 0 := by
  refine ownerZ_none (fun i hi => hitB_false ?_)
  have h1 := endAt_mono h k (by omega) i hi
  have hw := winB_out (h k hk)
  simp only [hitB, decide_eq_true_eq] at hh
  omega
theorem cutZ_step {l a x : Int} (hl : 0 ≤ l) : cutZ l a (x + 1) = cutZ l a x + if a ≤ x ∧ x < a + l then 1 else 0 := by
  unfold cutZ; split <;> omega
theorem restTo_step {major : Int} {Z : Nat → Int} {len : Nat} {part : Int} (hp : part ≠ 0) (h : ∀ i, i < len → winAt major Z i = true) (x : Int) (k : Nat) (hk : k ≤ len) :
    restTo Z part (x + 1) k = restTo Z part x k + if ownerZ Z k x = part then 1 else 0 := by
  induction k with
  | zero =>
    have : ¬ (0 : Int) = part := fun e => hp e.symm
    simp [restTo, ownerZ_zero, this]
  | succ k ih =>
    have ih := ih (by omega)
    have hw := right_win h (i := k) (by omega)
    simp only [restTo]
    rw [ih, cutZ_step (by omega), ownerZ_last h k (by omega)]
    by_cases hh : hitB Z x k = true
    · have h0 := ownerZ_hit_before h k (by omega) x hh
      have : ¬ (0 : Int) = part := fun e => hp e.symm
      simp only [h0, hh, this, if_true, if_false]
      simp only [hitB, decide_eq_true_eq] at hh
      simp only [hh, and_self, if_true]
      split <;> omega
    · simp only [hh]
      simp only [hitB, decide_eq_true_eq] at hh
      simp only [hh, if_false]
      simp
      omega
theorem restTo_zero {major : Int} {Z : Nat → Int} {len : Nat} {part : Int} (h : ∀ i, i < len → winAt major Z i = true) (k : Nat) (hk : k ≤ len) : restTo Z part 0 k = 0 := by
  induction k with
  | zero => rfl
  | succ k ih =>
    have hw := right_win h (i := k) (by omega)
    simp only [restTo, ih (by omega)]
    unfold cutZ
    split <;> omega
theorem restTo_major {major : Int} {Z : Nat → Int} {len : Nat} {part : Int} (h : ∀ i, i < len → winAt major Z i = true) (k : Nat) (hk : k ≤ len) : restTo Z part major k = lenTo Z part k := by
  induction k with
  | zero => rfl
  | succ k ih =>
    have hw := right_win h (i := k) (by omega)
    simp only [restTo, lenTo, ih (by omega)]
    unfold cutZ
    split <;> omega
/-- A time more: one more where its owner is the part. -/
theorem supZ_step {major : Int} {Z : Nat → Int} {len : Nat} {part : Int} (hp : part ≠ 0) (h1 : 1 ≤ major) (h : ∀ i, i < len → winAt major Z i = true) (t : Int) :
    supZ major len Z part (t + 1) = supZ major len Z part t + if ownerZ Z len (t % major) = part then 1 else 0 := by
  have m0 : 0 ≤ t % major := Int.emod_nonneg _ (by omega)
  have m1 : t % major < major := Int.emod_lt_of_pos _ (by omega)
  have hd := Int.mul_ediv_add_emod t major
  have hs := restTo_step hp h (t % major) len (Nat.le_refl _)
  by_cases e : t % major + 1 = major
  · have q : (t + 1) / major = t / major + 1 := by
      have : t + 1 = (t / major + 1) * major := by rw [Int.add_mul, Int.mul_comm (t / major)]; omega
      rw [this, Int.mul_ediv_cancel _ (by omega)]
    have r : (t + 1) % major = 0 := by
      have : t + 1 = (t / major + 1) * major := by rw [Int.add_mul, Int.mul_comm (t / major)]; omega
      rw [this, Int.mul_emod_left]
    rw [e, restTo_major h len (Nat.le_refl _)] at hs
    simp only [supZ, q, r, restTo_zero h len (Nat.le_refl _), Int.add_mul]
    omega
  · have q : (t + 1) / major = t / major := by
      have : t + 1 = (t % major + 1) + t / major * major := by rw [Int.mul_comm (t / major)]; omega
      rw [this, Int.add_mul_ediv_right _ _ (by omega), Int.ediv_eq_zero_of_lt (by omega) (by omega)]; omega
    have r : (t + 1) % major = t % major + 1 := by
      have : t + 1 = (t % major + 1) + t / major * major := by rw [Int.mul_comm (t / major)]; omega
      rw [this, Int.add_mul_emod_self_right, Int.emod_eq_of_lt (by omega) (by omega)]
    simp only [supZ, q, r, hs]
    omega
theorem supZ_frame {major : Int} {Z : Nat → Int} {len : Nat} {part : Int} (h1 : 1 ≤ major) (t : Int) : supZ major len Z part (t + major) = supZ major len Z part t + lenTo Z part len := by
  simp only [supZ, Int.add_emod_right]
  have : (t + major) / major = t / major + 1 := by
    have := Int.add_mul_ediv_right t 1 (c := major) (by omega)
    simpa using this
  rw [this, Int.add_mul]; omega
theorem supZ_piece {major : Int} {Z : Nat → Int} {len : Nat} {part : Int} (hp : part ≠ 0) (h1 : 1 ≤ major) (h : ∀ i, i < len → winAt major Z i = true) (t : Int) (k : Nat) :
    0 ≤ supZ major len Z part (t + k) - supZ major len Z part t ∧ supZ major len Z part (t + k) - supZ major len Z part t ≤ k := by
  induction k with
  | zero => simp
  | succ k ih =>
    have hs := supZ_step hp h1 h (t + k)
    have e : t + ((k + 1 : Nat) : Int) = t + k + 1 := by omega
    rw [e, hs]
    split <;> omega
/-- Where none of the times is owned nothing is supplied. -/
theorem supZ_none {major : Int} {Z : Nat → Int} {len : Nat} {part : Int} (hp : part ≠ 0) (h1 : 1 ≤ major) (h : ∀ i, i < len → winAt major Z i = true) (t : Int) (k : Nat) (hn : ∀ j : Nat, j < k → ownerZ Z len ((t + j) % major) ≠ part) :
    supZ major len Z part (t + k) = supZ major len Z part t := by
  induction k with
  | zero => simp
  | succ k ih =>
    have hs := supZ_step hp h1 h (t + k)
    have e : t + ((k + 1 : Nat) : Int) = t + k + 1 := by omega
    rw [e, hs, if_neg (hn k (by omega)), ih (fun j hj => hn j (by omega))]
    omega
/-- A piece that begins at t is as the one that begins at t modulo the frame. -/
theorem supZ_turn {major : Int} {Z : Nat → Int} {len : Nat} {part : Int} (h1 : 1 ≤ major) (t n : Int) (t0 : 0 ≤ t) : supZ major len Z part (t + n) - supZ major len Z part t = supZ major len Z part (t % major + n) - supZ major len Z part (t % major) := by
  have key : ∀ (q : Nat) (x : Int), supZ major len Z part (x + q * major) = supZ major len Z part x + q * lenTo Z part len := by
    intro q
    induction q with
    | zero => intro x; simp
    | succ q ih =>
      intro x
      have e : x + ((q + 1 : Nat) : Int) * major = (x + q * major) + major := by simp only [Int.natCast_add, Int.add_mul]; omega
      rw [e, supZ_frame h1, ih]
      simp only [Int.natCast_add, Int.add_mul]; omega
  have hd := Int.mul_ediv_add_emod t major
  rw [Int.mul_comm] at hd
  have hq : t / major = ((t / major).toNat : Int) := by have := Int.ediv_nonneg t0 (by omega : 0 ≤ major); omega
  have k1 := key (t / major).toNat (t % major)
  have k2 := key (t / major).toNat (t % major + n)
  rw [← hq] at k1 k2
  have e1 : t % major + t / major * major = t := by omega
  have e2 : t % major + n + t / major * major = t + n := by omega
  rw [e1] at k1; rw [e2] at k2
  omega
theorem leastTo_le {major : Int} {Z : Nat → Int} {len : Nat} {part n : Int} (k : Nat) : leastTo major len Z part n k ≤ n ∧ ∀ t : Nat, t < k → leastTo major len Z part n k ≤ supZ major len Z part (t + n) - supZ major len Z part t := by
  induction k with
  | zero => exact ⟨Int.le_refl _, fun t ht => absurd ht (by omega)⟩
  | succ k ih =>
    obtain ⟨i1, i2⟩ := ih
    simp only [leastTo]
    refine ⟨by omega, fun t ht => ?_⟩
    by_cases e : t = k
    · subst e; omega
    · have := i2 t (by omega); omega
theorem leastTo_is {major : Int} {Z : Nat → Int} {len : Nat} {part n : Int} (k : Nat) : leastTo major len Z part n k = n ∨ ∃ t : Nat, t < k ∧ leastTo major len Z part n k = supZ major len Z part (t + n) - supZ major len Z part t := by
  induction k with
  | zero => exact .inl rfl
  | succ k ih =>
    simp only [leastTo]
    by_cases e : leastTo major len Z part n k ≤ supZ major len Z part (k + n) - supZ major len Z part k
    · rw [Int.min_eq_left e]
      rcases ih with ih | ⟨t, ht, ih⟩
      · exact .inl ih
      · exact .inr ⟨t, by omega, ih⟩
    · rw [Int.min_eq_right (by omega)]
      exact .inr ⟨k, by omega, rfl⟩
theorem leastTo_ge {major : Int} {Z : Nat → Int} {len : Nat} {part n b : Int} (k : Nat) (hn : b ≤ n) (h : ∀ t : Nat, t < k → b ≤ supZ major len Z part (t + n) - supZ major len Z part t) : b ≤ leastTo major len Z part n k := by
  rcases leastTo_is (major := major) (Z := Z) (len := len) (part := part) (n := n) k with e | ⟨t, ht, e⟩
  · omega
  · have := h t ht; omega
/-- The least is met at a beginning within the frame. -/
theorem leastTo_met {major : Int} {Z : Nat → Int} {len : Nat} {part n : Int} (hp : part ≠ 0) (h1 : 1 ≤ major) (h : ∀ i, i < len → winAt major Z i = true) (n0 : 0 ≤ n) :
    ∃ t : Nat, t < major.toNat ∧ supZ major len Z part (t + n) - supZ major len Z part t = leastTo major len Z part n major.toNat := by
  rcases leastTo_is (major := major) (Z := Z) (len := len) (part := part) (n := n) major.toNat with e | ⟨t, ht, e⟩
  · refine ⟨0, by omega, ?_⟩
    have h2 := (leastTo_le (major := major) (Z := Z) (len := len) (part := part) (n := n) major.toNat).2 0 (by omega)
    have h3 := supZ_piece hp h1 h 0 n.toNat
    have en : (n.toNat : Int) = n := by omega
    rw [en] at h3
    simp only [Int.natCast_zero] at h2 ⊢
    omega
  · exact ⟨t, ht, e.symm⟩
/-- Two lengths together have no less than both. -/
theorem leastTo_add {major : Int} {Z : Nat → Int} {len : Nat} {part n k : Int} (h1 : 1 ≤ major) (n0 : 0 ≤ n) :
    leastTo major len Z part n major.toNat + leastTo major len Z part k major.toNat ≤ leastTo major len Z part (n + k) major.toNat := by
  have a := leastTo_le (major := major) (Z := Z) (len := len) (part := part) (n := n) major.toNat
  have b := leastTo_le (major := major) (Z := Z) (len := len) (part := part) (n := k) major.toNat
  refine leastTo_ge _ (by omega) (fun t ht => ?_)
  have m0 : 0 ≤ (t + n) % major := Int.emod_nonneg _ (by omega)
  have m1 : (t + n) % major < major := Int.emod_lt_of_pos _ (by omega)
  have a1 := a.2 t ht
  have b1 := b.2 ((t + n) % major).toNat (by omega)
  have e : ((((t : Int) + n) % major).toNat : Int) = (t + n) % major := by omega
  rw [e, ← supZ_turn h1 _ _ (by omega)] at b1
  have e2 : (t : Int) + (n + k) = t + n + k := by omega
  rw [e2]
  omega
/-- The next time: none, and then nothing is owned at all; or the first from there on. -/
theorem nextZ_cases {major : Int} {Z : Nat → Int} {len : Nat} {part t : Int} : (nextZ major len Z part t = -1 ∧ ∀ i : Nat, (i : Int) < major → ownerZ Z len ((t + i) % major) ≠ part) ∨
    ∃ k : Nat, (k : Int) < major ∧ nextZ major len Z part t = t + k ∧ ownerZ Z len ((t + k) % major) = part ∧ ∀ i : Nat, i < k → ownerZ Z len ((t + i) % major) ≠ part := by
  cases e : (List.range major.toNat).find? (ownsB major len Z part t) with
  | none =>
    refine .inl ⟨by simp only [nextZ, e], fun i hi => ?_⟩
    rw [List.find?_range_eq_none] at e
    have := e i (by omega)
    simpa [ownsB] using this
  | some k =>
    rw [List.find?_range_eq_some] at e
    obtain ⟨e1, e2, e3⟩ := e
    refine .inr ⟨k, by simp at e2; omega, ?_, by simpa [ownsB] using e1, fun i hi => by simpa [ownsB] using e3 i hi⟩
    refine nextZ_hit (by simp at e2; omega) e1 (fun i hi => by simpa using e3 i hi)
theorem supZ_never {major : Int} {Z : Nat → Int} {len : Nat} {part t : Int} (hp : part ≠ 0) (h1 : 1 ≤ major) (h : ∀ i, i < len → winAt major Z i = true) (hn : ∀ i : Nat, (i : Int) < major → ownerZ Z len ((t + i) % major) ≠ part) :
    supZ major len Z part major - supZ major len Z part 0 = 0 := by
  have key := supZ_none hp h1 h 0 major.toNat (fun j hj => by
    have m0 : 0 ≤ (j - t) % major := Int.emod_nonneg _ (by omega)
    have m1 : (j - t) % major < major := Int.emod_lt_of_pos _ (by omega)
    have := hn ((j - t) % major).toNat (by omega)
    have e : ((((j : Int) - t) % major).toNat : Int) = (j - t) % major := by omega
    rw [e] at this
    have e2 : (t + (j - t) % major) % major = (0 + j) % major := by
      rw [Int.add_emod_emod]; congr 1; omega
    rwa [e2] at this)
  have e : (0 : Int) + (major.toNat : Int) = major := by omega
  rw [e] at key
  omega

end Go.Proofs.Yticpedhfclkjcaa
