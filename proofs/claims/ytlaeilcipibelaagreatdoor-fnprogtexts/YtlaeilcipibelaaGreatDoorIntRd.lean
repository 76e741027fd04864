/- A number in decimal, read by the specification. -/
import Derived.Test.YtlaeilcipibelaaGreatDoorNum
import Derived.Test.YtlaeilcipibelaaGreatDoorCut
namespace Go.Proofs.YtlaeilcipibelaaGreatDoor
open Go.RowKit

/-- How the specification's reader of numbers ends. -/
def IntEnds (s : ByteArray) (e : Ending) : Prop :=
  (∃ n, e = .returned (.tuple #[.int .i64 n, .bool true]) ∧ DecIs s n) ∨ (e = .returned (.tuple #[.int .i64 0, .bool false]) ∧ ∀ n, ¬ DecIs s n)

theorem at_head {s : ByteArray} (h : 0 < s.size) : s.data.toList.head? = some s[0] := by
  have h' : 0 < s.data.toList.length := by simpa using h
  rw [List.head?_eq_getElem?, List.getElem?_eq_getElem h']
  rfl
theorem len_is (s : ByteArray) : s.data.toList.length = s.size := by simp
theorem dec_size {s : ByteArray} {n : Nat} (h : s.data.toList = Lib.decDigits n) (hn : n ≤ 9999999999) : s.size ≤ 10 := by
  have h1 := dec_len 9 n (by omega)
  have h2 := len_is s
  rw [h] at h2
  omega
theorem no_minus {n : Nat} : (Lib.decDigits n).head? ≠ some 45 := by
  intro h
  have h1 : (45 : UInt8) ∈ Lib.decDigits n := List.mem_of_head? h
  have := (dec_dg n _ h1).1
  simp at this

set_option maxHeartbeats 1000000 in
theorem l1Int_pos (s : ByteArray) (w : World) (hs : s.size ≤ 1048576) (hm : s.size ≤ 1 ∨ s.data.toList.head? ≠ some 45) :
    Calls Tryz.prog 38 #[.string s] w fun e w' => IntEnds s e ∧ w' = w := by
  have HD : Hid (∀ n, DecIs s n → s.data.toList = Lib.decDigits n.toNat ∧ 0 ≤ n ∧ n ≤ 9999999999) := by
    intro n hn
    by_cases h0 : n < 0
    · exfalso
      have e := hn.1
      rw [itoa_neg h0] at e
      rcases hm with hm | hm
      · have h1 := len_is s
        rw [e] at h1
        have := dec_ne_nil (-n).toNat
        cases h2 : Lib.decDigits (-n).toNat with
        | nil => exact this h2
        | cons a r => rw [h2] at h1; simp at h1; omega
      · rw [e] at hm; exact hm rfl
    · refine ⟨?_, by omega, hn.2.2⟩
      rw [hn.1, itoa_pos (by omega)]
  by_cases z0 : s.size = 0
  · have HZ : Hid (∀ n, ¬ DecIs s n) := by
      intro n hn
      have h1 := (HD.out n hn).1
      have h2 := len_is s
      rw [h1] at h2
      exact dec_ne_nil n.toNat (List.eq_nil_of_length_eq_zero (by omega))
    have z1 : ¬ (1 : Int) < (s.size : Int) := by omega
    have z2 : (s.size : Int) < 1 := by omega
    go_enter Tryz.func38, Tryz.ntmps38
    go_wp2
    go_ret2
    exact ⟨.inr ⟨rfl, HZ.out⟩, rfl⟩
  have z2 : ¬ (s.size : Int) < 1 := by omega
  have l0 : 0 < s.size := by omega
  have HH := at_head l0
  have HDD : Hid (∀ n, DecIs s n → s.data.toList = Lib.decDigits n.toNat) := fun n hn => (HD.out n hn).1
  by_cases z1 : 1 < s.size
  · have y1 : (1 : Int) < (s.size : Int) := by omega
    have HE0 : s[0] ≠ 45 := by
      rcases hm with hm | hm
      · omega
      · intro e; rw [HH, e] at hm; exact hm rfl
    have h45 : ((s[0].toNat : Int) == 45) = false := by
      simp only [beq_eq_false_iff_ne, ne_eq]
      intro e
      exact HE0 (UInt8.toNat_inj.1 (by simp; omega))
    by_cases z3 : 10 < s.size
    · have y3 : (10 : Int) < (s.size : Int) := by omega
      have HZ : Hid (∀ n, ¬ DecIs s n) := fun n hn => by
        obtain ⟨h1, h2, h3⟩ := HD.out n hn
        have := dec_size h1 (by omega)
        omega
      go_enter Tryz.func38, Tryz.ntmps38
      go_wp2
      go_ret2
      exact ⟨.inr ⟨rfl, HZ.out⟩, rfl⟩
    have y3 : ¬ (10 : Int) < (s.size : Int) := by omega
    by_cases z4 : s[0] = 48
    · have h48 : ((s[0].toNat : Int) == 48) = true := by simp [z4]
      have HZ : Hid (∀ n, ¬ DecIs s n) := fun n hn => by
        obtain ⟨h1, h2, h3⟩ := HD.out n hn
        by_cases h0 : n = 0
        · subst h0
          rw [show (0 : Int).toNat = 0 from rfl, dec_zero] at h1
          have := len_is s
          rw [h1] at this
          simp at this
          omega
        · have h4 := dec_head n.toNat (by omega)
          rw [← h1, HH, z4] at h4
          exact h4 rfl
      go_enter Tryz.func38, Tryz.ntmps38
      go_wp2
      go_ret2
      exact ⟨.inr ⟨rfl, HZ.out⟩, rfl⟩
    have h48 : ((s[0].toNat : Int) == 48) = false := by
      simp only [beq_eq_false_iff_ne, ne_eq]
      intro e
      exact z4 (UInt8.toNat_inj.1 (by simp; omega))
    have HSZ : Hid (s.size ≤ 10) := by show s.size ≤ 10; omega
    have HCAN : Hid (s.size = 1 ∨ s.data.toList.head? ≠ some 48) := .inr (by rw [HH]; intro e; exact z4 (Option.some.inj e))
    clear hm z4 HE0
    go_enter Tryz.func38, Tryz.ntmps38
    go_wp2
    go_loop [5, 6] (fun v i => ∃ k : Nat, k ≤ s.size ∧ i = .int .i64 k ∧ Hid (∀ c ∈ s.data.toList.take k, dg c) ∧ ∃ a : Int, v = .int .i64 a ∧ Hid (a = dv 0 (s.data.toList.take k))) (fun _ i => s.size - (intOf i).toNat)
    case atStart => exact ⟨0, Nat.zero_le _, rfl, (fun c hc => by simp at hc), 0, rfl, (rfl : (0 : Int) = 0)⟩
    case round =>
      obtain ⟨k, hk, rfl, HA, a, rfl, HV⟩ := hrel
      by_cases hlt : k < s.size
      · have i0 : (0 : Int) ≤ (k : Int) := by omega
        have i1 : (k : Int) < (s.size : Int) := by omega
        have HT : Hid (s.data.toList.take (k + 1) = s.data.toList.take k ++ [s[k]]) := take_more s k hlt
        have HM : Hid (s[k] ∈ s.data.toList) := by
          show s[k] ∈ s.data.toList
          have h' : k < s.data.toList.length := by simpa using hlt
          exact List.getElem_mem h'
        have HB : Hid (0 ≤ a ∧ a < 10000000000) := by
          have h1 := dv_lt _ HA.out 0
          have h2 := HV.out
          have h3 : (s.data.toList.take k).length ≤ 9 := by have := HSZ.out; rw [List.length_take, len_is]; omega
          have h4 : 10 ^ (s.data.toList.take k).length ≤ 10 ^ 9 := Nat.pow_le_pow_right (by omega) h3
          have h5 : (10 : Nat) ^ 9 = 1000000000 := by decide
          exact ⟨by omega, by omega⟩
        obtain ⟨c, hc⟩ : ∃ c : Int, (s[k].toNat : Int) = c := ⟨_, rfl⟩
        have HC : Hid ((s[k].toNat : Int) = c) := hc
        have hc0 : 0 ≤ c := by omega
        have hc1 : c ≤ 255 := by have := s[k].toNat_lt; omega
        by_cases d0 : c < 48
        · have HZ : Hid (∀ n, ¬ DecIs s n) := fun n hn => by
            have h1 := dec_dg _ _ (by rw [← HDD.out n hn]; exact HM.out)
            have h2 := HC.out
            have := h1.1; omega
          go_wp2
          go_ret2
          exact ⟨.inr ⟨rfl, HZ.out⟩, rfl⟩
        by_cases d1 : 57 < c
        · have HZ : Hid (∀ n, ¬ DecIs s n) := fun n hn => by
            have h1 := dec_dg _ _ (by rw [← HDD.out n hn]; exact HM.out)
            have h2 := HC.out
            have := h1.2; omega
          go_wp2
          go_ret2
          exact ⟨.inr ⟨rfl, HZ.out⟩, rfl⟩
        have e1 : wrap64 (a * 10) = a * 10 := by have := HB.out; unfold wrap64; omega
        have e2 : (c - 48) % 256 = c - 48 := by omega
        have e3 : wrap64 (a * 10 + (c - 48)) = a * 10 + (c - 48) := by have := HB.out; unfold wrap64; omega
        go_wp2
        go_round
        case rel =>
          refine ⟨k + 1, by omega, by go_num, ?_, a * 10 + (c - 48), by simp [e3], ?_⟩
          · show ∀ x ∈ s.data.toList.take (k + 1), dg x
            rw [HT.out]
            intro x hx
            rcases List.mem_append.1 hx with hx | hx
            · exact HA.out x hx
            · rw [List.mem_singleton] at hx
              subst hx
              have := HC.out
              exact ⟨by omega, by omega⟩
          · show a * 10 + (c - 48) = (dv 0 (s.data.toList.take (k + 1)) : Nat)
            rw [HT.out, dv_snoc]
            have := HV.out
            have := HC.out
            omega
        case measure => simp [intOf]; omega
      · have HE : Hid (s.data.toList.take k = s.data.toList) := List.take_of_length_le (by rw [len_is]; omega)
        have HR : Hid (DecIs s a) := by
          have h1 := HA.out
          have h2 := HV.out
          rw [HE.out] at h1 h2
          obtain ⟨c1, _⟩ := canon_dec _ s.data.toList rfl (fun e => by have := len_is s; rw [e] at this; simp at this; omega) h1 (by rw [len_is]; exact HCAN.out)
          have h3 := dv_lt _ h1 0
          have h4 : s.data.toList.length ≤ 10 := by have := HSZ.out; rw [len_is]; omega
          have h5 : 10 ^ s.data.toList.length ≤ 10 ^ 10 := Nat.pow_le_pow_right (by omega) h4
          have h6 : (10 : Nat) ^ 10 = 10000000000 := by decide
          refine ⟨?_, by omega, by omega⟩
          rw [itoa_pos (by omega), h2, Int.toNat_natCast, c1]
        go_wp2
        go_ret2
        exact ⟨.inl ⟨a, rfl, HR.out⟩, rfl⟩
  · have y1 : ¬ (1 : Int) < (s.size : Int) := by omega
    have y2 : ¬ (10 : Int) < (s.size : Int) := by omega
    have HSZ : Hid (s.size ≤ 10) := by show s.size ≤ 10; omega
    have HCAN : Hid (s.size = 1 ∨ s.data.toList.head? ≠ some 48) := .inl (by omega)
    clear hm
    obtain h48 | h48 : ((s[0].toNat : Int) == 48) = true ∨ ((s[0].toNat : Int) == 48) = false := by cases ((s[0].toNat : Int) == 48) <;> simp
    all_goals
      go_enter Tryz.func38, Tryz.ntmps38
      go_wp2
      go_loop [5, 6] (fun v i => ∃ k : Nat, k ≤ s.size ∧ i = .int .i64 k ∧ Hid (∀ c ∈ s.data.toList.take k, dg c) ∧ ∃ a : Int, v = .int .i64 a ∧ Hid (a = dv 0 (s.data.toList.take k))) (fun _ i => s.size - (intOf i).toNat)
      case atStart => exact ⟨0, Nat.zero_le _, rfl, (fun c hc => by simp at hc), 0, rfl, (rfl : (0 : Int) = 0)⟩
      case round =>
        obtain ⟨k, hk, rfl, HA, a, rfl, HV⟩ := hrel
        by_cases hlt : k < s.size
        · have i0 : (0 : Int) ≤ (k : Int) := by omega
          have i1 : (k : Int) < (s.size : Int) := by omega
          have HT : Hid (s.data.toList.take (k + 1) = s.data.toList.take k ++ [s[k]]) := take_more s k hlt
          have HM : Hid (s[k] ∈ s.data.toList) := by
            show s[k] ∈ s.data.toList
            have h' : k < s.data.toList.length := by simpa using hlt
            exact List.getElem_mem h'
          have HB : Hid (0 ≤ a ∧ a < 10000000000) := by
            have h1 := dv_lt _ HA.out 0
            have h2 := HV.out
            have h3 : (s.data.toList.take k).length ≤ 9 := by have := HSZ.out; rw [List.length_take, len_is]; omega
            have h4 : 10 ^ (s.data.toList.take k).length ≤ 10 ^ 9 := Nat.pow_le_pow_right (by omega) h3
            have h5 : (10 : Nat) ^ 9 = 1000000000 := by decide
            exact ⟨by omega, by omega⟩
          obtain ⟨c, hc⟩ : ∃ c : Int, (s[k].toNat : Int) = c := ⟨_, rfl⟩
          have HC : Hid ((s[k].toNat : Int) = c) := hc
          have hc0 : 0 ≤ c := by omega
          have hc1 : c ≤ 255 := by have := s[k].toNat_lt; omega
          by_cases d0 : c < 48
          · have HZ : Hid (∀ n, ¬ DecIs s n) := fun n hn => by
              have h1 := dec_dg _ _ (by rw [← HDD.out n hn]; exact HM.out)
              have h2 := HC.out
              have := h1.1; omega
            go_wp2
            go_ret2
            exact ⟨.inr ⟨rfl, HZ.out⟩, rfl⟩
          by_cases d1 : 57 < c
          · have HZ : Hid (∀ n, ¬ DecIs s n) := fun n hn => by
              have h1 := dec_dg _ _ (by rw [← HDD.out n hn]; exact HM.out)
              have h2 := HC.out
              have := h1.2; omega
            go_wp2
            go_ret2
            exact ⟨.inr ⟨rfl, HZ.out⟩, rfl⟩
          have e1 : wrap64 (a * 10) = a * 10 := by have := HB.out; unfold wrap64; omega
          have e2 : (c - 48) % 256 = c - 48 := by omega
          have e3 : wrap64 (a * 10 + (c - 48)) = a * 10 + (c - 48) := by have := HB.out; unfold wrap64; omega
          go_wp2
          go_round
          case rel =>
            refine ⟨k + 1, by omega, by go_num, ?_, a * 10 + (c - 48), by simp [e3], ?_⟩
            · show ∀ x ∈ s.data.toList.take (k + 1), dg x
              rw [HT.out]
              intro x hx
              rcases List.mem_append.1 hx with hx | hx
              · exact HA.out x hx
              · rw [List.mem_singleton] at hx
                subst hx
                have := HC.out
                exact ⟨by omega, by omega⟩
            · show a * 10 + (c - 48) = (dv 0 (s.data.toList.take (k + 1)) : Nat)
              rw [HT.out, dv_snoc]
              have := HV.out
              have := HC.out
              omega
          case measure => simp [intOf]; omega
        · have HE : Hid (s.data.toList.take k = s.data.toList) := List.take_of_length_le (by rw [len_is]; omega)
          have HR : Hid (DecIs s a) := by
            have h1 := HA.out
            have h2 := HV.out
            rw [HE.out] at h1 h2
            obtain ⟨c1, _⟩ := canon_dec _ s.data.toList rfl (fun e => by have := len_is s; rw [e] at this; simp at this; omega) h1 (by rw [len_is]; exact HCAN.out)
            have h3 := dv_lt _ h1 0
            have h4 : s.data.toList.length ≤ 10 := by have := HSZ.out; rw [len_is]; omega
            have h5 : 10 ^ s.data.toList.length ≤ 10 ^ 10 := Nat.pow_le_pow_right (by omega) h4
            have h6 : (10 : Nat) ^ 10 = 10000000000 := by decide
            refine ⟨?_, by omega, by omega⟩
            rw [itoa_pos (by omega), h2, Int.toNat_natCast, c1]
          go_wp2
          go_ret2
          exact ⟨.inl ⟨a, rfl, HR.out⟩, rfl⟩

set_option maxHeartbeats 1000000 in
theorem l1Int_neg (s t : ByteArray) (w : World) (hs : s.size ≤ 1048576) (h1 : 1 < s.size) (hst : s.data.toList = 45 :: t.data.toList) (ht : s.extract 1 s.size = t) :
    Calls Tryz.prog 38 #[.string s] w fun e w' => IntEnds s e ∧ w' = w := by
  have HST : Hid (s.data.toList = 45 :: t.data.toList) := hst
  have hts : t.size + 1 = s.size := by
    have h2 := len_is s
    have h3 := len_is t
    rw [hst] at h2
    simp at h2
    omega
  have HD : Hid (∀ n, DecIs s n → t.data.toList = Lib.decDigits (-n).toNat ∧ n < 0 ∧ -9999999999 ≤ n) := by
    intro n hn
    by_cases h0 : n < 0
    · refine ⟨?_, h0, hn.2.1⟩
      have e := hn.1
      rw [HST.out, itoa_neg h0] at e
      exact (List.cons.inj e).2
    · exfalso
      have e := hn.1
      rw [HST.out, itoa_pos (by omega)] at e
      exact no_minus (n := n.toNat) (by rw [← e]; rfl)
  have HDD : Hid (∀ n, DecIs s n → t.data.toList = Lib.decDigits (-n).toNat) := fun n hn => (HD.out n hn).1
  have l0 : 0 < s.size := by omega
  have s45 : s[0] = 45 := by
    have := at_head l0
    rw [HST.out] at this
    exact (Option.some.inj this).symm
  have h45 : ((s[0].toNat : Int) == 45) = true := by simp [s45]
  have y1 : (1 : Int) < (s.size : Int) := by omega
  have y5 : (1 : Int) ≤ (s.size : Int) := by omega
  have t0 : 0 < t.size := by omega
  have HH := at_head t0
  have z2 : ¬ (t.size : Int) < 1 := by omega
  clear hst s45
  by_cases z3 : 10 < t.size
  · have y3 : (10 : Int) < (t.size : Int) := by omega
    have HZ : Hid (∀ n, ¬ DecIs s n) := fun n hn => by
      obtain ⟨h1, h2, h3⟩ := HD.out n hn
      have := dec_size h1 (by omega)
      omega
    go_enter Tryz.func38, Tryz.ntmps38
    go_wp2
    go_ret2
    exact ⟨.inr ⟨rfl, HZ.out⟩, rfl⟩
  have y3 : ¬ (10 : Int) < (t.size : Int) := by omega
  by_cases z4 : t[0] = 48
  · have h48 : ((t[0].toNat : Int) == 48) = true := by simp [z4]
    have HZ : Hid (∀ n, ¬ DecIs s n) := fun n hn => by
      obtain ⟨h1, h2, h3⟩ := HD.out n hn
      have h4 := dec_head (-n).toNat (by omega)
      rw [← h1, HH, z4] at h4
      exact h4 rfl
    obtain g1 | g1 : (1 : Int) < (t.size : Int) ∨ ¬ (1 : Int) < (t.size : Int) := by omega
    all_goals
      go_enter Tryz.func38, Tryz.ntmps38
      go_wp2
      go_ret2
      exact ⟨.inr ⟨rfl, HZ.out⟩, rfl⟩
  have h48 : ((t[0].toNat : Int) == 48) = false := by
    simp only [beq_eq_false_iff_ne, ne_eq]
    intro e
    exact z4 (UInt8.toNat_inj.1 (by simp; omega))
  have HSZ : Hid (t.size ≤ 10) := by show t.size ≤ 10; omega
  have HCAN : Hid (t.data.toList.head? ≠ some 48) := by show _ ≠ _; rw [HH]; intro e; exact z4 (Option.some.inj e)
  clear z4
  go_enter Tryz.func38, Tryz.ntmps38
  go_wp2
  go_loop [5, 6] (fun v i => ∃ k : Nat, k ≤ t.size ∧ i = .int .i64 k ∧ Hid (∀ c ∈ t.data.toList.take k, dg c) ∧ ∃ a : Int, v = .int .i64 a ∧ Hid (a = dv 0 (t.data.toList.take k))) (fun _ i => t.size - (intOf i).toNat)
  case atStart => exact ⟨0, Nat.zero_le _, rfl, (fun c hc => by simp at hc), 0, rfl, (rfl : (0 : Int) = 0)⟩
  case round =>
    obtain ⟨k, hk, rfl, HA, a, rfl, HV⟩ := hrel
    by_cases hlt : k < t.size
    · have i0 : (0 : Int) ≤ (k : Int) := by omega
      have i1 : (k : Int) < (t.size : Int) := by omega
      have HT : Hid (t.data.toList.take (k + 1) = t.data.toList.take k ++ [t[k]]) := take_more t k hlt
      have HM : Hid (t[k] ∈ t.data.toList) := by
        show t[k] ∈ t.data.toList
        have h' : k < t.data.toList.length := by simpa using hlt
        exact List.getElem_mem h'
      have HB : Hid (0 ≤ a ∧ a < 10000000000) := by
        have h1 := dv_lt _ HA.out 0
        have h2 := HV.out
        have h3 : (t.data.toList.take k).length ≤ 9 := by have := HSZ.out; rw [List.length_take, len_is]; omega
        have h4 : 10 ^ (t.data.toList.take k).length ≤ 10 ^ 9 := Nat.pow_le_pow_right (by omega) h3
        have h5 : (10 : Nat) ^ 9 = 1000000000 := by decide
        exact ⟨by omega, by omega⟩
      obtain ⟨c, hc⟩ : ∃ c : Int, (t[k].toNat : Int) = c := ⟨_, rfl⟩
      have HC : Hid ((t[k].toNat : Int) = c) := hc
      have hc0 : 0 ≤ c := by omega
      have hc1 : c ≤ 255 := by have := t[k].toNat_lt; omega
      by_cases d0 : c < 48
      · have HZ : Hid (∀ n, ¬ DecIs s n) := fun n hn => by
          have h1 := dec_dg _ _ (by rw [← HDD.out n hn]; exact HM.out)
          have h2 := HC.out
          have := h1.1; omega
        go_wp2
        go_ret2
        exact ⟨.inr ⟨rfl, HZ.out⟩, rfl⟩
      by_cases d1 : 57 < c
      · have HZ : Hid (∀ n, ¬ DecIs s n) := fun n hn => by
          have h1 := dec_dg _ _ (by rw [← HDD.out n hn]; exact HM.out)
          have h2 := HC.out
          have := h1.2; omega
        go_wp2
        go_ret2
        exact ⟨.inr ⟨rfl, HZ.out⟩, rfl⟩
      have e1 : wrap64 (a * 10) = a * 10 := by have := HB.out; unfold wrap64; omega
      have e2 : (c - 48) % 256 = c - 48 := by omega
      have e3 : wrap64 (a * 10 + (c - 48)) = a * 10 + (c - 48) := by have := HB.out; unfold wrap64; omega
      go_wp2
      go_round
      case rel =>
        refine ⟨k + 1, by omega, by go_num, ?_, a * 10 + (c - 48), by simp [e3], ?_⟩
        · show ∀ x ∈ t.data.toList.take (k + 1), dg x
          rw [HT.out]
          intro x hx
          rcases List.mem_append.1 hx with hx | hx
          · exact HA.out x hx
          · rw [List.mem_singleton] at hx
            subst hx
            have := HC.out
            exact ⟨by omega, by omega⟩
        · show a * 10 + (c - 48) = (dv 0 (t.data.toList.take (k + 1)) : Nat)
          rw [HT.out, dv_snoc]
          have := HV.out
          have := HC.out
          omega
      case measure => simp [intOf]; omega
    · have HE : Hid (t.data.toList.take k = t.data.toList) := List.take_of_length_le (by rw [len_is]; omega)
      have HR : Hid (DecIs s (-a) ∧ 1 ≤ a ∧ a < 10000000000) := by
        have h1 := HA.out
        have h2 := HV.out
        rw [HE.out] at h1 h2
        obtain ⟨c1, c2⟩ := canon_dec _ t.data.toList rfl (fun e => by have := len_is t; rw [e] at this; simp at this; omega) h1 (.inr HCAN.out)
        have c3 := c2 HCAN.out
        have h3 := dv_lt _ h1 0
        have h4 : t.data.toList.length ≤ 10 := by have := HSZ.out; rw [len_is]; omega
        have h5 : 10 ^ t.data.toList.length ≤ 10 ^ 10 := Nat.pow_le_pow_right (by omega) h4
        have h6 : (10 : Nat) ^ 10 = 10000000000 := by decide
        refine ⟨⟨?_, by omega, by omega⟩, by omega, by omega⟩
        rw [itoa_neg (by omega), Int.neg_neg, h2, Int.toNat_natCast, c1, HST.out]
      have e1 : wrap64 (-a) = -a := by have := HR.out; unfold wrap64; omega
      go_wp2
      go_ret2
      exact ⟨.inl ⟨-a, by simp, HR.out.1⟩, rfl⟩

theorem l1Int_any (s : ByteArray) (w : World) (hs : s.size ≤ 1048576) :
    Calls Tryz.prog 38 #[.string s] w fun e w' => IntEnds s e ∧ w' = w := by
  by_cases h : s.size ≤ 1 ∨ s.data.toList.head? ≠ some 45
  · exact l1Int_pos s w hs h
  · have h1 : 1 < s.size := by omega
    have h2 : s.data.toList.head? = some 45 := Decidable.byContradiction fun h3 => h (.inr h3)
    refine l1Int_neg s (s.extract 1 s.size) w hs h1 ?_ rfl
    rw [ext_from]
    cases hl : s.data.toList with
    | nil => rw [hl] at h2; cases h2
    | cons a r => rw [hl] at h2; rw [Option.some.inj h2]; rfl

end Go.Proofs.YtlaeilcipibelaaGreatDoor
