/- Numbers in decimal, read and written: no walk. -/
import Derived.Test.YtlaeilcipibelaaGreatDoorDec
import Derived.Lib.ParseIntB
namespace Go.Proofs.YtlaeilcipibelaaGreatDoor
open Go.RowKit

def dg (c : UInt8) : Prop := 48 ≤ c.toNat ∧ c.toNat ≤ 57
/-- What digits spell, behind what was spelt. -/
def dv (acc : Nat) (l : List UInt8) : Nat := l.foldl (fun n c => n * 10 + (c.toNat - 48)) acc
theorem dv_nil (acc : Nat) : dv acc [] = acc := by unfold dv; exact List.foldl_nil
theorem dv_cons (acc : Nat) (c : UInt8) (l : List UInt8) : dv acc (c :: l) = dv (acc * 10 + (c.toNat - 48)) l := by unfold dv; exact List.foldl_cons ..
theorem head_app {r : List UInt8} (h : r ≠ []) (t : List UInt8) : (r ++ t).head? = r.head? := by
  cases r with
  | nil => exact absurd rfl h
  | cons a r => rfl
theorem dv_snoc (acc : Nat) (l : List UInt8) (c : UInt8) : dv acc (l ++ [c]) = dv acc l * 10 + (c.toNat - 48) := by simp [dv]
theorem dv_ge : ∀ (l : List UInt8) (acc : Nat), acc ≤ dv acc l
  | [], acc => by rw [dv_nil]; exact Nat.le_refl _
  | c :: l, acc => by
    have := dv_ge l (acc * 10 + (c.toNat - 48))
    rw [dv_cons]; omega
theorem dv_lt : ∀ (l : List UInt8), (∀ c ∈ l, dg c) → ∀ acc, dv acc l < (acc + 1) * 10 ^ l.length
  | [], _, acc => by rw [dv_nil]; simp
  | c :: l, h, acc => by
    have h1 := dv_lt l (fun x hx => h x (List.mem_cons_of_mem _ hx)) (acc * 10 + (c.toNat - 48))
    have h2 := h c (List.mem_cons_self ..)
    rw [dv_cons, List.length_cons, Nat.pow_succ]
    refine Nat.lt_of_lt_of_le h1 ?_
    have : acc * 10 + (c.toNat - 48) + 1 ≤ (acc + 1) * 10 := by have := h2.2; omega
    calc (acc * 10 + (c.toNat - 48) + 1) * 10 ^ l.length ≤ ((acc + 1) * 10) * 10 ^ l.length := Nat.mul_le_mul_right _ this
      _ = (acc + 1) * (10 ^ l.length * 10) := by rw [Nat.mul_assoc, Nat.mul_comm 10]
theorem toNat_dig {d : Nat} (h : d < 10) : (UInt8.ofNat (48 + d)).toNat = 48 + d := by
  rw [UInt8.toNat_ofNat']; omega
theorem dec_dg (n : Nat) : ∀ c ∈ Lib.decDigits n, dg c := by
  induction n using Nat.strongRecOn with
  | ind n ih =>
    intro c hc
    rw [Lib.decDigits] at hc
    split at hc
    · rename_i h
      simp only [List.mem_singleton] at hc
      subst hc
      rw [dg, toNat_dig h]; omega
    · rename_i h
      rcases List.mem_append.1 hc with hc | hc
      · exact ih (n / 10) (by omega) c hc
      · simp only [List.mem_singleton] at hc
        subst hc
        rw [dg, toNat_dig (by omega)]; omega
theorem dv_dec (n : Nat) : dv 0 (Lib.decDigits n) = n := by
  induction n using Nat.strongRecOn with
  | ind n ih =>
    rw [Lib.decDigits]
    split
    · rename_i h
      simp only [dv, List.foldl_cons, List.foldl_nil, toNat_dig h]; omega
    · rename_i h
      rw [dv_snoc, ih (n / 10) (by omega), toNat_dig (by omega)]; omega
theorem dec_ne_nil (n : Nat) : Lib.decDigits n ≠ [] := by
  rw [Lib.decDigits]; split <;> simp
theorem dec_head (n : Nat) (h : 1 ≤ n) : (Lib.decDigits n).head? ≠ some 48 := by
  induction n using Nat.strongRecOn with
  | ind n ih =>
    rw [Lib.decDigits]
    split
    · rename_i h1
      simp only [List.head?_cons, ne_eq, Option.some.injEq]
      intro e
      have := congrArg UInt8.toNat e
      rw [toNat_dig h1] at this
      simp at this
      omega
    · rename_i h1
      rw [head_app (dec_ne_nil _)]
      exact ih (n / 10) (by omega) (by omega)
theorem dec_zero : Lib.decDigits 0 = [48] := by rw [Lib.decDigits]; rfl
theorem dig_back {c : UInt8} (h : dg c) : UInt8.ofNat (48 + (c.toNat - 48)) = c := by
  apply UInt8.toNat_inj.1
  rw [toNat_dig (by have := h.2; omega)]
  have := h.1; omega
/-- Digits without noughts ahead are the digits of what they spell. -/
theorem canon_dec : ∀ (k : Nat) (l : List UInt8), l.length = k → l ≠ [] → (∀ c ∈ l, dg c) → (l.length = 1 ∨ l.head? ≠ some 48) → Lib.decDigits (dv 0 l) = l ∧ (l.head? ≠ some 48 → 1 ≤ dv 0 l) := by
  intro k
  induction k with
  | zero => intro l hl hn; exact absurd (List.eq_nil_of_length_eq_zero hl) hn
  | succ k ih =>
    intro l hl hn hd hh
    have e : l = l.dropLast ++ [l.getLast hn] := (List.dropLast_concat_getLast hn).symm
    generalize l.dropLast = r at e
    generalize l.getLast hn = c at e
    subst e
    have hc : dg c := hd c (by simp)
    by_cases hr : r = []
    · subst hr
      have e1 : dv 0 ([] ++ [c]) = c.toNat - 48 := by simp [dv]
      have h2 := hc.2
      have h1 := hc.1
      rw [e1]
      refine ⟨?_, fun h => ?_⟩
      · rw [Lib.decDigits, dif_pos (by omega), dig_back hc]; rfl
      · by_cases h0 : c.toNat = 48
        · exact absurd (by simp; exact UInt8.toNat_inj.1 (by rw [h0]; rfl)) h
        · omega
    · have hh' : r.head? ≠ some 48 := by
        rcases hh with hh | hh
        · exact absurd (by simpa using hh) hr
        · rwa [head_app hr] at hh
      obtain ⟨i1, i2⟩ := ih r (by simpa using hl) hr (fun x hx => hd x (by simp [hx])) (.inr hh')
      have hv := i2 hh'
      have h2 := hc.2
      refine ⟨?_, fun _ => ?_⟩
      · rw [dv_snoc, Lib.decDigits, dif_neg (by omega)]
        have e1 : (dv 0 r * 10 + (c.toNat - 48)) / 10 = dv 0 r := by omega
        have e2 : (dv 0 r * 10 + (c.toNat - 48)) % 10 = c.toNat - 48 := by omega
        rw [e1, e2, i1, dig_back hc]
      · rw [dv_snoc]; omega

theorem parse_digits : ∀ (l : List UInt8) (acc : Nat), (∀ c ∈ l, dg c) → dv acc l ≤ 9999999999 → Lib.parseUintM (2 ^ 64 - 1) acc l = .ok (dv acc l)
  | [], acc, _, _ => by rw [dv_nil]; rfl
  | c :: l, acc, hd, hb => by
    have hc := hd c (List.mem_cons_self ..)
    rw [dv_cons] at hb
    have hg := dv_ge l (acc * 10 + (c.toNat - 48))
    rw [Lib.parseUintM, if_pos ⟨hc.1, hc.2⟩, if_neg (by omega), if_neg (by omega), dv_cons]
    exact parse_digits l _ (fun x hx => hd x (List.mem_cons_of_mem _ hx)) hb
theorem parse_itoa {n : Int} (h0 : -9999999999 ≤ n) (h1 : n ≤ 9999999999) : Lib.parseIntB 64 (Lib.itoa n) = .ok n := by
  by_cases hn : n < 0
  · rw [itoa_neg hn]
    have e : dv 0 (Lib.decDigits (-n).toNat) = (-n).toNat := dv_dec _
    have p := parse_digits (Lib.decDigits (-n).toNat) 0 (dec_dg _) (by rw [e]; omega)
    rw [e] at p
    have e45 : (45 : UInt8).toNat = 45 := rfl
    have q : Lib.parseUintB 64 (Lib.decDigits (-n).toNat) = .ok (-n).toNat := by rw [Lib.parseUintB, if_neg (dec_ne_nil _)]; exact p
    unfold Lib.parseIntB
    simp only [e45, or_true, if_true, q]
    rw [if_neg (by simp), if_neg (by intro h; have := h.2; omega)]
    congr 1
    omega
  · rw [itoa_pos (by omega)]
    have e : dv 0 (Lib.decDigits n.toNat) = n.toNat := dv_dec _
    have p := parse_digits (Lib.decDigits n.toNat) 0 (dec_dg _) (by rw [e]; omega)
    rw [e] at p
    cases hl : Lib.decDigits n.toNat with
    | nil => exact absurd hl (dec_ne_nil _)
    | cons c r =>
      have hc := dec_dg n.toNat c (by rw [hl]; exact List.mem_cons_self ..)
      have n1 : ¬ (c.toNat = 43 ∨ c.toNat = 45) := by have := hc.1; unfold dg at hc; omega
      have n2 : ¬ c.toNat = 45 := by have := hc.1; omega
      rw [hl] at p
      have q : Lib.parseUintB 64 (c :: r) = .ok n.toNat := by rw [Lib.parseUintB, if_neg (List.cons_ne_nil c r)]; exact p
      unfold Lib.parseIntB
      simp only [if_neg n1, q]
      rw [if_neg (by intro h; have := h.2; omega), if_neg (fun h => n2 h.1), if_neg n2]
      congr 1
      omega

/-- The text s is the number n, in decimal, of at most ten digits. -/
def DecIs (s : ByteArray) (n : Int) : Prop := s.data.toList = Lib.itoa n ∧ -9999999999 ≤ n ∧ n ≤ 9999999999
theorem itoa_inj {n m : Int} (hn0 : -9999999999 ≤ n) (hn : n ≤ 9999999999) (hm0 : -9999999999 ≤ m) (hm : m ≤ 9999999999) (h : Lib.itoa n = Lib.itoa m) : n = m := by
  have h1 := parse_itoa hn0 hn
  rw [h, parse_itoa hm0 hm] at h1
  injection h1 with h1
  exact h1.symm
theorem DecIs.inj {s : ByteArray} {n m : Int} (h : DecIs s n) (k : DecIs s m) : n = m := itoa_inj h.2.1 h.2.2 k.2.1 k.2.2 (h.1.symm.trans k.1)

end Go.Proofs.YtlaeilcipibelaaGreatDoor
