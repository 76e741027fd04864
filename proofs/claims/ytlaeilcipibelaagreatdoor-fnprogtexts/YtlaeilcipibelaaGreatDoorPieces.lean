/- A text cut at every such byte: no walk. -/
import Derived.Test.YtlaeilcipibelaaGreatDoorCut
import Derived.Lib.Split
import Derived.Lib.Join
import Derived.Lib.SplitLaws
import Derived.Lib.IndexBytes
namespace Go.Proofs.YtlaeilcipibelaaGreatDoor
open Go.RowKit

/-- The pieces between the bytes c. -/
def pcs (c : UInt8) : List UInt8 → List (List UInt8)
  | [] => [[]]
  | x :: r => if x = c then [] :: pcs c r else match pcs c r with
    | h :: t => (x :: h) :: t
    | [] => [[x]]
theorem pcs_ne (c : UInt8) : ∀ l, pcs c l ≠ []
  | [] => by simp [pcs]
  | x :: r => by
    simp only [pcs]
    split
    · simp
    · split <;> simp
theorem pcs_none {c : UInt8} : ∀ {l : List UInt8}, c ∉ l → pcs c l = [l]
  | [], _ => rfl
  | x :: r, h => by
    have h1 : ¬ x = c := fun e => h (by simp [e])
    have h2 := pcs_none (c := c) (l := r) (fun e => h (List.mem_cons_of_mem _ e))
    simp only [pcs, if_neg h1, h2]
theorem pcs_cut {c : UInt8} : ∀ {a b : List UInt8}, c ∉ a → pcs c (a ++ c :: b) = a :: pcs c b
  | [], b, _ => by simp [pcs]
  | x :: a, b, h => by
    have h1 : ¬ x = c := fun e => h (by simp [e])
    have h2 := pcs_cut (c := c) (a := a) (b := b) (fun e => h (List.mem_cons_of_mem _ e))
    simp only [List.cons_append, pcs, if_neg h1, h2]
theorem pcs_join (c : UInt8) : ∀ l, Lib.join (pcs c l) [c] = l
  | [] => by simp [pcs, Lib.join, List.intercalate]
  | x :: r => by
    have ih := pcs_join c r
    have hne := pcs_ne c r
    simp only [pcs]
    cases hp : pcs c r with
    | nil => exact absurd hp hne
    | cons h t =>
      rw [hp] at ih
      split
      · rename_i e
        subst e
        rw [← ih]
        cases t <;> simp [Lib.join, List.intercalate]
      · rw [← ih]
        cases t <;> simp [Lib.join, List.intercalate]
theorem pcs_free (c : UInt8) : ∀ l, ∀ p ∈ pcs c l, c ∉ p
  | [], p, hp => by simp [pcs] at hp; subst hp; simp
  | x :: r, p, hp => by
    have ih := pcs_free c r
    simp only [pcs] at hp
    split at hp
    · rcases List.mem_cons.1 hp with rfl | hp
      · simp
      · exact ih p hp
    · rename_i hx
      cases hq : pcs c r with
      | nil => exact absurd hq (pcs_ne c r)
      | cons h t =>
        rw [hq] at hp
        simp only [List.mem_cons] at hp
        rcases hp with rfl | hp
        · intro hm
          rcases List.mem_cons.1 hm with e | hm
          · exact hx e.symm
          · exact ih h (by rw [hq]; simp) hm
        · exact ih p (by rw [hq]; simp [hp])
theorem pcs_of {c : UInt8} : ∀ {ps : List (List UInt8)}, ps ≠ [] → (∀ p ∈ ps, c ∉ p) → pcs c (Lib.join ps [c]) = ps
  | [], h, _ => absurd rfl h
  | [p], _, h => by
    have e : Lib.join [p] [c] = p := by simp [Lib.join, List.intercalate]
    rw [e]
    exact pcs_none (h p (by simp))
  | p :: q :: t, _, h => by
    have e : Lib.join (p :: q :: t) [c] = p ++ c :: Lib.join (q :: t) [c] := by simp [Lib.join, List.intercalate]
    rw [e, pcs_cut (h p (by simp)), pcs_of (by simp) (fun x hx => h x (List.mem_cons_of_mem _ hx))]
theorem pcs_len_le (c : UInt8) (l : List UInt8) : (pcs c l).length ≤ l.length + 1 := by
  induction l with
  | nil => simp [pcs]
  | cons x r ih =>
    simp only [pcs]
    split
    · simp; omega
    · split
      · rename_i h t hp; rw [hp] at ih; simp at ih ⊢; omega
      · simp

theorem pcs_piece_le (c : UInt8) : ∀ (l : List UInt8), ∀ p ∈ pcs c l, p.length ≤ l.length
  | [], p, hp => by simp [pcs] at hp; subst hp; simp
  | x :: r, p, hp => by
    have ih := pcs_piece_le c r
    simp only [pcs] at hp
    split at hp
    · rcases List.mem_cons.1 hp with rfl | hp
      · simp
      · have := ih p hp; simp; omega
    · cases hq : pcs c r with
      | nil => exact absurd hq (pcs_ne c r)
      | cons h t =>
        rw [hq] at hp
        simp only [List.mem_cons] at hp
        rcases hp with rfl | hp
        · have := ih h (by rw [hq]; simp); simp; omega
        · have := ih p (by rw [hq]; simp [hp]); simp; omega

/-- What the specification's cut gives is the first piece. -/
theorem CutIs.pcs {s a b : ByteArray} {c : UInt8} {f : Bool} (h : CutIs s c a b f) : pcs c s.data.toList = if f = true then a.data.toList :: pcs c b.data.toList else [a.data.toList] := by
  rcases h with ⟨rfl, h1, h2⟩ | ⟨rfl, rfl, _, h2⟩
  · rw [h1, pcs_cut h2]; rfl
  · rw [pcs_none h2]; rfl

theorem first_of {c : UInt8} : ∀ {s : List UInt8}, c ∈ s → ∃ a b, s = a ++ c :: b ∧ c ∉ a
  | [], h => by simp at h
  | x :: r, h => by
    by_cases e : x = c
    · subst e
      exact ⟨[], r, rfl, by simp⟩
    · have h' : c ∈ r := by
        rcases List.mem_cons.1 h with h | h
        · exact absurd h.symm e
        · exact h
      obtain ⟨a, b, rfl, ha⟩ := first_of h'
      exact ⟨x :: a, b, rfl, fun hm => by
        rcases List.mem_cons.1 hm with h | h
        · exact e h.symm
        · exact ha h⟩
theorem indexByte_first {c : UInt8} : ∀ {a b : List UInt8}, c ∉ a → Lib.indexByte (a ++ c :: b) c = a.length
  | [], b, _ => by simp [Lib.indexByte]
  | x :: a, b, h => by
    have h1 : ¬ x = c := fun e => h (by simp [e])
    have h2 := indexByte_first (c := c) (a := a) (b := b) (fun e => h (List.mem_cons_of_mem _ e))
    rw [List.cons_append, Lib.indexByte, if_neg (by simpa using h1), h2, if_neg (by simp)]
    simp

/-- The library's Split at one byte. -/
theorem split_pcs (c : UInt8) : ∀ (k : Nat) (s : List UInt8), Lib.count s [c] = k → Lib.splitK [c] 0 k s = pcs c s := by
  intro k
  induction k with
  | zero =>
    intro s h
    rw [Lib.count_one] at h
    rw [pcs_none (List.count_eq_zero.1 h)]
    rfl
  | succ k ih =>
    intro s h
    rw [Lib.count_one] at h
    have hm : c ∈ s := List.count_pos_iff.1 (by omega)
    obtain ⟨a, b, rfl, ha⟩ := first_of hm
    have hi : Lib.index (a ++ c :: b) [c] = a.length := by rw [Lib.index_one]; exact indexByte_first ha
    rw [Lib.splitK, if_neg (by rw [hi]; simp), hi, pcs_cut ha]
    have e1 : ((a.length : Int)).toNat = a.length := Int.toNat_natCast _
    rw [e1, Nat.add_zero, List.take_left, show a.length + [c].length = a.length + 1 from rfl]
    have e2 : (a ++ c :: b).drop (a.length + 1) = b := by
      rw [← List.drop_drop, List.drop_left]; rfl
    rw [e2, ih b]
    rw [Lib.count_one]
    rw [List.count_append, List.count_cons_self, List.count_eq_zero.2 ha] at h
    omega

theorem splitB_pcs (c : UInt8) (s : ByteArray) : (Lib.splitB ⟨#[c]⟩ 0 (Lib.countB s ⟨#[c]⟩) s).map (·.data.toList) = pcs c s.data.toList := by
  rw [Lib.splitB_data]
  exact split_pcs c _ _ rfl

end Go.Proofs.YtlaeilcipibelaaGreatDoor
