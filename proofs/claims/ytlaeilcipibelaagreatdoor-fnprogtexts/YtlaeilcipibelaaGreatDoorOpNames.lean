/- The words of the kinds, and the text of an op. -/
import Derived.Test.YtlaeilcipibelaaGreatDoorOpSpec
import Derived.Test.YtlaeilcipibelaaGreatDoorDec
namespace Go.Proofs.YtlaeilcipibelaaGreatDoor
open Go.RowKit

/-- The word of a kind. -/
def nameB (k : Int) : ByteArray :=
  if k = 1 then ⟨#[114, 117, 110]⟩ else if k = 2 then ⟨#[115, 108, 101, 101, 112]⟩ else if k = 3 then ⟨#[119, 97, 105, 116]⟩
  else if k = 4 then ⟨#[115, 105, 103, 110, 97, 108]⟩ else if k = 5 then ⟨#[115, 101, 116]⟩ else if k = 6 then ⟨#[114, 101, 115, 101, 116]⟩
  else if k = 7 then ⟨#[97, 119, 97, 105, 116]⟩ else if k = 8 then ⟨#[115, 101, 110, 100]⟩ else if k = 9 then ⟨#[116, 97, 107, 101]⟩
  else if k = 10 then ⟨#[115, 104, 111, 119]⟩ else if k = 11 then ⟨#[99, 108, 101, 97, 114]⟩ else if k = 12 then ⟨#[114, 101, 97, 100]⟩
  else if k = 13 then ⟨#[119, 114, 105, 116, 101]⟩ else if k = 14 then ⟨#[102, 101, 116, 99, 104]⟩ else if k = 15 then ⟨#[115, 116, 97, 114, 116]⟩
  else if k = 16 then ⟨#[115, 116, 111, 112]⟩ else if k = 17 then ⟨#[108, 111, 111, 112]⟩ else ⟨#[]⟩
/-- The text of an op, by its kind. -/
def opText (k n m : Int) (s : ByteArray) : ByteArray :=
  if k = 1 ∨ k = 2 ∨ k = 4 ∨ k = 5 ∨ k = 6 ∨ k = 11 ∨ k = 14 ∨ k = 15 ∨ k = 16 then nameB k ++ ⟨#[32]⟩ ++ decB n
  else if k = 3 ∨ k = 7 ∨ k = 9 ∨ k = 12 then nameB k ++ ⟨#[32]⟩ ++ decB n ++ ⟨#[32]⟩ ++ decB m
  else if k = 8 then nameB k ++ ⟨#[32]⟩ ++ decB n ++ ⟨#[32]⟩ ++ decB m ++ ⟨#[32]⟩ ++ s
  else if k = 10 ∨ k = 13 then nameB k ++ ⟨#[32]⟩ ++ decB n ++ ⟨#[32]⟩ ++ s
  else nameB k

/-- The words, as the specification lays them. -/
def NamesAt (w : World) (g : Nat) : Prop := g < w.heap.size ∧ ∀ k : Nat, k ≤ 17 → w.cell? ⟨g, k, none⟩ = some (.string (nameB k))
theorem NamesAt.below {w w' : World} {g : Nat} (h : NamesAt w g) (hb : Below w.heap.size w w') : NamesAt w' g :=
  ⟨Nat.lt_of_lt_of_le h.1 hb.size, fun k hk => (hb.cell (p := ⟨g, k, none⟩) h.1).trans (h.2 k hk)⟩

set_option maxHeartbeats 1000000 in
theorem l2Names_any (w : World) : Calls Tryz.prog 35 #[] w fun e w' => e = .returned (.slice (some ⟨w.heap.size, 0, none⟩) 18 18) ∧ NamesAt w' w.heap.size ∧ Below w.heap.size w w' := by
  go_enter Tryz.func35, Tryz.ntmps35
  go_wp2
  go_ret
  refine ⟨rfl, ⟨by simp, ?_⟩, by go_grown⟩
  intro k hk
  have h : k = 0 ∨ k = 1 ∨ k = 2 ∨ k = 3 ∨ k = 4 ∨ k = 5 ∨ k = 6 ∨ k = 7 ∨ k = 8 ∨ k = 9 ∨ k = 10 ∨ k = 11 ∨ k = 12 ∨ k = 13 ∨ k = 14 ∨ k = 15 ∨ k = 16 ∨ k = 17 := by omega
  rcases h with rfl | rfl | rfl | rfl | rfl | rfl | rfl | rfl | rfl | rfl | rfl | rfl | rfl | rfl | rfl | rfl | rfl | rfl <;> simp [nameB]

theorem ite_size {p : Prop} [Decidable p] {a b : ByteArray} {n : Nat} (ha : a.size ≤ n) (hb : b.size ≤ n) : (if p then a else b).size ≤ n := by split <;> assumption
theorem nameB_size (k : Int) : (nameB k).size ≤ 6 := by
  unfold nameB
  repeat (first | decide | refine ite_size (by decide) ?_)
theorem NamesAt.one {w : World} {g : Nat} (h : NamesAt w g) (k : Nat) (hk : k ≤ 17) : w.cell? ⟨g, k, none⟩ = some (.string (nameB k)) := h.2 k hk

theorem opR_kind {k n m : Int} {s : ByteArray} (h : opB k n m s = true) : k = 1 ∨ k = 2 ∨ k = 3 ∨ k = 4 ∨ k = 5 ∨ k = 6 ∨ k = 7 ∨ k = 8 ∨ k = 9 ∨ k = 10 ∨ k = 11 ∨ k = 12 ∨ k = 13 ∨ k = 14 ∨ k = 15 ∨ k = 16 ∨ k = 17 := by
  unfold opB at h
  split at h
  · omega
  split at h
  · omega
  split at h
  · omega
  split at h
  · omega
  split at h
  · omega
  · cases h
theorem inR_out {n lo hi : Int} (h : inB n lo hi = true) : lo ≤ n ∧ n ≤ hi := by simpa [inB] using h
theorem plainR_size {s : ByteArray} (h : plainB s = true) : s.size ≤ 20 := by
  simp only [plainB, Bool.and_eq_true, decide_eq_true_eq] at h
  exact h.1
theorem opR_num {k n m : Int} {s : ByteArray} (hk : k = 1 ∨ k = 2 ∨ k = 4 ∨ k = 5 ∨ k = 6 ∨ k = 11 ∨ k = 14 ∨ k = 15 ∨ k = 16) (h : opB k n m s = true) : 1 ≤ n ∧ n ≤ 1000 := by
  unfold opB at h
  rw [if_pos hk] at h
  simp only [Bool.and_eq_true] at h
  exact inR_out h.1.1
theorem opR_wait {k n m : Int} {s : ByteArray} (hk : k = 3 ∨ k = 7 ∨ k = 9 ∨ k = 12) (h : opB k n m s = true) : 1 ≤ n ∧ n ≤ 1000 ∧ -1 ≤ m ∧ m ≤ 1000 := by
  unfold opB at h
  rw [if_neg (by omega), if_pos hk] at h
  simp only [Bool.and_eq_true] at h
  exact ⟨(inR_out h.1.1).1, (inR_out h.1.1).2, (inR_out h.1.2).1, (inR_out h.1.2).2⟩
theorem opR_send {n m : Int} {s : ByteArray} (h : opB 8 n m s = true) : 1 ≤ n ∧ n ≤ 1000 ∧ -1 ≤ m ∧ m ≤ 1000 ∧ s.size ≤ 20 := by
  unfold opB at h
  rw [if_neg (by omega), if_neg (by omega), if_pos rfl] at h
  simp only [Bool.and_eq_true] at h
  exact ⟨(inR_out h.1.1).1, (inR_out h.1.1).2, (inR_out h.1.2).1, (inR_out h.1.2).2, plainR_size h.2⟩
theorem opR_text {k n m : Int} {s : ByteArray} (hk : k = 10 ∨ k = 13) (h : opB k n m s = true) : 1 ≤ n ∧ n ≤ 1000 ∧ s.size ≤ 20 := by
  unfold opB at h
  rw [if_neg (by omega), if_neg (by omega), if_neg (by omega), if_pos hk] at h
  simp only [Bool.and_eq_true] at h
  exact ⟨(inR_out h.1.1).1, (inR_out h.1.1).2, plainR_size h.2⟩

end Go.Proofs.YtlaeilcipibelaaGreatDoor
