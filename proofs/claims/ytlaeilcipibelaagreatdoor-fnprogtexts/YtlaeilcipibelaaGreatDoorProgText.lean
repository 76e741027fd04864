/- The text of a program: what the specification writes, and what the program writes. -/
import Derived.Test.YtlaeilcipibelaaGreatDoorOpText
import Derived.Test.YtlaeilcipibelaaGreatDoorProgSpec
import Derived.Lib.Join
namespace Go.Proofs.YtlaeilcipibelaaGreatDoor
open Go.RowKit

def opTextAt (K N M : Nat → Int) (S : Nat → ByteArray) (i : Nat) : ByteArray := opText (K i) (N i) (M i) (S i)
/-- The text of the first ops. -/
def pT (K N M : Nat → Int) (S : Nat → ByteArray) : Nat → ByteArray
  | 0 => ⟨#[]⟩
  | k + 1 => (if k = 0 then pT K N M S k else pT K N M S k ++ ⟨#[59]⟩) ++ opTextAt K N M S k
def progText (len : Nat) (K N M : Nat → Int) (S : Nat → ByteArray) : ByteArray := if progB len K N M S = true then pT K N M S len else ⟨#[]⟩
theorem progB_out {len : Nat} {K N M : Nat → Int} {S : Nat → ByteArray} (h : progB len K N M S = true) : 1 ≤ len ∧ len ≤ 20 ∧ ∀ j, j < len → opAtB K N M S j = true := by
  simp only [progB] at h
  exact of_decide_eq_true h
theorem opText_size {k n m : Int} {s : ByteArray} (h : opB k n m s = true) : (opText k n m s).size ≤ 51 := by
  have e1 : (⟨#[32]⟩ : ByteArray).size = 1 := rfl
  have s0 := nameB_size k
  unfold opText
  split
  · rename_i hk
    have := opR_num hk h
    have s1 := decB_size (n := n) (by omega) (by omega)
    simp only [ByteArray.size_append]; omega
  split
  · rename_i hk
    have := opR_wait hk h
    have s1 := decB_size (n := n) (by omega) (by omega)
    have s2 := decB_size (n := m) (by omega) (by omega)
    simp only [ByteArray.size_append]; omega
  split
  · rename_i hk
    subst hk
    have := opR_send h
    have s1 := decB_size (n := n) (by omega) (by omega)
    have s2 := decB_size (n := m) (by omega) (by omega)
    simp only [ByteArray.size_append]; omega
  split
  · rename_i hk
    have := opR_text hk h
    have s1 := decB_size (n := n) (by omega) (by omega)
    simp only [ByteArray.size_append]; omega
  · omega
theorem pT_size {K N M : Nat → Int} {S : Nat → ByteArray} : ∀ k, (∀ j, j < k → opAtB K N M S j = true) → (pT K N M S k).size ≤ 52 * k
  | 0, _ => Nat.le_refl 0
  | k + 1, h => by
    have ih := pT_size k (fun j hj => h j (by omega))
    have ho : (opTextAt K N M S k).size ≤ 51 := opText_size (h k (by omega))
    have e1 : (⟨#[59]⟩ : ByteArray).size = 1 := rfl
    simp only [pT]
    split
    · simp only [ByteArray.size_append]; omega
    · simp only [ByteArray.size_append]; omega

theorem join_snoc (sep y : List UInt8) : ∀ xs : List (List UInt8), Lib.join (xs ++ [y]) sep = if xs = [] then y else Lib.join xs sep ++ sep ++ y
  | [] => by simp [Lib.join, List.intercalate]
  | [a] => by simp [Lib.join, List.intercalate]
  | a :: b :: t => by
    have ih := join_snoc sep y (b :: t)
    have e : ∀ (c : List UInt8) (r : List (List UInt8)), Lib.join (a :: c :: r) sep = a ++ sep ++ Lib.join (c :: r) sep := fun c r => by simp [Lib.join, List.intercalate]
    rw [List.cons_append, List.cons_append, e, ← List.cons_append, ih, e]
    simp
theorem pT_join (K N M : Nat → Int) (S : Nat → ByteArray) : ∀ k, (pT K N M S k).data.toList = Lib.join ((List.range k).map (fun i => (opTextAt K N M S i).data.toList)) [59]
  | 0 => by simp [pT, Lib.join, List.intercalate]
  | k + 1 => by
    rw [List.range_succ, List.map_append, List.map_singleton, join_snoc]
    have ih := pT_join K N M S k
    simp only [pT]
    by_cases h : k = 0
    · subst h
      simp [pT, ByteArray.data_append]
    · rw [if_neg h, if_neg (by simpa using h), ← ih]
      simp [ByteArray.data_append]

set_option maxHeartbeats 2000000 in
theorem specProgText_any (g len cap : Nat) (K N M : Nat → Int) (S : Nat → ByteArray) (w : World) (hl : len ≤ 1048576) (hs : ∀ i, i < len → (S i).size ≤ 1048576) (hr : OpsAt w g len K N M S) :
    Calls Tryz.prog 8 #[.slice (some ⟨g, 0, none⟩) len cap] w fun e w' => e = .returned (.string (progText len K N M S)) ∧ Below w.heap.size w w' := by
  have HR : Hid (OpsAt w g len K N M S) := hr
  have HS : Hid (∀ i, i < len → (S i).size ≤ 1048576) := hs
  clear hr hs
  go_enter Tryz.func8, Tryz.ntmps8
  go_wp2_with fail
  refine (specProgOk_any g len cap K N M S w hl HS.out HR.out).mono ?_
  rintro e w1 ⟨rfl, hb1⟩
  have HR1 : Hid (OpsAt w1 g len K N M S ∧ Below w.heap.size w w1) := ⟨HR.out.below hb1, hb1⟩
  clear hb1 HR
  cases hf : progB len K N M S with
  | false =>
    have HF : Hid (progB len K N M S = false) := hf
    clear hf
    go_wp2
    go_ret
    exact ⟨by rw [progText, HF.out]; rfl, HR1.out.2⟩
  | true =>
    have HF : Hid (1 ≤ len ∧ len ≤ 20 ∧ (∀ j, j < len → opAtB K N M S j = true) ∧ progB len K N M S = true) := ⟨(progB_out hf).1, (progB_out hf).2.1, (progB_out hf).2.2, hf⟩
    clear hf
    go_wp2_with fail
    go_loopw [3, 4] (fun t i wr => ∃ k : Nat, k ≤ len ∧ i = .int .i64 k ∧ t = .string (pT K N M S k) ∧ Hid (Below w.heap.size w wr ∧ OpsAt wr g len K N M S)) (fun _ i _ => len - (intOf i).toNat)
    case atStart => exact ⟨0, Nat.zero_le _, rfl, rfl, ⟨HR1.out.2, HR1.out.1⟩⟩
    case round =>
      obtain ⟨k, hk, rfl, rfl, HW⟩ := hrel
      by_cases hlt : k < len
      · have c0 := HW.out.2.c0 hlt
        have c1 := HW.out.2.c1 hlt
        have c2 := HW.out.2.c2 hlt
        have c3 := HW.out.2.c3 hlt
        have i0 : (0 : Int) ≤ (k : Int) := by omega
        have i1 : (k : Int) < (len : Int) := by omega
        have hgl := HW.out.2.1
        have HO : Hid (opB (K k) (N k) (M k) (S k) = true) := HF.out.2.2.1 k hlt
        have hts := pT_size k (fun j hj => HF.out.2.2.1 j (by omega))
        have hos := opText_size HO.out
        have HX : Hid (pT K N M S (k + 1) = (if k = 0 then pT K N M S k else pT K N M S k ++ ⟨#[59]⟩) ++ opText (K k) (N k) (M k) (S k)) := rfl
        have hlen := HF.out.2.1
        have q0 : ¬ 9223372036854775807 < (pT K N M S k).size + 1 := by omega
        have q1 : ¬ 9223372036854775807 < (pT K N M S k).size + 1 + (opText (K k) (N k) (M k) (S k)).size := by omega
        have q2 : ¬ 9223372036854775807 < (pT K N M S k).size + (opText (K k) (N k) (M k) (S k)).size := by omega
        clear hts hos
        generalize pT K N M S k = t at *
        by_cases hk0 : k = 0
        · have hk1 : ¬ (0 : Int) < (k : Int) := by omega
          have HK0 : Hid (k = 0) := hk0
          clear hk0
          go_wp2_with fail
          refine (l2Text_any (K k) (N k) (M k) (S k) wr HO.out).mono ?_
          rintro e w2 ⟨rfl, hb2⟩
          have HW2 : Hid (Below w.heap.size w w2 ∧ OpsAt w2 g len K N M S) := ⟨HW.out.1.trans (hb2.mono HW.out.1.size), HW.out.2.below hb2⟩
          clear hb2 c0 c1 c2 c3
          go_wp2
          go_roundw
          case rel => exact ⟨k + 1, by omega, by go_num, by rw [HX.out, if_pos HK0.out], HW2⟩
          case measure => simp [intOf]; omega
        · have hk1 : (0 : Int) < (k : Int) := by omega
          have HK0 : Hid (¬ k = 0) := hk0
          clear hk0
          go_wp2_with fail
          refine (l2Text_any (K k) (N k) (M k) (S k) wr HO.out).mono ?_
          rintro e w2 ⟨rfl, hb2⟩
          have HW2 : Hid (Below w.heap.size w w2 ∧ OpsAt w2 g len K N M S) := ⟨HW.out.1.trans (hb2.mono HW.out.1.size), HW.out.2.below hb2⟩
          clear hb2 c0 c1 c2 c3
          go_wp2
          go_roundw
          case rel => exact ⟨k + 1, by omega, by go_num, by rw [HX.out, if_neg HK0.out], HW2⟩
          case measure => simp [intOf]; omega
      · go_wp2
        go_ret
        have e : k = len := by omega
        subst e
        exact ⟨by rw [progText, if_pos HF.out.2.2.2]; rfl, HW.out.1⟩

end Go.Proofs.YtlaeilcipibelaaGreatDoor
