/- What stands ahead of the first such byte, and behind it. -/
import Derived.Test.YtlaeilcipibelaaGreatDoorBase
import Derived.Deep.QuietTactic
import Derived.BigQuiet
namespace Go.Proofs.YtlaeilcipibelaaGreatDoor
open Go.RowKit

/-- What the specification's cut gives. -/
def CutIs (s : ByteArray) (c : UInt8) (a b : ByteArray) (f : Bool) : Prop :=
  (f = true ∧ s.data.toList = a.data.toList ++ c :: b.data.toList ∧ c ∉ a.data.toList) ∨ (f = false ∧ a = s ∧ b = ⟨#[]⟩ ∧ c ∉ s.data.toList)

theorem not_more {s : ByteArray} {c : UInt8} {k : Nat} (h : k < s.size) (hc : ¬ s[k] = c) (ha : c ∉ s.data.toList.take k) : Hid (c ∉ s.data.toList.take (k + 1)) := by
  show c ∉ s.data.toList.take (k + 1)
  have e : s.data.toList.take (k + 1) = s.data.toList.take k ++ [s[k]] := by rw [List.take_succ_eq_append_getElem (by simpa using h)]; rfl
  rw [e, List.mem_append, List.mem_singleton]
  rintro (h1 | h1)
  · exact ha h1
  · exact hc h1.symm
/-- How the specification's cut ends. -/
def CutEnds (s : ByteArray) (c : UInt8) (e : Ending) : Prop := ∃ a b f, e = .returned (.tuple #[.string a, .string b, .bool f]) ∧ CutIs s c a b f
theorem ext_to (s : ByteArray) (k : Nat) : (s.extract 0 k).data.toList = s.data.toList.take k := by
  rw [ByteArray.data_extract, Array.toList_extract]
  simp
theorem ext_from (s : ByteArray) (k : Nat) : (s.extract k s.size).data.toList = s.data.toList.drop k := by
  rw [ByteArray.data_extract, Array.toList_extract]
  rw [List.extract_eq_take_drop]
  refine List.take_of_length_le ?_
  rw [List.length_drop]
  have : s.data.toList.length = s.size := by simp
  omega
theorem take_more (s : ByteArray) (k : Nat) (h : k < s.size) : s.data.toList.take (k + 1) = s.data.toList.take k ++ [s[k]] := by
  rw [List.take_succ_eq_append_getElem (by simpa using h)]; rfl
theorem cut_here {s : ByteArray} {c : UInt8} {k : Nat} (h : k < s.size) (hc : s[k] = c) (ha : c ∉ s.data.toList.take k) : CutIs s c (s.extract 0 k) (s.extract (k + 1) s.size) true := by
  refine .inl ⟨rfl, ?_, ?_⟩
  · rw [ext_to, ext_from, ← hc]
    have e : s.data.toList = s.data.toList.take (k + 1) ++ s.data.toList.drop (k + 1) := (List.take_append_drop _ _).symm
    rw [take_more s k h] at e
    simpa using e
  · rw [ext_to]; exact ha

set_option maxHeartbeats 1000000 in
theorem l1Cut_any (s : ByteArray) (c : UInt8) (w : World) (hs : s.size ≤ 1048576) :
    Calls Tryz.prog 23 #[.string s, .int .u8 c.toNat] w fun e w' => CutEnds s c e ∧ Below w.heap.size w w' := by
  go_enter Tryz.func23, Tryz.ntmps23
  go_wp2
  go_loop [7] (fun i => ∃ k : Nat, k ≤ s.size ∧ i = .int .i64 k ∧ Hid (c ∉ s.data.toList.take k)) (fun i => s.size - (intOf i).toNat)
  case atStart => exact ⟨0, Nat.zero_le _, rfl, (by simp : c ∉ s.data.toList.take 0)⟩
  case round =>
    obtain ⟨k, hk, rfl, HA⟩ := hrel
    by_cases hlt : k < s.size
    · have i0 : (0 : Int) ≤ (k : Int) := by omega
      have i1 : (k : Int) < (s.size : Int) := by omega
      by_cases hc : s[k] = c
      · have h1 : ((s[k].toNat : Int) == (c.toNat : Int)) = true := by simp [hc]
        have i2 : (k : Int) ≤ (s.size : Int) := by omega
        have i3 : ((k : Int) + 1) ≤ (s.size : Int) := by omega
        have i4 : (0 : Int) ≤ (k : Int) + 1 := by omega
        go_wp2
        go_quiet (fail)
        go_wp2
        go_ret3
        exact ⟨⟨_, _, _, rfl, cut_here hlt hc HA.out⟩, ⟨rfl, rfl, rfl, Nat.le_refl _, fun _ _ => rfl⟩⟩
      · have h1 : ((s[k].toNat : Int) == (c.toNat : Int)) = false := by
          simp only [beq_eq_false_iff_ne, ne_eq]
          intro e
          exact hc (UInt8.toNat_inj.1 (by omega))
        go_wp2
        go_round
        case rel => exact ⟨k + 1, by omega, by go_num, not_more hlt hc HA.out⟩
        case measure => simp [intOf]; omega
    · go_wp2
      go_ret3
      refine ⟨⟨_, _, _, rfl, .inr ⟨rfl, rfl, rfl, ?_⟩⟩, Below.refl _ _⟩
      have := HA.out
      rwa [List.take_of_length_le (by simpa using (by omega : s.size ≤ k))] at this

end Go.Proofs.YtlaeilcipibelaaGreatDoor
