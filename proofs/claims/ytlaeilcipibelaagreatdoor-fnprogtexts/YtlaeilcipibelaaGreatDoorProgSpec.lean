/- What ProgOk answers, the specification's and the program's. -/
import Derived.Test.YtlaeilcipibelaaGreatDoorOpOk
import Derived.Test.YtlaeilcipibelaaGreatDoorProgRowB
namespace Go.Proofs.YtlaeilcipibelaaGreatDoor
open Go.RowKit

/-- The ops of a program lie in block g. -/
def OpsAt (w : World) (g len : Nat) (K N M : Nat → Int) (S : Nat → ByteArray) : Prop := g < w.heap.size ∧ ∀ j, j < len * 4 → w.cell? ⟨g, j, none⟩ = some (opV K N M S j)
theorem OpsAt.of_block {w w' : World} {g len : Nat} {K N M : Nat → Int} {S : Nat → ByteArray} (h : OpsAt w g len K N M S) (e : w'.heap[g]? = w.heap[g]?) : OpsAt w' g len K N M S := by
  refine ⟨?_, fun j hj => (World.cell?_of_block (w := w) e).trans (h.2 j hj)⟩
  have h1 := h.1
  rw [Array.getElem?_eq_getElem h1] at e
  exact (Array.getElem?_eq_some_iff.1 e).1
theorem OpsAt.below {w w' : World} {g len : Nat} {K N M : Nat → Int} {S : Nat → ByteArray} (h : OpsAt w g len K N M S) (hb : Below w.heap.size w w') : OpsAt w' g len K N M S := h.of_block (hb.block g h.1)
theorem OpsAt.c0 {w : World} {g len : Nat} {K N M : Nat → Int} {S : Nat → ByteArray} (h : OpsAt w g len K N M S) {i : Nat} (hi : i < len) : w.cell? ⟨g, i * 4, none⟩ = some (.int .i64 (K i)) := by rw [← opV_0 K N M S]; exact h.2 _ (by omega)
theorem OpsAt.c1 {w : World} {g len : Nat} {K N M : Nat → Int} {S : Nat → ByteArray} (h : OpsAt w g len K N M S) {i : Nat} (hi : i < len) : w.cell? ⟨g, i * 4 + 1, none⟩ = some (.int .i64 (N i)) := by rw [← opV_1 K N M S]; exact h.2 _ (by omega)
theorem OpsAt.c2 {w : World} {g len : Nat} {K N M : Nat → Int} {S : Nat → ByteArray} (h : OpsAt w g len K N M S) {i : Nat} (hi : i < len) : w.cell? ⟨g, i * 4 + 2, none⟩ = some (.int .i64 (M i)) := by rw [← opV_2 K N M S]; exact h.2 _ (by omega)
theorem OpsAt.c3 {w : World} {g len : Nat} {K N M : Nat → Int} {S : Nat → ByteArray} (h : OpsAt w g len K N M S) {i : Nat} (hi : i < len) : w.cell? ⟨g, i * 4 + 3, none⟩ = some (.string (S i)) := by rw [← opV_3 K N M S]; exact h.2 _ (by omega)
theorem rowIs_ops {w : World} {g t len : Nat} {K N M : Nat → Int} {S : Nat → ByteArray} (h : w.rowIs g t (len * 4) (opV K N M S)) : OpsAt w g len K N M S := ⟨h.lt, fun _ hj => h.cell hj⟩

def opAtB (K N M : Nat → Int) (S : Nat → ByteArray) (i : Nat) : Bool := opB (K i) (N i) (M i) (S i)
/-- Whether a program is right. -/
def progB (len : Nat) (K N M : Nat → Int) (S : Nat → ByteArray) : Bool := decide (1 ≤ len ∧ len ≤ 20 ∧ ∀ i, i < len → opAtB K N M S i = true)
theorem progB_true {len : Nat} {K N M : Nat → Int} {S : Nat → ByteArray} (h : 1 ≤ len ∧ len ≤ 20 ∧ ∀ i, i < len → opAtB K N M S i = true) : progB len K N M S = true := by simp only [progB]; exact decide_eq_true h
theorem progB_false {len : Nat} {K N M : Nat → Int} {S : Nat → ByteArray} (h : ¬ (1 ≤ len ∧ len ≤ 20 ∧ ∀ i, i < len → opAtB K N M S i = true)) : progB len K N M S = false := by simp only [progB]; exact decide_eq_false h

set_option maxHeartbeats 1000000 in
theorem specProgOk_any (g len cap : Nat) (K N M : Nat → Int) (S : Nat → ByteArray) (w : World) (hl : len ≤ 1048576) (hs : ∀ i, i < len → (S i).size ≤ 1048576) (hr : OpsAt w g len K N M S) :
    Calls Tryz.prog 19 #[.slice (some ⟨g, 0, none⟩) len cap] w fun e w' => e = .returned (.bool (progB len K N M S)) ∧ Below w.heap.size w w' := by
  have HR : Hid (OpsAt w g len K N M S) := hr
  have HS : Hid (∀ i, i < len → (S i).size ≤ 1048576) := hs
  clear hr hs
  go_enter Tryz.func19, Tryz.ntmps19
  go_wp2
  go_loopw [3] (fun i wr => ∃ k : Nat, k ≤ len ∧ i = .int .i64 k ∧ (∀ j, j < k → opAtB K N M S j = true) ∧ Below w.heap.size w wr) (fun i _ => len - (intOf i).toNat)
  case atStart => exact ⟨0, Nat.zero_le _, rfl, fun j hj => absurd hj (by omega), Below.refl _ _⟩
  case round =>
    obtain ⟨k, hk, rfl, hall, hbel⟩ := hrel
    have HA : Hid (∀ j, j < k → opAtB K N M S j = true) := hall
    have HB : Hid (Below w.heap.size w wr) := hbel
    have HW : Hid (OpsAt wr g len K N M S) := HR.out.below hbel
    clear hall hbel
    by_cases hlt : k < len
    · have c0 := HW.out.c0 hlt
      have c1 := HW.out.c1 hlt
      have c2 := HW.out.c2 hlt
      have c3 := HW.out.c3 hlt
      have i0 : (0 : Int) ≤ (k : Int) := by omega
      have i1 : (k : Int) < (len : Int) := by omega
      go_wp2_with fail
      refine (specOpOk_any (K k) (N k) (M k) (S k) wr (HS.out k hlt)).mono ?_
      rintro e w1 ⟨rfl, hb1⟩
      have HB1 : Hid (Below w.heap.size w w1) := HB.out.trans (hb1.mono HB.out.size)
      have HO : Hid (opB (K k) (N k) (M k) (S k) = opAtB K N M S k) := rfl
      rw [HO.out]
      clear hb1 c0 c1 c2 c3
      cases hop : opAtB K N M S k with
      | true =>
        have HP : Hid (opAtB K N M S k = true) := hop
        clear hop
        go_wp2
        go_roundw
        case rel => exact ⟨k + 1, by omega, by go_num, fun j hj => by
          by_cases e : j = k
          · subst e; exact HP.out
          · exact HA.out j (by omega), HB1.out⟩
        case measure => simp [intOf]; omega
      | false =>
        have HP : Hid (opAtB K N M S k = false) := hop
        clear hop
        go_wp2
        go_ret
        exact ⟨ret_bool (progB_false (fun h => by have := h.2.2 k hlt; rw [HP.out] at this; cases this)).symm, HB1.out⟩
    · have e : k = len := by omega
      subst e
      by_cases h1 : 1 ≤ k
      · have h1' : (1 : Int) ≤ (k : Int) := by omega
        by_cases h2 : k ≤ 20
        · have h2' : (k : Int) ≤ 20 := by omega
          go_wp2
          go_ret
          exact ⟨ret_bool (by rw [progB_true ⟨h1, h2, HA.out⟩]), HB.out⟩
        · have h2' : ¬ (k : Int) ≤ 20 := by omega
          go_wp2
          go_ret
          exact ⟨ret_bool (by rw [progB_false (fun h => h2 h.2.1)]), HB.out⟩
      · have h1' : ¬ (1 : Int) ≤ (k : Int) := by omega
        go_wp2
        go_ret
        exact ⟨ret_bool (by rw [progB_false (fun h => h1 h.1)]), HB.out⟩

set_option maxHeartbeats 1000000 in
theorem implProgOk_any (g len cap : Nat) (K N M : Nat → Int) (S : Nat → ByteArray) (w : World) (hl : len ≤ 1048576) (hs : ∀ i, i < len → (S i).size ≤ 1048576) (hr : OpsAt w g len K N M S) :
    Calls Tryz.prog 9 #[.slice (some ⟨g, 0, none⟩) len cap] w fun e w' => e = .returned (.bool (progB len K N M S)) ∧ Below w.heap.size w w' := by
  have HR : Hid (OpsAt w g len K N M S) := hr
  have HS : Hid (∀ i, i < len → (S i).size ≤ 1048576) := hs
  clear hr hs
  by_cases h1 : ¬ 1 ≤ len
  · have h1' : (len : Int) < 1 := by omega
    go_enter Tryz.func9, Tryz.ntmps9
    go_wp2
    go_ret
    exact ⟨ret_bool (progB_false (fun h => h1 h.1)).symm, Below.refl _ _⟩
  have h1' : ¬ (len : Int) < 1 := by omega
  by_cases h2 : 20 < len
  · have h2' : (20 : Int) < (len : Int) := by omega
    go_enter Tryz.func9, Tryz.ntmps9
    go_wp2
    go_ret
    exact ⟨ret_bool (progB_false (fun h => by omega)).symm, Below.refl _ _⟩
  have h2' : ¬ (20 : Int) < (len : Int) := by omega
  go_enter Tryz.func9, Tryz.ntmps9
  go_wp2_with fail
  go_loopw [15] (fun i wr => ∃ k : Nat, k ≤ len ∧ i = .int .i64 k ∧ (∀ j, j < k → opAtB K N M S j = true) ∧ Below w.heap.size w wr) (fun i _ => len - (intOf i).toNat)
  case atStart => exact ⟨0, Nat.zero_le _, rfl, fun j hj => absurd hj (by omega), Below.refl _ _⟩
  case round =>
    obtain ⟨k, hk, rfl, hall, hbel⟩ := hrel
    have HA : Hid (∀ j, j < k → opAtB K N M S j = true) := hall
    have HB : Hid (Below w.heap.size w wr) := hbel
    have HW : Hid (OpsAt wr g len K N M S) := HR.out.below hbel
    clear hall hbel
    by_cases hlt : k < len
    · have c0 := HW.out.c0 hlt
      have c1 := HW.out.c1 hlt
      have c2 := HW.out.c2 hlt
      have c3 := HW.out.c3 hlt
      have i0 : (0 : Int) ≤ (k : Int) := by omega
      have i1 : (k : Int) < (len : Int) := by omega
      have hgl := HW.out.1
      go_wp2_with fail
      refine (implOpOk_any (K k) (N k) (M k) (S k) _ (HS.out k hlt)).mono ?_
      rintro e w1 ⟨rfl, hb1⟩
      have HB1 : Hid (Below w.heap.size w w1) := (HB.out.alloc HB.out.size _).trans (hb1.mono (by have := HB.out.size; simp; omega))
      have HO : Hid (opB (K k) (N k) (M k) (S k) = opAtB K N M S k) := rfl
      rw [HO.out]
      clear hb1 c0 c1 c2 c3
      cases hop : opAtB K N M S k with
      | true =>
        have HP : Hid (opAtB K N M S k = true) := hop
        clear hop
        go_wp2
        go_roundw
        case rel => exact ⟨k + 1, by omega, by go_num, fun j hj => by
          by_cases e : j = k
          · subst e; exact HP.out
          · exact HA.out j (by omega), HB1.out⟩
        case measure => simp [intOf]; omega
      | false =>
        have HP : Hid (opAtB K N M S k = false) := hop
        clear hop
        go_wp2
        go_ret
        exact ⟨ret_bool (progB_false (fun h => by have := h.2.2 k hlt; rw [HP.out] at this; cases this)).symm, HB1.out⟩
    · have e : k = len := by omega
      subst e
      go_wp2
      go_ret
      exact ⟨ret_bool (progB_true ⟨by omega, by omega, HA.out⟩).symm, HB.out⟩

end Go.Proofs.YtlaeilcipibelaaGreatDoor
