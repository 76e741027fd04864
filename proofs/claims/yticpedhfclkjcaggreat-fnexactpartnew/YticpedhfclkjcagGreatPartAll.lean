/- The things of a shelf in order: the sorted keys of its map. -/
import Derived.Test.YticpedhfclkjcagGreatPartShelf
import Derived.Test.YticpedhfclkjcagGreatPartLay
import Derived.Maps.RangeWalk
namespace Go.Proofs
open Go.RowKit Go.Maps Go.Sort Go.Shelf


theorem Tryz.sortsA (m : Nat) : AnyZI.SortsIn Tryz.prog Tryz.sortedA_ren Fence.wide m :=
  ⟨fun blk off cap ss W hH hblk hsz => callsIn_wide.2 (AnyM.slices_Sort_int Tryz.sortA blk off cap ss W hH hblk hsz),
   fun p cap W => callsIn_wide.2 (AnyM.slices_Sort_int_none Tryz.sortA p cap W)⟩

theorem empty_owns {w : World} {b : Nat} (hb : w.heap[b]? = some (.map #[] 0)) : w.ownsMap (H := Unit) Tryz.prog 2 (fun _ => none) b 0 (.map []) := by
  exact ⟨#[], 0, hb, ⟨by simp, MapKept.stamped_empty 0, by simp⟩, by simp, by simp⟩

/-- The sorted keys of a map of nothing: none. -/
theorem sortedKeysProc_empty (Bm b : Nat) (W : World) (hBm : Bm < W.heap.size) (hc : W.cell? ⟨Bm, 0, none⟩ = some (.map (some b))) (hb : W.heap[b]? = some (.map #[] 0)) :
    Calls Tryz.prog 128 #[.func (.func 137) #[] #[.pointer (some ⟨Bm, 0, none⟩)]] W fun e w' => e = .returned (.slice none 0 0) ∧ Below W.heap.size W w' := by
  have hseq : SeqGives Fence.wide 2 Tryz.prog 137 #[.pointer (some ⟨Bm, 0, none⟩)] encZ (fun ss => ss.Perm (intKeys (H := Unit) (.map []))) (Maps.size (H := Unit) (.map [])) W :=
    AnyZI.keys_gives (ρ := Tryz.keysA_ren) { Tryz.keysA with } Fence.wide _ trivial rfl (by omega) Bm b 0 (.map []) W hBm hc (empty_owns hb)
  have cS := AnyZI.sorted_in Tryz.sortedA Fence.wide 5 trivial trivial trivial trivial rfl (by omega) (Tryz.sortsA _) (enters_of Tryz.func136 (by kernel_rfl) rfl) 137 #[.pointer (some ⟨Bm, 0, none⟩)] trivial (enters_of Tryz.func137 (by kernel_rfl) rfl) _ _ (by simp [Maps.size]) (by simp [Maps.size]) _ hseq
  change CallsIn _ _ Tryz.prog 128 _ _ _ at cS
  refine (callsIn_wide.1 cS).mono ?_
  rintro e w' ⟨v, ss, rfl, hS, hrow, hnil, hbel⟩
  have hss : ss = [] := by simpa [intKeys] using hS
  have := hnil.2 hss
  subst this
  exact ⟨rfl, hbel⟩

set_option maxHeartbeats 1000000 in
theorem allProc_empty (most : Int) (b : Nat) (w : World) (hb : w.heap[b]? = some (.map #[] 0)) :
    Calls Tryz.prog 115 #[.agg #[.int .i64 most, .map (some b)]] w fun e w' => e = .returned (.slice none 0 0) ∧ Below w.heap.size w w' := by
  have hbl : b < w.heap.size := (Array.getElem?_eq_some_iff.1 hb).1
  have cK : ∀ mb W, Calls Tryz.prog 129 #[.map mb] W fun e w' => e = .returned (.func (.func 137) #[] #[.pointer (some ⟨W.heap.size, 0, none⟩)]) ∧ w' = W.alloc (.cells #[.map mb] 93) := fun mb W => (callsIn_wide (n := 5)).1 (AnyZI.keys_in Tryz.keysA Fence.wide 5 trivial rfl mb W)
  go_enter Tryz.func115, Tryz.ntmps115
  have HB : Hid (w.heap[b]? = some (.map #[] 0)) := hb
  clear hb
  go_wp2_with (go_at_call 129; refine (cK _ _).mono ?_; rintro e w' ⟨rfl, rfl⟩)
  refine (sortedKeysProc_empty (w.heap.size + 1) b _ (by simp) (by simp) ((heap_alloc_old _ _ (by simp; omega)).trans ((heap_alloc_old _ _ (by omega)).trans HB.out))).mono ?_
  rintro e w2 ⟨rfl, hb2⟩
  have HB2 : Hid (Below w.heap.size w w2) := (((Below.refl _ w).alloc (Nat.le_refl _) _).alloc (by simp) _).trans (hb2.mono (by simp; omega))
  clear hb2
  go_wp2_with fail
  go_loop [3, 11] (fun l i => i = .int .i64 0 ∧ l = .slice none 0 0) (fun _ _ => 0)
  case atStart => exact ⟨rfl, rfl⟩
  case round =>
    obtain ⟨rfl, rfl⟩ := hrel
    go_wp2
    go_ret
    exact ⟨rfl, HB2.out⟩

/-- No process takes a turn twice where there is none. -/
theorem turnsOk_empty (o b : Nat) (cs : Array Value) (w : World) (ho : w.heap[o]? = some (.cells cs 112 (0, 0))) (h2 : cs[2]? = some (.int .i64 6)) (h3 : cs[3]? = some (.map (some b))) (hb : w.heap[b]? = some (.map #[] 0)) :
    Calls Tryz.prog 83 #[.pointer (some ⟨o, 0, none⟩)] w fun e w' => e = .returned (.bool true) ∧ Below w.heap.size w w' := by
  have hmk := run_makeMap (P := Tryz.prog) 186
  have c2 : w.cell? ⟨o, 2, none⟩ = some (.int .i64 6) := by simp [World.cell?, ho, h2]
  have c3 : w.cell? ⟨o, 3, none⟩ = some (.map (some b)) := by simp [World.cell?, ho, h3]
  have hol : o < w.heap.size := (Array.getElem?_eq_some_iff.1 ho).1
  have hbl : b < w.heap.size := (Array.getElem?_eq_some_iff.1 hb).1
  have HB : Hid (w.heap[b]? = some (.map #[] 0)) := hb
  clear hb ho h2 h3
  go_enter Tryz.func83, Tryz.ntmps83
  go_wp2_with fail
  refine (allProc_empty 6 b _ ((heap_alloc_old _ _ hbl).trans HB.out)).mono ?_
  rintro e w2 ⟨rfl, hb2⟩
  have HB2 : Hid (Below w.heap.size w w2) := ((Below.refl _ w).alloc (Nat.le_refl _) _).trans (hb2.mono (by simp))
  clear hb2
  go_wp2_with fail
  go_loop [13] (fun i => i = .int .i64 0) (fun _ => 0)
  case atStart => rfl
  case round =>
    subst hrel
    go_wp2
    go_ret
    exact ⟨rfl, HB2.out⟩

theorem waitsOk_empty (o b : Nat) (cs : Array Value) (w : World) (ho : w.heap[o]? = some (.cells cs 112 (0, 0))) (h2 : cs[2]? = some (.int .i64 6)) (h3 : cs[3]? = some (.map (some b))) (hb : w.heap[b]? = some (.map #[] 0)) :
    Calls Tryz.prog 84 #[.pointer (some ⟨o, 0, none⟩)] w fun e w' => e = .returned (.bool true) ∧ Below w.heap.size w w' := by
  have c2 : w.cell? ⟨o, 2, none⟩ = some (.int .i64 6) := by simp [World.cell?, ho, h2]
  have c3 : w.cell? ⟨o, 3, none⟩ = some (.map (some b)) := by simp [World.cell?, ho, h3]
  have HB : Hid (w.heap[b]? = some (.map #[] 0)) := hb
  clear hb ho h2 h3
  go_enter Tryz.func84, Tryz.ntmps84
  go_wp2_with fail
  refine (allProc_empty 6 b _ HB.out).mono ?_
  rintro e w2 ⟨rfl, hb2⟩
  have HB2 : Hid (Below w.heap.size w w2) := hb2
  clear hb2
  go_wp2_with fail
  go_loop [11] (fun i => i = .int .i64 0) (fun _ => 0)
  case atStart => rfl
  case round =>
    subst hrel
    go_wp2
    go_ret
    exact ⟨rfl, HB2.out⟩

/-- A range over a map of nothing: its first step says no. -/
theorem next_empty (W : World) (r b : Nat) (ty : TypeId) (hr : W.heap[r]? = some (.mapIter (some b) 0 #[] 0)) (hb : W.heap[b]? = some (.map #[] 0)) :
    (Instr.next (.pointer (some ⟨r, 0, none⟩)) false ty).run Tryz.prog W = .ok (.tuple #[.bool false]) W := by
  rcases run_next_at (P := Tryz.prog) W ty r b 0 0 #[] #[] 0 hr hb (by simp) (by omega) with ⟨_, h⟩ | ⟨e, he, _⟩
  · exact h
  · simp [leftOf] at he

set_option maxRecDepth 100000 in
set_option maxHeartbeats 1000000 in
theorem ownLists_empty (o b b1 b2 : Nat) (cs : Array Value) (w : World) (ho : w.heap[o]? = some (.cells cs 112 (0, 0))) (h3 : cs[3]? = some (.map (some b))) (h11 : cs[11]? = some (.map (some b1))) (h13 : cs[13]? = some (.map (some b2))) (hb : w.heap[b]? = some (.map #[] 0)) (hb1 : w.heap[b1]? = some (.map #[] 0)) (hb2 : w.heap[b2]? = some (.map #[] 0)) :
    Calls Tryz.prog 85 #[.pointer (some ⟨o, 0, none⟩)] w fun e w' => e = .returned (.tuple #[]) ∧ Below w.heap.size w w' := by
  have c3 : w.cell? ⟨o, 3, none⟩ = some (.map (some b)) := by simp [World.cell?, ho, h3]
  have c11 : w.cell? ⟨o, 11, none⟩ = some (.map (some b1)) := by simp [World.cell?, ho, h11]
  have c13 : w.cell? ⟨o, 13, none⟩ = some (.map (some b2)) := by simp [World.cell?, ho, h13]
  have r0 := run_range_map (P := Tryz.prog) w 93 2 170 b #[] 0 Tryz.underlying93 hb
  have HB : Hid (w.heap[b]? = some (.map #[] 0) ∧ w.heap[b1]? = some (.map #[] 0) ∧ w.heap[b2]? = some (.map #[] 0)) := ⟨hb, hb1, hb2⟩
  clear hb hb1 hb2 ho h3 h11 h13
  go_enter Tryz.func85, Tryz.ntmps85
  have hol : o < w.heap.size := block_lt_of_cell c3
  have n0 := next_empty (w.alloc (.mapIter (some b) 0 #[] 0)) w.heap.size b 0 (heap_alloc_new _ _) ((heap_alloc_old _ _ (Array.getElem?_eq_some_iff.1 HB.out.1).1).trans HB.out.1)
  have q1 : (w.alloc (.mapIter (some b) 0 #[] 0)).heap[b1]? = some (.map #[] 0) := (heap_alloc_old _ _ (Array.getElem?_eq_some_iff.1 HB.out.2.1).1).trans HB.out.2.1
  have q2 : (w.alloc (.mapIter (some b) 0 #[] 0)).heap[b2]? = some (.map #[] 0) := (heap_alloc_old _ _ (Array.getElem?_eq_some_iff.1 HB.out.2.2).1).trans HB.out.2.2
  have d11 : (w.alloc (.mapIter (some b) 0 #[] 0)).cell? ⟨o, 11, none⟩ = some (.map (some b1)) := (World.cell?_alloc_past _ o 11 hol).trans c11
  have d13 : (w.alloc (.mapIter (some b) 0 #[] 0)).cell? ⟨o, 13, none⟩ = some (.map (some b2)) := (World.cell?_alloc_past _ o 13 hol).trans c13
  have g1 : Below w.heap.size w (w.alloc (.mapIter (some b) 0 #[] 0)) := (Below.refl _ _).alloc (Nat.le_refl _) _
  have HW1 : Hid ((w.alloc (.mapIter (some b) 0 #[] 0)).heap[b1]? = some (.map #[] 0) ∧ (w.alloc (.mapIter (some b) 0 #[] 0)).heap[b2]? = some (.map #[] 0) ∧ Below w.heap.size w (w.alloc (.mapIter (some b) 0 #[] 0))) := ⟨q1, q2, g1⟩
  have hol1 : o < (w.alloc (.mapIter (some b) 0 #[] 0)).heap.size := by simp; omega
  clear q1 q2 g1 HB
  go_wp2_with fail
  clear c3 c11 c13 r0 hol
  generalize w.alloc (.mapIter (some b) 0 #[] 0) = W1 at *
  have r1 := run_range_map (P := Tryz.prog) W1 105 2 190 b1 #[] 0 Tryz.underlying105 HW1.out.1
  have n1 := next_empty (W1.alloc (.mapIter (some b1) 0 #[] 0)) W1.heap.size b1 0 (heap_alloc_new _ _) ((heap_alloc_old _ _ (Array.getElem?_eq_some_iff.1 HW1.out.1).1).trans HW1.out.1)
  have e13 : (W1.alloc (.mapIter (some b1) 0 #[] 0)).cell? ⟨o, 13, none⟩ = some (.map (some b2)) := (World.cell?_alloc_past _ o 13 hol1).trans d13
  have HW2 : Hid ((W1.alloc (.mapIter (some b1) 0 #[] 0)).heap[b2]? = some (.map #[] 0) ∧ Below w.heap.size w (W1.alloc (.mapIter (some b1) 0 #[] 0))) := ⟨(heap_alloc_old _ _ (Array.getElem?_eq_some_iff.1 HW1.out.2.1).1).trans HW1.out.2.1, HW1.out.2.2.alloc HW1.out.2.2.size _⟩
  go_loop [3] (fun _ => True) (fun _ => 0)
  case atStart => trivial
  case round =>
    go_wp2_with fail
    clear d11 d13 r1 n0 hol1
    generalize W1.alloc (.mapIter (some b1) 0 #[] 0) = W2 at *
    have r2 := run_range_map (P := Tryz.prog) W2 108 2 191 b2 #[] 0 Tryz.underlying108 HW2.out.1
    have n2 := next_empty (W2.alloc (.mapIter (some b2) 0 #[] 0)) W2.heap.size b2 0 (heap_alloc_new _ _) ((heap_alloc_old _ _ (Array.getElem?_eq_some_iff.1 HW2.out.1).1).trans HW2.out.1)
    have HW3 : Hid (Below w.heap.size w (W2.alloc (.mapIter (some b2) 0 #[] 0))) := HW2.out.2.alloc HW2.out.2.size _
    go_loop [5] (fun _ => True) (fun _ => 0)
    case atStart => trivial
    case round =>
      go_wp2_with fail
      generalize W2.alloc (.mapIter (some b2) 0 #[] 0) = W3 at *
      go_loop [7] (fun _ => True) (fun _ => 0)
      case atStart => trivial
      case round =>
        go_wp2
        go_end0
        exact ⟨rfl, HW3.out⟩

end Go.Proofs
