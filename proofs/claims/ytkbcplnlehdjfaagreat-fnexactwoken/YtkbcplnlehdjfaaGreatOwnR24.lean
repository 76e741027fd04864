/- What the proof leans on, part 24: LwBuffer, MkB. -/
import Derived.Test.YtkbcplnlehdjfaaGreatOwnR1
import Derived.Test.YtkbcplnlehdjfaaGreatOwnR20
import Derived.Test.YtkbcplnlehdjfaaGreatOwnR21

namespace Go.Proofs.YtkbcplnlehdjfaaGreat
open Go.RowKit
attribute [local go_sem ↓] Go.wp_at_zero Go.wp_at_succ
set_option maxHeartbeats 2000000 in
theorem szBuffer_l (x : BufferD) (left : Int) (w : World) (hb : (x.items.length ≤ maxLen ∧ ∀ s ∈ x.items, s.size ≤ maxLen)) (hc : strK.Came w x.itemsA x.items) (h0 : 0 ≤ left) (h1 : left ≤ 1048576) :
  Calls Tryz.prog 191 #[.agg #[.int .i64 x.id, .int .i64 x.max, .slice x.itemsA x.items.length x.itemsC], .int .i64 left] w fun e w' => SzEnds w left (x.items.length) ((x.items.length ≤ 1048576 ∧ ∀ s ∈ x.items, s.size ≤ 1048576)) e w' := by
 have HB : Hid ((x.items.length ≤ maxLen ∧ ∀ s ∈ x.items, s.size ≤ maxLen)) := hb
 have HC : Hid (strK.Came (w.alloc (.cells #[.int .i64 x.id, .int .i64 x.max, .slice x.itemsA x.items.length x.itemsC] 239)) x.itemsA x.items) := hc.below ((Below.refl _ _).alloc (Nat.le_refl _) _)
 clear hc
 have HW : Hid (Below w.heap.size w (w.alloc (.cells #[.int .i64 x.id, .int .i64 x.max, .slice x.itemsA x.items.length x.itemsC] 239))) := (Below.refl _ _).alloc (Nat.le_refl _) _
 clear hb
 go_enter Tryz.func191, Tryz.ntmps191
 have HX : Hid ((w.alloc (.cells #[.int .i64 x.id, .int .i64 x.max, .slice x.itemsA x.items.length x.itemsC] 239)).heap[w.heap.size]? = some (.cells #[.int .i64 x.id, .int .i64 x.max, .slice x.itemsA x.items.length x.itemsC] 239 (0, 0))) := heap_alloc_new _ _
 go_wp2_with fail
 generalize w.alloc (.cells #[.int .i64 x.id, .int .i64 x.max, .slice x.itemsA x.items.length x.itemsC] 239) = W at *
 refine (szSStr_l x.itemsA x.items x.itemsC left W HB.out.1 HC.out HB.out.2 h0 h1).mono ?_
 rintro e w1 ⟨r1, rfl, q0, q1, q2, hb1⟩
 have HB1 : Hid (Below w.heap.size w w1) := HW.out.trans (hb1.mono HW.out.size)
 have HX1 : Hid (w1.heap[w.heap.size]? = some (.cells #[.int .i64 x.id, .int .i64 x.max, .slice x.itemsA x.items.length x.itemsC] 239 (0, 0))) := (hb1.block _ (Array.getElem?_eq_some_iff.1 HX.out).1).trans HX.out
 have HQ : Hid (0 ≤ r1 → (x.items.length ≤ 1048576 ∧ ∀ s ∈ x.items, s.size ≤ 1048576) ∧ r1 + (x.items.length : Nat) ≤ left) := q2
 clear hb1 HX q2
 by_cases hn : r1 < 0
 ·go_wp2
  go_ret
  exact szEnds_no HB1.out h0
 go_wp2
 go_ret
 exact ⟨r1, rfl, by omega, by omega, fun _ => HQ.out (by omega), HB1.out⟩
set_option maxHeartbeats 2000000 in
theorem szSBuffer_l (a : Option Addr) (l : List BufferD) (cap : Nat) (left : Int) (w : World) (hl : l.length ≤ maxLen) (hc : bufferK.Came w a l) (hs : ∀ x ∈ l, (x.items.length ≤ maxLen ∧ ∀ s ∈ x.items, s.size ≤ maxLen)) (h0 : 0 ≤ left) (h1 : left ≤ 1048576) :
  Calls Tryz.prog 111 #[.slice a l.length cap, .int .i64 left] w fun e w' => SzEnds w left (l.length + sumL (fun x : BufferD => x.items.length) l) (l.length ≤ 1048576 ∧ ∀ x ∈ l, (x.items.length ≤ 1048576 ∧ ∀ s ∈ x.items, s.size ≤ 1048576)) e w' := by
 have hl' := hl
 unfold maxLen at hl'
 by_cases hn : left - (l.length : Int) < 0
 ·go_enter Tryz.func111, Tryz.ntmps111
  go_wp2
  go_ret
  exact szEnds_no (Below.refl _ _) h0
 have HC : Hid (bufferK.Came w a l ∧ ∀ x ∈ l, (x.items.length ≤ maxLen ∧ ∀ s ∈ x.items, s.size ≤ maxLen)) := ⟨hc, hs⟩
 clear hc hs hl
 go_enter Tryz.func111, Tryz.ntmps111
 go_wp2_with fail
 go_loopw [1, 5] (fun q i wr => ∃ (k : Nat) (r : Int), k ≤ l.length ∧ i = .int .i64 k ∧ q = .int .i64 r ∧ 0 ≤ r ∧ r ≤ left - (l.length : Int) ∧ Hid ((∀ x ∈ l.take k, (x.items.length ≤ 1048576 ∧ ∀ s ∈ x.items, s.size ≤ 1048576)) ∧ r + (sumL (fun x : BufferD => x.items.length) (l.take k) : Nat) ≤ left - (l.length : Int) ∧ Below w.heap.size w wr)) (fun _ i _ => l.length - (intOf i).toNat)
 case atStart => exact ⟨0, left - (l.length : Int), Nat.zero_le _, rfl, rfl, by omega, by omega, ⟨by simp, by simp [sumL], Below.refl _ _⟩⟩
 case round =>
  obtain ⟨k, r, hk, rfl, rfl, r0, r1, HA⟩ := hrel
  by_cases hlt : k < l.length
  ·have i0 : (0 : Int) ≤ (k : Int) := by omega
   have i1 : (k : Int) < (l.length : Int) := by omega
   obtain ⟨x, hx⟩ : ∃ x, l[k]? = some x := ⟨_, List.getElem?_eq_getElem hlt⟩
   have hmem := List.mem_of_getElem? hx
   obtain ⟨b, off, rfl, hat⟩ := (HC.out.1.below HA.out.2.2).at hx
   have c0 : wr.cell? ⟨b, off + k * 3, none⟩ = some (.int .i64 x.id) := hat 0 _ rfl
   have c1 : wr.cell? ⟨b, off + k * 3 + 1, none⟩ = some (.int .i64 x.max) := hat 1 _ rfl
   have c2 : wr.cell? ⟨b, off + k * 3 + 2, none⟩ = some (.slice x.itemsA x.items.length x.itemsC) := hat 2 _ rfl
   have HX : Hid (l[k]? = some x ∧ (x.items.length ≤ maxLen ∧ ∀ s ∈ x.items, s.size ≤ maxLen)) := ⟨hx, HC.out.2 x hmem⟩
   have HK : Hid (strK.Came wr x.itemsA x.items) := ⟨((HC.out.1.below HA.out.2.2).kid hx (r := (x.itemsA, strK.flat x.items)) (by simp [bufferK])), fun y _ r hr => by simp [strK] at hr⟩
   clear hx hmem hat
   go_wp2_with fail
   refine (szBuffer_l x r wr HX.out.2 HK.out r0 (by omega)).mono ?_
   rintro e w1 ⟨r2, rfl, q0, q1, q2, hb1⟩
   have HB1 : Hid (Below w.heap.size w w1 ∧ (0 ≤ r2 → (x.items.length ≤ 1048576 ∧ ∀ s ∈ x.items, s.size ≤ 1048576) ∧ r2 + (x.items.length : Nat) ≤ r)) := ⟨HA.out.2.2.trans (hb1.mono HA.out.2.2.size), q2⟩
   clear hb1 q2 c0 c1 c2
   by_cases hneg : r2 < 0
   ·go_wp2
    go_ret
    exact szEnds_no HB1.out.1 h0
   go_wp2
   go_roundw
   case rel => exact ⟨k + 1, r2, by omega, by go_num, rfl, by omega, by omega, ⟨all_up HX.out.1 HA.out.1 (HB1.out.2 (by omega)).1, by rw [sumL_up HX.out.1]; have h5 := (HB1.out.2 (by omega)).2; have h6 := HA.out.2.1; omega, HB1.out.1⟩⟩
   case measure => simp [intOf]; omega
  ·have i1 : ¬ (k : Int) < (l.length : Int) := by omega
   go_wp2
   go_ret
   exact ⟨r, rfl, by omega, by omega, fun _ => ⟨⟨by omega, all_end (by omega) HA.out.1⟩, by have h5 := HA.out.2.1; rw [List.take_of_length_le (by omega)] at h5; omega⟩, HA.out.2.2⟩
set_option maxRecDepth 100000 in
set_option maxHeartbeats 4000000 in
theorem toBuffer_l (x : BufferD) (w : World) (hl : x.items.length ≤ 1048576) (hc : strK.Came w x.itemsA x.items) :
  Calls Tryz.prog 195 #[.agg #[.int .i64 x.id, .int .i64 x.max, .slice x.itemsA x.items.length x.itemsC]] w fun e w' => ∃ a c, e = .returned (.agg (bufferVs (bufferN.set x a c))) ∧ bufferN.Mine w' (w.heap.size + 1) (bufferN.set x a c) ∧ Below w.heap.size w w' := by
 have HB : Hid (Below w.heap.size w (((w.alloc (.cells #[.int .i64 x.id, .int .i64 x.max, .slice x.itemsA x.items.length x.itemsC] 239)).alloc (.cells #[.int .i64 0, .int .i64 0, .slice none 0 0] 144)).alloc (.cells #[.int .i64 x.id, .int .i64 x.max, .slice none 0 0] 144))) := alloc3_below _ _ _ _
 have HC : Hid (strK.Came (((w.alloc (.cells #[.int .i64 x.id, .int .i64 x.max, .slice x.itemsA x.items.length x.itemsC] 239)).alloc (.cells #[.int .i64 0, .int .i64 0, .slice none 0 0] 144)).alloc (.cells #[.int .i64 x.id, .int .i64 x.max, .slice none 0 0] 144)) x.itemsA x.items ∧ x.items.length ≤ 1048576) := ⟨hc.below HB.out, hl⟩
 have HX : Hid ((((w.alloc (.cells #[.int .i64 x.id, .int .i64 x.max, .slice x.itemsA x.items.length x.itemsC] 239)).alloc (.cells #[.int .i64 0, .int .i64 0, .slice none 0 0] 144)).alloc (.cells #[.int .i64 x.id, .int .i64 x.max, .slice none 0 0] 144)).heap[w.heap.size]? = some (.cells #[.int .i64 x.id, .int .i64 x.max, .slice x.itemsA x.items.length x.itemsC] 239 (0, 0)) ∧ (((w.alloc (.cells #[.int .i64 x.id, .int .i64 x.max, .slice x.itemsA x.items.length x.itemsC] 239)).alloc (.cells #[.int .i64 0, .int .i64 0, .slice none 0 0] 144)).alloc (.cells #[.int .i64 x.id, .int .i64 x.max, .slice none 0 0] 144)).heap[w.heap.size + 1]? = some (.cells #[.int .i64 0, .int .i64 0, .slice none 0 0] 144 (0, 0)) ∧ (((w.alloc (.cells #[.int .i64 x.id, .int .i64 x.max, .slice x.itemsA x.items.length x.itemsC] 239)).alloc (.cells #[.int .i64 0, .int .i64 0, .slice none 0 0] 144)).alloc (.cells #[.int .i64 x.id, .int .i64 x.max, .slice none 0 0] 144)).heap[w.heap.size + 1 + 1]? = some (.cells #[.int .i64 x.id, .int .i64 x.max, .slice none 0 0] 144 (0, 0)) ∧ (((w.alloc (.cells #[.int .i64 x.id, .int .i64 x.max, .slice x.itemsA x.items.length x.itemsC] 239)).alloc (.cells #[.int .i64 0, .int .i64 0, .slice none 0 0] 144)).alloc (.cells #[.int .i64 x.id, .int .i64 x.max, .slice none 0 0] 144)).heap.size = w.heap.size + 1 + 1 + 1) := alloc3_facts _ _ _ _
 clear hl hc
 go_enter Tryz.func195, Tryz.ntmps195
 go_wp2_with fail
 generalize ((w.alloc (.cells #[.int .i64 x.id, .int .i64 x.max, .slice x.itemsA x.items.length x.itemsC] 239)).alloc (.cells #[.int .i64 0, .int .i64 0, .slice none 0 0] 144)).alloc (.cells #[.int .i64 x.id, .int .i64 x.max, .slice none 0 0] 144) = W at *
 refine (toSStr_l x.itemsA x.items x.itemsC W HC.out.2 HC.out.1).mono ?_
 rintro e w1 ⟨rfl, hown, hb1⟩
 have HM : Hid (bufferN.Mine w1 W.heap.size (bufferN.set x (some ⟨W.heap.size, 0, none⟩) x.items.length) ∧ Below w.heap.size w w1) := ⟨Nest.mine_set (N := bufferN) hown, HB.out.trans (hb1.mono HB.out.size)⟩
 have y0 : w1.heap[w.heap.size]? = some (.cells #[.int .i64 x.id, .int .i64 x.max, .slice x.itemsA x.items.length x.itemsC] 239 (0, 0)) := (hb1.block _ (by have := HX.out.2.2.2; omega)).trans HX.out.1
 have y1 : w1.heap[w.heap.size + 1]? = some (.cells #[.int .i64 0, .int .i64 0, .slice none 0 0] 144 (0, 0)) := (hb1.block _ (by have := HX.out.2.2.2; omega)).trans HX.out.2.1
 have y2 : w1.heap[w.heap.size + 1 + 1]? = some (.cells #[.int .i64 x.id, .int .i64 x.max, .slice none 0 0] 144 (0, 0)) := (hb1.block _ (by have := HX.out.2.2.2; omega)).trans HX.out.2.2.1
 have t0 : w1.cell? ⟨w.heap.size + 1 + 1, 0, none⟩ = some (.int .i64 x.id) := by simp [World.cell?, y2]
 have u0 : w1.frozen? ⟨w.heap.size + 1 + 1, 0, none⟩ = false := by simp [World.frozen?, y2]
 have o0 : w1.cell? ⟨w.heap.size + 1, 0, none⟩ = some (.int .i64 0) := by simp [World.cell?, y1]
 have p0 : w1.frozen? ⟨w.heap.size + 1, 0, none⟩ = false := by simp [World.frozen?, y1]
 have t1 : w1.cell? ⟨w.heap.size + 1 + 1, 1, none⟩ = some (.int .i64 x.max) := by simp [World.cell?, y2]
 have u1 : w1.frozen? ⟨w.heap.size + 1 + 1, 1, none⟩ = false := by simp [World.frozen?, y2]
 have o1 : w1.cell? ⟨w.heap.size + 1, 1, none⟩ = some (.int .i64 0) := by simp [World.cell?, y1]
 have p1 : w1.frozen? ⟨w.heap.size + 1, 1, none⟩ = false := by simp [World.frozen?, y1]
 have t2 : w1.cell? ⟨w.heap.size + 1 + 1, 2, none⟩ = some (.slice none 0 0) := by simp [World.cell?, y2]
 have u2 : w1.frozen? ⟨w.heap.size + 1 + 1, 2, none⟩ = false := by simp [World.frozen?, y2]
 have o2 : w1.cell? ⟨w.heap.size + 1, 2, none⟩ = some (.slice none 0 0) := by simp [World.cell?, y1]
 have p2 : w1.frozen? ⟨w.heap.size + 1, 2, none⟩ = false := by simp [World.frozen?, y1]
 clear y0 y1 y2 hb1 hown
 dsimp only
 go_wp2
 refine bodyPost_ret (v := .agg #[.int .i64 x.id, .int .i64 x.max, .slice (some ⟨W.heap.size, 0, none⟩) x.items.length x.items.length]) (by simp [results, Tryz.results195, go_sem, *]) rfl ?_
 have hX := HX.out.2.2.2
 have h7 : Below w.heap.size w (setAllW (setAllW w1 (w.heap.size + 1 + 1) 2 [.slice (some ⟨W.heap.size, 0, none⟩) x.items.length x.items.length]) (w.heap.size + 1) 0 [.int .i64 x.id, .int .i64 x.max, .slice (some ⟨W.heap.size, 0, none⟩) x.items.length x.items.length]) := setAllW_below _ (by omega) (setAllW_below _ (by omega) HM.out.2)
 have h8 : bufferN.Mine (setAllW (setAllW w1 (w.heap.size + 1 + 1) 2 [.slice (some ⟨W.heap.size, 0, none⟩) x.items.length x.items.length]) (w.heap.size + 1) 0 [.int .i64 x.id, .int .i64 x.max, .slice (some ⟨W.heap.size, 0, none⟩) x.items.length x.items.length]) (w.heap.size + 1) (bufferN.set x (some ⟨W.heap.size, 0, none⟩) x.items.length) := (HM.out.1.low (by omega)).same fun g hg => by
  have := (HM.out.1.lt hg).1
  exact (setAllW_other _ (by omega)).trans (setAllW_other _ (by omega))
 simp only [setAllW, Nat.reduceAdd, Nat.zero_add] at h7 h8
 exact ⟨_, _, rfl, h8, h7⟩
theorem infoBuffer : (Tryz.prog.info? 144).map (fun i => (i.zero, i.size, decide (i.bytes ≤ 1000))) = some (some (.agg #[.int .i64 0, .int .i64 0, .slice none 0 0]), 3, true) := by kernel_rfl
theorem makeBuffer (n : Nat) (hn : n ≤ 1048576) (w : World) :
  (Instr.makeSlice 29 (.int .i64 (n : Int)) (.int .i64 (n : Int))).run Tryz.prog w = .ok (.slice (some ⟨w.heap.size, 0, none⟩) n n) (w.alloc (.cells (madeCells #[.int .i64 0, .int .i64 0, .slice none 0 0] (n * 3)) 144)) := by
 obtain ⟨i, hi, e⟩ := Option.map_eq_some_iff.1 infoBuffer
 simp only [Prod.mk.injEq, decide_eq_true_eq] at e
 obtain ⟨e1, e2, e3⟩ := e
 have hby : n * i.bytes ≤ 1048576 * 1000 := Nat.mul_le_mul hn e3
 have := run_make (P := Tryz.prog) w 29 144 i _ Tryz.underlying29 hi e1 .i64 .i64 n n (by omega) (by omega) (by rw [Nat.mul_comm] at hby; first | omega | (rw [Nat.mul_comm]; omega)) (by omega)
 rw [this, e2]
 simp [Value.cells]
set_option maxRecDepth 100000 in
set_option maxHeartbeats 4000000 in
theorem toSBuffer_l (a : Option Addr) (l : List BufferD) (cap : Nat) (w : World) (hl : l.length ≤ 1048576) (hk : ∀ x ∈ l, x.items.length ≤ 1048576) (hc : bufferK.Came w a l) :
  Calls Tryz.prog 117 #[.slice a l.length cap] w fun e w' => e = .returned (.slice (some ⟨w.heap.size, 0, none⟩) l.length l.length) ∧ ∃ out, CopyIs bufferN bufferK w w' l.length l out := by
 have hmk := makeBuffer l.length hl
 have HC : Hid (bufferK.Came w a l) := hc
 have HKL : Hid (∀ x ∈ l, x.items.length ≤ 1048576) := hk
 clear hk
 have HF : Hid (Fill bufferK 144 w (w.alloc (.cells (madeCells #[.int .i64 0, .int .i64 0, .slice none 0 0] (l.length * 3)) 144)) l.length []) := Fill.start (by rw [size_madeCells]; rfl)
 clear hc
 go_enter Tryz.func117, Tryz.ntmps117
 go_wp2_with fail
 go_loopw [4] (fun i wr => ∃ k : Nat, k ≤ l.length ∧ i = .int .i64 k ∧ ∃ out, Hid (FillN bufferN bufferK w wr l out k)) (fun i _ => l.length - (intOf i).toNat)
 case atStart => exact ⟨0, Nat.zero_le _, rfl, [], FillN.start HF.out⟩
 case round =>
  clear hmk HF
  obtain ⟨k, hk, rfl, out, HR⟩ := hrel
  by_cases hlt : k < l.length
  ·have i0 : (0 : Int) ≤ (k : Int) := by omega
   have i1 : (k : Int) < (l.length : Int) := by omega
   obtain ⟨x, hx⟩ : ∃ x, l[k]? = some x := ⟨_, List.getElem?_eq_getElem hlt⟩
   obtain ⟨b, off, rfl, hat⟩ := (HC.out.below HR.out.fill.bel).at hx
   have c0 : wr.cell? ⟨b, off + k * 3, none⟩ = some (.int .i64 x.id) := hat 0 _ rfl
   have c1 : wr.cell? ⟨b, off + k * 3 + 1, none⟩ = some (.int .i64 x.max) := hat 1 _ rfl
   have c2 : wr.cell? ⟨b, off + k * 3 + 2, none⟩ = some (.slice x.itemsA x.items.length x.itemsC) := hat 2 _ rfl
   have HX : Hid (l[k]? = some x) := hx
   have HK : Hid (strK.Came wr x.itemsA x.items ∧ x.items.length ≤ 1048576) := ⟨⟨((HC.out.below HR.out.fill.bel).kid hx (r := (x.itemsA, strK.flat x.items)) (by simp [bufferK])), fun y _ r hr => by simp [strK] at hr⟩, HKL.out x (List.mem_of_getElem? hx)⟩
   have hfl := HR.out.fill.lt
   clear hx hat
   go_wp2_with fail
   refine (toBuffer_l x wr HK.out.2 HK.out.1).mono ?_
   rintro e w1 ⟨a1, cp1, rfl, hmine, hb1⟩
   have HR1 : Hid (FillN bufferN bufferK w w1 l out k) := HR.out.below hb1
   have HB1 : Hid (wr.heap.size ≤ w1.heap.size) := hb1.size
   obtain ⟨⟨u, hu⟩, hf⟩ := HR1.out.fill.at
   have d0 := hu (k * 3) (by show k * 3 < l.length * 3; omega)
   have f0 := hf (k * 3)
   have d1 := hu (k * 3 + 1) (by show k * 3 + 1 < l.length * 3; omega)
   have f1 := hf (k * 3 + 1)
   have d2 := hu (k * 3 + 2) (by show k * 3 + 2 < l.length * 3; omega)
   have f2 := hf (k * 3 + 2)
   have h5 := HR1.out.more hlt HX.out (hmine.low (by have := hfl; omega)) (fun g hg => by have := (hmine.lt hg).1; omega) HR.out
   rw [show bufferK.vals (bufferN.set x a1 cp1) = [.int .i64 x.id, .int .i64 x.max, .slice a1 x.items.length cp1] from rfl, show bufferK.n = 3 from rfl] at h5
   simp only [setAllW, Nat.add_assoc, Nat.reduceAdd] at h5
   have HS : Hid (FillN bufferN bufferK w (((w1.setCell ⟨w.heap.size, k * 3, none⟩ (.int .i64 x.id)).setCell ⟨w.heap.size, k * 3 + 1, none⟩ (.int .i64 x.max)).setCell ⟨w.heap.size, k * 3 + 2, none⟩ (.slice a1 x.items.length cp1)) l (out ++ [bufferN.set x a1 cp1]) (k + 1)) := h5
   clear h5
   unfold bufferVs
   clear hu hf hb1 HR HR1 hmine c0 c1 c2
   go_wp2
   go_roundw
   case rel => exact ⟨k + 1, by omega, by go_num, _, HS.out⟩
   case measure => simp [intOf]; omega
  ·have i1 : ¬ (k : Int) < (l.length : Int) := by omega
   have ek : k = l.length := by omega
   subst ek
   go_wp2
   go_ret
   exact ⟨rfl, out, HR.out.done (by unfold maxLen; omega)⟩
set_option maxRecDepth 100000 in
set_option maxHeartbeats 4000000 in
theorem eqBuffer_l (x y : BufferD) (w : World) (hp : y.toBufferP = x.toBufferP) (hl : x.items.length ≤ 1048576) (hx : Row w x.itemsA (strK.flat x.items)) (hy : Row w y.itemsA (strK.flat y.items)) :
  Calls Tryz.prog 199 #[.agg #[.int .i64 x.id, .int .i64 x.max, .slice x.itemsA x.items.length x.itemsC], .agg #[.int .i64 y.id, .int .i64 y.max, .slice y.itemsA y.items.length y.itemsC]] w fun e w' => e = .returned (.bool true) ∧ Below w.heap.size w w' := by
 obtain ⟨p, xa, xc⟩ := x
 obtain ⟨p', ya, yc⟩ := y
 simp only at hp
 subst hp
 obtain ⟨v0, v1, v2⟩ := p'
 simp only at hl hx hy
 have HB : Hid (Below w.heap.size w ((w.alloc (.cells #[.int .i64 v0, .int .i64 v1, .slice xa v2.length xc] 144)).alloc (.cells #[.int .i64 v0, .int .i64 v1, .slice ya v2.length yc] 144))) := alloc2_below _ _ _
 have HR : Hid (Row ((w.alloc (.cells #[.int .i64 v0, .int .i64 v1, .slice xa v2.length xc] 144)).alloc (.cells #[.int .i64 v0, .int .i64 v1, .slice ya v2.length yc] 144)) xa (strK.flat v2) ∧ Row ((w.alloc (.cells #[.int .i64 v0, .int .i64 v1, .slice xa v2.length xc] 144)).alloc (.cells #[.int .i64 v0, .int .i64 v1, .slice ya v2.length yc] 144)) ya (strK.flat v2) ∧ v2.length ≤ 1048576) := ⟨hx.below HB.out, hy.below HB.out, hl⟩
 have HX : Hid (((w.alloc (.cells #[.int .i64 v0, .int .i64 v1, .slice xa v2.length xc] 144)).alloc (.cells #[.int .i64 v0, .int .i64 v1, .slice ya v2.length yc] 144)).heap[w.heap.size]? = some (.cells #[.int .i64 v0, .int .i64 v1, .slice xa v2.length xc] 144 (0, 0)) ∧ ((w.alloc (.cells #[.int .i64 v0, .int .i64 v1, .slice xa v2.length xc] 144)).alloc (.cells #[.int .i64 v0, .int .i64 v1, .slice ya v2.length yc] 144)).heap[w.heap.size + 1]? = some (.cells #[.int .i64 v0, .int .i64 v1, .slice ya v2.length yc] 144 (0, 0))) := alloc2_facts _ _ _
 clear hx hy hl
 go_enter Tryz.func199, Tryz.ntmps199
 go_wp2_with fail
 generalize (w.alloc (.cells #[.int .i64 v0, .int .i64 v1, .slice xa v2.length xc] 144)).alloc (.cells #[.int .i64 v0, .int .i64 v1, .slice ya v2.length yc] 144) = W at *
 refine (eqSStr_l xa ya v2 xc yc W HR.out.2.2 ⟨HR.out.1, fun _ _ r hr => by simp [strK] at hr⟩ ⟨HR.out.2.1, fun _ _ r hr => by simp [strK] at hr⟩).mono ?_
 rintro e w1 ⟨rfl, hb1⟩
 have HB1 : Hid (Below w.heap.size w w1) := HB.out.trans (hb1.mono HB.out.size)
 have x0 := (hb1.block _ (Array.getElem?_eq_some_iff.1 HX.out.1).1).trans HX.out.1
 have x1 := (hb1.block _ (Array.getElem?_eq_some_iff.1 HX.out.2).1).trans HX.out.2
 clear hb1 HX HR x0 x1
 go_wp2
 go_ret
 exact ⟨rfl, HB1.out⟩
def EqSBuffer (w : World) (a a' : Option Addr) (l l' : List BufferD) (x y : BufferD) (g g' k : Nat) (w' : World) : Prop := ((w'.cell? ⟨g, k * 3, none⟩ = some (.int .i64 x.id) ∧ w'.cell? ⟨g, k * 3 + 1, none⟩ = some (.int .i64 x.max) ∧ w'.cell? ⟨g, k * 3 + 2, none⟩ = some (.slice x.itemsA x.items.length x.itemsC)) ∧ (w'.cell? ⟨g', k * 3, none⟩ = some (.int .i64 y.id) ∧ w'.cell? ⟨g', k * 3 + 1, none⟩ = some (.int .i64 y.max) ∧ w'.cell? ⟨g', k * 3 + 2, none⟩ = some (.slice y.itemsA y.items.length y.itemsC))) ∧ Hid (bufferK.Lies w' a l ∧ bufferK.Lies w' a' l' ∧ Below w.heap.size w w')
theorem eqSBuffer_of {w w' : World} {a a' : Option Addr} {l l' : List BufferD} {x y : BufferD} {g g' k : Nat} (ha : a = some ⟨g, 0, none⟩) (ha' : a' = some ⟨g', 0, none⟩) (hx : l[k]? = some x) (hy : l'[k]? = some y) (h : bufferK.Lies w' a l ∧ bufferK.Lies w' a' l' ∧ Below w.heap.size w w') : EqSBuffer w a a' l l' x y g g' k w' := by
 obtain ⟨g1, e1, h1⟩ := h.1.at hx
 obtain ⟨g2, e2, h2⟩ := h.2.1.at hy
 rw [ha] at e1
 rw [ha'] at e2
 cases e1
 cases e2
 exact ⟨⟨⟨h1 0 _ rfl, h1 1 _ rfl, h1 2 _ rfl⟩, ⟨h2 0 _ rfl, h2 1 _ rfl, h2 2 _ rfl⟩⟩, h⟩
set_option maxRecDepth 100000 in
set_option maxHeartbeats 4000000 in
theorem eqSBuffer_l (a a' : Option Addr) (l l' : List BufferD) (cap cap' : Nat) (w : World) (hl : l.length ≤ 1048576) (hk : ∀ x ∈ l, x.items.length ≤ 1048576) (hp : l'.map (·.toBufferP) = l.map (·.toBufferP)) (h : bufferK.Lies w a l) (h' : bufferK.Lies w a' l') :
  Calls Tryz.prog 123 #[.slice a l.length cap, .slice a' l.length cap'] w fun e w' => e = .returned (.bool true) ∧ Below w.heap.size w w' := by
 have HL : Hid (bufferK.Lies w a l ∧ bufferK.Lies w a' l' ∧ (∀ x ∈ l, x.items.length ≤ 1048576) ∧ l'.map (·.toBufferP) = l.map (·.toBufferP)) := ⟨h, h', hk, hp⟩
 clear h h' hk hp
 go_enter Tryz.func123, Tryz.ntmps123
 go_wp2_with fail
 go_loopw [5] (fun i wr => ∃ k : Nat, k ≤ l.length ∧ i = .int .i64 k ∧ Hid (Below w.heap.size w wr)) (fun i _ => l.length - (intOf i).toNat)
 case atStart => exact ⟨0, Nat.zero_le _, rfl, Below.refl _ _⟩
 case round =>
  obtain ⟨k, hk, rfl, HB⟩ := hrel
  by_cases hlt : k < l.length
  ·have i0 : (0 : Int) ≤ (k : Int) := by omega
   have i1 : (k : Int) < (l.length : Int) := by omega
   obtain ⟨x, hx⟩ : ∃ x, l[k]? = some x := ⟨_, List.getElem?_eq_getElem hlt⟩
   obtain ⟨g, ha, -⟩ := HL.out.1.at hx
   obtain ⟨y, hy, hpy⟩ := map_same HL.out.2.2.2 hx
   obtain ⟨g', ha', -⟩ := HL.out.2.1.at hy
   have HX : Hid (a = some ⟨g, 0, none⟩ ∧ a' = some ⟨g', 0, none⟩ ∧ l[k]? = some x ∧ l'[k]? = some y ∧ y.toBufferP = x.toBufferP ∧ x.items.length ≤ 1048576) := ⟨ha, ha', hx, hy, hpy, HL.out.2.2.1 x (List.mem_of_getElem? hx)⟩
   have HS : Hid (EqSBuffer w a a' l l' x y g g' k wr) := eqSBuffer_of ha ha' hx hy ⟨HL.out.1.below HB.out, HL.out.2.1.below HB.out, HB.out⟩
   clear hx hy hpy
   rw [ha, ha']
   clear ha ha'
   go_wp2_with fail
   refine tame_region (EqSBuffer w a a' l l' x y g g' k) (by kernel_rfl) (eqSBuffer_of HX.out.1 HX.out.2.1 HX.out.2.2.1 HX.out.2.2.2.1 ⟨HS.out.2.out.1.below (Below.refl _ _).drew, HS.out.2.out.2.1.below (Below.refl _ _).drew, HS.out.2.out.2.2.drew⟩) ?_
   iterate 8 (refine yl (v := ?_) ?_ ?_; rotate_left; (intro w0 hS0; obtain ⟨⟨⟨q0, q1, q2⟩, ⟨r0, r1, r2⟩⟩, hH⟩ := hS0; go_simp; try with_reducible rfl); simp only [pt, sb, s0, s1])
   refine cl (.bool true) 199 #[.agg #[.int .i64 x.id, .int .i64 x.max, .slice x.itemsA x.items.length x.itemsC], .agg #[.int .i64 y.id, .int .i64 y.max, .slice y.itemsA y.items.length y.itemsC]] ?_ ?_ ?_
   ·intro w0 hS0
    obtain ⟨⟨⟨q0, q1, q2⟩, ⟨r0, r1, r2⟩⟩, hH⟩ := hS0
    go_simp
    try with_reducible rfl
   ·intro w0 hS0
    refine (eqBuffer_l x y w0 HX.out.2.2.2.2.1 HX.out.2.2.2.2.2 (hS0.2.out.1.kid HX.out.2.2.1 (r := (x.itemsA, strK.flat x.items)) (by simp [bufferK])) (hS0.2.out.2.1.kid HX.out.2.2.2.1 (r := (y.itemsA, strK.flat y.items)) (by simp [bufferK]))).mono ?_
    rintro e w2 ⟨rfl, hb2⟩
    exact ⟨rfl, eqSBuffer_of HX.out.1 HX.out.2.1 HX.out.2.2.1 HX.out.2.2.2.1 ⟨hS0.2.out.1.below hb2, hS0.2.out.2.1.below hb2, hS0.2.out.2.2.trans (hb2.mono hS0.2.out.2.2.size)⟩⟩
   simp only [pt, sb, s0, s1]
   (refine yl (v := ?_) ?_ ?_; rotate_left; (intro w0 hS0; obtain ⟨⟨⟨q0, q1, q2⟩, ⟨r0, r1, r2⟩⟩, hH⟩ := hS0; go_simp; try with_reducible rfl); simp only [pt, sb, s0, s1])
   refine tame_done (by kernel_rfl) ?_ _
   intro w1 hS1
   have HZ : Hid (Below w.heap.size w w1) := hS1.2.out.2.2
   clear hS1
   go_wp2
   go_roundw
   case rel => exact ⟨k + 1, by omega, by go_num, HZ.out⟩
   case measure => simp [intOf]; omega
  ·have i1 : ¬ (k : Int) < (l.length : Int) := by omega
   go_wp2
   go_ret
   exact ⟨rfl, HB.out⟩
end Go.Proofs.YtkbcplnlehdjfaaGreat

/- Lists that are marked, cell by cell, and read again: what all kinds have in common. -/
namespace Go.Proofs.YtkbcplnlehdjfaaGreat
open Go.RowKit
/-- All but some blocks are as they were. -/
structure KeptBut (w w' : World) (bs : List Nat) : Prop where
 os : w'.os = w.os
 tape : w'.tape = w.tape
 output : w'.output = w.output
 size : w.heap.size ≤ w'.heap.size
 same : ∀ g, g < w.heap.size → g ∉ bs → w'.heap[g]? = w.heap[g]?
section
variable {w w1 w2 : World} {bs bs' : List Nat}
theorem KeptBut.refl (w : World) (bs : List Nat) : KeptBut w w bs := ⟨rfl, rfl, rfl, Nat.le_refl _, fun _ _ _ => rfl⟩
theorem KeptBut.trans (h : KeptBut w w1 bs) (h' : KeptBut w1 w2 bs) : KeptBut w w2 bs :=
 ⟨h'.os.trans h.os, h'.tape.trans h.tape, h'.output.trans h.output, Nat.le_trans h.size h'.size, fun g hg hn => (h'.same g (Nat.lt_of_lt_of_le hg h.size) hn).trans (h.same g hg hn)⟩
theorem KeptBut.mono (h : KeptBut w w1 bs) (hs : ∀ g ∈ bs, g ∈ bs') : KeptBut w w1 bs' := ⟨h.os, h.tape, h.output, h.size, fun g hg hn => h.same g hg fun hm => hn (hs g hm)⟩
theorem KeptBut.of_below (h : Below w.heap.size w w1) : KeptBut w w1 bs := ⟨h.os, h.tape, h.output, h.size, fun g hg _ => h.block g hg⟩
theorem KeptBut.below {base : Nat} (h : KeptBut w w1 bs) (hb : base ≤ w.heap.size) (hs : ∀ g ∈ bs, base ≤ g) : Below base w w1 := ⟨h.os, h.tape, h.output, h.size, fun g hg => h.same g (by omega) fun hm => by have := hs g hm; omega⟩
theorem KeptBut.set {g off : Nat} (vs : List Value) (hg : g ∈ bs) : KeptBut w (setAllW w g off vs) bs :=
 have hb : ∀ (vs : List Value) (w : World) (off : Nat), (setAllW w g off vs).os = w.os ∧ (setAllW w g off vs).tape = w.tape ∧ (setAllW w g off vs).output = w.output := fun vs => by
  induction vs with
  | nil => exact fun _ _ => ⟨rfl, rfl, rfl⟩
  | cons v r ih => exact fun w off => ih (w.setCell ⟨g, off, none⟩ v) (off + 1)
 ⟨(hb vs w off).1, (hb vs w off).2.1, (hb vs w off).2.2, by rw [setAllW_size]; exact Nat.le_refl _, fun k _ hn => setAllW_other vs fun e => hn (by rw [e]; exact hg)⟩
end
theorem setAll_high : ∀ (vs : List Value) (cur : Array Value) (off j : Nat), off + vs.length ≤ j → (setAll cur off vs)[j]? = cur[j]?
 | [], _, _, _, _ => rfl
 | v :: r, cur, off, j, h => by
  simp only [List.length_cons] at h
  rw [setAll, setAll_high r _ _ _ (by omega), Array.getElem?_setIfInBounds_ne (by omega)]
section
variable {α : Type} {K : Kind α}
theorem Kind.flat_ext {xs : List Value} {l : List α} (hl : xs.length = l.length * K.n) (h : ∀ i y r, l[i]? = some y → r < K.n → xs[i * K.n + r]? = (K.vals y)[r]?) : xs = K.flat l := by
 apply List.ext_getElem?
 intro q
 by_cases hq : q < l.length * K.n
 ·have hi : q / K.n < l.length := Nat.div_lt_of_lt_mul (by rw [Nat.mul_comm]; exact hq)
  have hr : q % K.n < K.n := Nat.mod_lt _ K.pos
  have e : q / K.n * K.n + q % K.n = q := by rw [Nat.mul_comm]; exact Nat.div_add_mod q K.n
  obtain ⟨y, hy⟩ : ∃ y, l[q / K.n]? = some y := ⟨_, List.getElem?_eq_getElem hi⟩
  have h1 := h _ y _ hy hr
  rw [← K.flat_get hy hr, e] at h1
  exact h1
 ·rw [List.getElem?_eq_none (by omega), List.getElem?_eq_none (by rw [K.flat_length]; omega)]
/-- Some cells of one element are stored anew. -/
theorem row_part {cur : Array Value} {A B : List α} {x y : α} {j : Nat} {vs : List Value} (h : cur.toList.take ((A ++ x :: B).length * K.n) = K.flat (A ++ x :: B)) (hs : (A ++ x :: B).length * K.n ≤ cur.size) (hj : j + vs.length ≤ K.n)
  (h1 : ∀ r, r < vs.length → (K.vals y)[j + r]? = vs[r]?) (h2 : ∀ r, r < K.n → ¬ (j ≤ r ∧ r < j + vs.length) → (K.vals y)[r]? = (K.vals x)[r]?) :
  (setAll cur (A.length * K.n + j) vs).toList.take ((A ++ y :: B).length * K.n) = K.flat (A ++ y :: B) := by
 have hlen : (A ++ y :: B).length = (A ++ x :: B).length := by simp
 have hA : A.length < (A ++ x :: B).length := by rw [List.length_append, List.length_cons]; omega
 have hle : A.length * K.n + K.n ≤ (A ++ x :: B).length * K.n := by rw [← Nat.succ_mul]; exact Nat.mul_le_mul_right _ hA
 have hcur : ∀ q, q < (A ++ x :: B).length * K.n → cur[q]? = (K.flat (A ++ x :: B))[q]? := fun q hq => by
  rw [← h, List.getElem?_take, if_pos hq, Array.getElem?_toList]
 have e0 : (setAll cur (A.length * K.n + j) vs).toList.length = cur.size := by rw [Array.length_toList, setAll_size]
 refine Kind.flat_ext (by rw [List.length_take, e0, hlen]; omega) fun i z r hz hr => ?_
 have hi : i < (A ++ x :: B).length := by rw [← hlen]; exact (List.getElem?_eq_some_iff.1 hz).1
 have hq : i * K.n + r < (A ++ x :: B).length * K.n := by
  have : (i + 1) * K.n ≤ (A ++ x :: B).length * K.n := Nat.mul_le_mul_right _ hi
  rw [Nat.succ_mul] at this
  omega
 rw [List.getElem?_take, hlen, if_pos hq, Array.getElem?_toList]
 by_cases e : i = A.length
 ·subst e
  have hzy : z = y := by
   rw [List.getElem?_append_right (Nat.le_refl _)] at hz
   simpa using hz.symm
  subst hzy
  have hx : (A ++ x :: B)[A.length]? = some x := by rw [List.getElem?_append_right (Nat.le_refl _)]; simp
  by_cases hr2 : j ≤ r ∧ r < j + vs.length
  ·obtain ⟨d, rfl⟩ : ∃ d, r = j + d := ⟨r - j, by omega⟩
   rw [h1 d (by omega), show A.length * K.n + (j + d) = A.length * K.n + j + d by omega, List.getElem?_eq_getElem (by omega)]
   exact setAll_at vs cur (A.length * K.n + j) d _ (by omega) (List.getElem?_eq_getElem (by omega))
  ·rw [h2 r hr hr2, ← K.flat_get hx hr, ← hcur _ hq]
   by_cases h3 : r < j
   ·exact setAll_low vs cur _ _ (by omega)
   ·exact setAll_high vs cur _ _ (by omega)
 ·have hx : (A ++ x :: B)[i]? = some z := by
   by_cases h3 : i < A.length
   ·rw [List.getElem?_append_left h3] at hz ⊢
    exact hz
   ·rw [List.getElem?_append_right (by omega)] at hz ⊢
    obtain ⟨d, hd⟩ : ∃ d, i - A.length = d + 1 := ⟨i - A.length - 1, by omega⟩
    rw [hd] at hz ⊢
    exact hz
  rw [← K.flat_get hx hr, ← hcur _ hq]
  by_cases h3 : i < A.length
  ·have : (i + 1) * K.n ≤ A.length * K.n := Nat.mul_le_mul_right _ h3
   rw [Nat.succ_mul] at this
   exact setAll_low vs cur _ _ (by omega)
  ·have : (A.length + 1) * K.n ≤ i * K.n := Nat.mul_le_mul_right _ (by omega)
   rw [Nat.succ_mul] at this
   exact setAll_high vs cur _ _ (by omega)
/-- A list lies in its own block g. -/
def RowAt (K : Kind α) (T : TypeId) (w : World) (base g cap : Nat) (l : List α) : Prop := ∃ cur : Array Value, w.heap[g]? = some (.cells cur T (0, 0)) ∧ base ≤ g ∧ l.length ≤ cap ∧ cap ≤ maxLen ∧ cur.size = cap * K.n ∧ cur.toList.take (l.length * K.n) = K.flat l
theorem RowAt.owns {T : TypeId} {w : World} {base g cap : Nat} {l : List α} (h : RowAt K T w base g cap l) : w.ownsRow base T K.n (.slice (some ⟨g, 0, none⟩) l.length cap) l.length (K.flat l) := by
 obtain ⟨cur, h1, h2, h3, h4, h5, h6⟩ := h
 exact ⟨K.flat_length l, .inr ⟨g, cap, cur, rfl, h2, h1, h3, h4, h5, h6⟩⟩
theorem RowAt.of_owns {T : TypeId} {w : World} {base cap : Nat} {a : Option Addr} {l : List α} (h : w.ownsRow base T K.n (.slice a l.length cap) l.length (K.flat l)) (hl : ¬ l.length = 0) : ∃ g, a = some ⟨g, 0, none⟩ ∧ RowAt K T w base g cap l := by
 rcases h.2 with ⟨_, h0⟩ | ⟨g, c, cur, hv, h1, h2, h3, h4, h5, h6⟩
 ·exact absurd h0 hl
 ·simp only [Value.slice.injEq] at hv
  obtain ⟨rfl, -, rfl⟩ := hv
  exact ⟨g, rfl, cur, h2, h1, h3, h4, h5, h6⟩
theorem RowAt.same {T : TypeId} {w w' : World} {base g cap : Nat} {l : List α} (h : RowAt K T w base g cap l) (hs : w'.heap[g]? = w.heap[g]?) : RowAt K T w' base g cap l := by
 obtain ⟨cur, h1, h2⟩ := h
 exact ⟨cur, hs.trans h1, h2⟩
theorem RowAt.lt {T : TypeId} {w : World} {base g cap : Nat} {l : List α} (h : RowAt K T w base g cap l) : g < w.heap.size := by
 obtain ⟨cur, h1, _⟩ := h
 exact (Array.getElem?_eq_some_iff.1 h1).1
theorem RowAt.cell {T : TypeId} {w : World} {base g cap : Nat} {l : List α} (h : RowAt K T w base g cap l) {i : Nat} {x : α} (hx : l[i]? = some x) {r : Nat} (hr : r < K.n) : w.cell? ⟨g, i * K.n + r, none⟩ = (K.vals x)[r]? ∧ w.frozen? ⟨g, i * K.n + r, none⟩ = false := by
 obtain ⟨cur, h1, h2, h3, h4, h5, h6⟩ := h
 refine ⟨?_, frozen_of_row _ _ _ _ _ h1⟩
 have hi : i < l.length := (List.getElem?_eq_some_iff.1 hx).1
 have hq : i * K.n + r < l.length * K.n := by
  have : (i + 1) * K.n ≤ l.length * K.n := Nat.mul_le_mul_right _ hi
  rw [Nat.succ_mul] at this
  omega
 rw [cell_of_row _ _ _ _ _ _ h1, ← K.flat_get hx hr, ← h6, List.getElem?_take, if_pos hq, Array.getElem?_toList]
theorem RowAt.part {T : TypeId} {w : World} {base g cap : Nat} {A B : List α} {x y : α} {j : Nat} {vs : List Value} (h : RowAt K T w base g cap (A ++ x :: B)) (hj : j + vs.length ≤ K.n)
  (h1 : ∀ r, r < vs.length → (K.vals y)[j + r]? = vs[r]?) (h2 : ∀ r, r < K.n → ¬ (j ≤ r ∧ r < j + vs.length) → (K.vals y)[r]? = (K.vals x)[r]?) :
  RowAt K T (setAllW w g (A.length * K.n + j) vs) base g cap (A ++ y :: B) := by
 obtain ⟨cur, c1, c2, c3, c4, c5, c6⟩ := h
 have hl : (A ++ y :: B).length = (A ++ x :: B).length := by simp
 refine ⟨_, setAllW_heap vs c1, c2, by rw [hl]; exact c3, c4, by rw [setAll_size]; exact c5, ?_⟩
 exact row_part c6 (by rw [c5]; exact Nat.mul_le_mul_right _ c3) hj h1 h2
theorem RowAt.at_mid {T : TypeId} {w : World} {base g cap j : Nat} {A B : List α} {x : α} (h : RowAt K T w base g cap (A ++ x :: B)) (hA : A.length = j) {r : Nat} (hr : r < K.n) : (∃ u, w.cell? ⟨g, j * K.n + r, none⟩ = some u) ∧ w.frozen? ⟨g, j * K.n + r, none⟩ = false := by
 have hx : (A ++ x :: B)[j]? = some x := by
  subst hA
  rw [List.getElem?_append_right (Nat.le_refl _)]
  simp
 obtain ⟨h1, h2⟩ := h.cell hx hr
 rw [List.getElem?_eq_getElem (by rw [K.len]; exact hr)] at h1
 exact ⟨⟨_, h1⟩, h2⟩
theorem RowAt.mid_cell {T : TypeId} {w : World} {base g cap j : Nat} {A B : List α} {x : α} (h : RowAt K T w base g cap (A ++ x :: B)) (hA : A.length = j) {r : Nat} (hr : r < K.n) : w.cell? ⟨g, j * K.n + r, none⟩ = (K.vals x)[r]? := by
 have hx : (A ++ x :: B)[j]? = some x := by
  subst hA
  rw [List.getElem?_append_right (Nat.le_refl _)]
  simp
 exact (h.cell hx hr).1
theorem drop_at {l : List α} {k : Nat} {x : α} (hx : l[k]? = some x) : l.drop k = x :: l.drop (k + 1) := by
 obtain ⟨hk, rfl⟩ := List.getElem?_eq_some_iff.1 hx
 exact List.drop_eq_getElem_cons hk
/-- Each element turned by its mark, which counts on. -/
def markL (f : Int → α → α) (c : α → Nat) : Int → List α → List α
 | _, [] => []
 | k, x :: r => f k x :: markL f c (k + c x) r
def cntL (c : α → Nat) : List α → Nat
 | [] => 0
 | x :: r => c x + cntL c r
theorem cntL_append (c : α → Nat) : ∀ l r : List α, cntL c (l ++ r) = cntL c l + cntL c r
 | [], r => by simp [cntL]
 | x :: l, r => by simp only [List.cons_append, cntL, cntL_append c l r]; omega
theorem markL_append (f : Int → α → α) (c : α → Nat) : ∀ (k : Int) (l r : List α), markL f c k (l ++ r) = markL f c k l ++ markL f c (k + cntL c l) r
 | k, [], r => by simp [markL, cntL]
 | k, x :: l, r => by
  simp only [List.cons_append, markL, cntL, markL_append f c (k + c x) l r]
  rw [show k + (c x : Int) + (cntL c l : Int) = k + ((c x + cntL c l : Nat) : Int) by omega]
theorem markL_length (f : Int → α → α) (c : α → Nat) : ∀ (k : Int) (l : List α), (markL f c k l).length = l.length
 | _, [] => rfl
 | k, x :: r => by simp [markL, markL_length f c (k + c x) r]
theorem cntL_const {c : α → Nat} {n : Nat} (h : ∀ x, c x = n) : ∀ l : List α, cntL c l = l.length * n
 | [] => by simp [cntL]
 | x :: r => by rw [cntL, h x, cntL_const h r, List.length_cons, Nat.succ_mul]; omega
theorem cntL_take_lt {c : α → Nat} {l : List α} {i : Nat} {x : α} (hx : l[i]? = some x) : cntL c (l.take i) + c x ≤ cntL c l := by
 have e := split_at hx
 have : cntL c l = cntL c (l.take i ++ x :: l.drop (i + 1)) := by rw [← e]
 rw [this, cntL_append, cntL]
 omega
theorem cntL_up {c : α → Nat} {l : List α} {i : Nat} {x : α} (hx : l[i]? = some x) : cntL c (l.take (i + 1)) = cntL c (l.take i) + c x := by
 rw [take_up hx, cntL_append]
 simp [cntL]
theorem markL_get {f : Int → α → α} {c : α → Nat} {k : Int} {l : List α} {i : Nat} {x : α} (hx : l[i]? = some x) : (markL f c k l)[i]? = some (f (k + cntL c (l.take i)) x) := by
 have hi : i < l.length := (List.getElem?_eq_some_iff.1 hx).1
 have e : markL f c k l = markL f c k (l.take i ++ x :: l.drop (i + 1)) := by rw [← split_at hx]
 have hn : (markL f c k (l.take i)).length = i := by rw [markL_length, List.length_take]; omega
 rw [e, markL_append, List.getElem?_append_right (by omega), hn, Nat.sub_self]
 rfl
theorem markL_up {f : Int → α → α} {c : α → Nat} {k : Int} {l : List α} {i : Nat} {x : α} (hx : l[i]? = some x) : markL f c k (l.take (i + 1)) = markL f c k (l.take i) ++ [f (k + cntL c (l.take i)) x] := by
 rw [take_up hx, markL_append]
 rfl
end
end Go.Proofs.YtkbcplnlehdjfaaGreat
