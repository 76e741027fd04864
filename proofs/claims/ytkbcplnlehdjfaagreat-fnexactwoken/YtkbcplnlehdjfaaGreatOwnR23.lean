/- What the proof leans on, part 23: LwPort, PartAdd. -/
import Derived.Test.YtkbcplnlehdjfaaGreatOwnR1
import Derived.Test.YtkbcplnlehdjfaaGreatOwnR20
import Derived.Test.YtkbcplnlehdjfaaGreatOwnR21

namespace Go.Proofs.YtkbcplnlehdjfaaGreat
open Go.RowKit
attribute [local go_sem ↓] Go.wp_at_zero Go.wp_at_succ
set_option maxHeartbeats 2000000 in
theorem szPort_l (x : PortD) (left : Int) (w : World) (hb : (x.items.length ≤ maxLen ∧ ∀ s ∈ x.items, s.size ≤ maxLen)) (hc : strK.Came w x.itemsA x.items) (h0 : 0 ≤ left) (h1 : left ≤ 1048576) :
  Calls Tryz.prog 68 #[.agg #[.int .i64 x.id, .bool x.out, .bool x.queue, .int .i64 x.max, .slice x.itemsA x.items.length x.itemsC], .int .i64 left] w fun e w' => SzEnds w left (x.items.length) ((x.items.length ≤ 1048576 ∧ ∀ s ∈ x.items, s.size ≤ 1048576)) e w' := by
 have HB : Hid ((x.items.length ≤ maxLen ∧ ∀ s ∈ x.items, s.size ≤ maxLen)) := hb
 have HC : Hid (strK.Came (w.alloc (.cells #[.int .i64 x.id, .bool x.out, .bool x.queue, .int .i64 x.max, .slice x.itemsA x.items.length x.itemsC] 88)) x.itemsA x.items) := hc.below ((Below.refl _ _).alloc (Nat.le_refl _) _)
 clear hc
 have HW : Hid (Below w.heap.size w (w.alloc (.cells #[.int .i64 x.id, .bool x.out, .bool x.queue, .int .i64 x.max, .slice x.itemsA x.items.length x.itemsC] 88))) := (Below.refl _ _).alloc (Nat.le_refl _) _
 clear hb
 go_enter Tryz.func68, Tryz.ntmps68
 have HX : Hid ((w.alloc (.cells #[.int .i64 x.id, .bool x.out, .bool x.queue, .int .i64 x.max, .slice x.itemsA x.items.length x.itemsC] 88)).heap[w.heap.size]? = some (.cells #[.int .i64 x.id, .bool x.out, .bool x.queue, .int .i64 x.max, .slice x.itemsA x.items.length x.itemsC] 88 (0, 0))) := heap_alloc_new _ _
 go_wp2_with fail
 generalize w.alloc (.cells #[.int .i64 x.id, .bool x.out, .bool x.queue, .int .i64 x.max, .slice x.itemsA x.items.length x.itemsC] 88) = W at *
 refine (szSStr_l x.itemsA x.items x.itemsC left W HB.out.1 HC.out HB.out.2 h0 h1).mono ?_
 rintro e w1 ⟨r1, rfl, q0, q1, q2, hb1⟩
 have HB1 : Hid (Below w.heap.size w w1) := HW.out.trans (hb1.mono HW.out.size)
 have HX1 : Hid (w1.heap[w.heap.size]? = some (.cells #[.int .i64 x.id, .bool x.out, .bool x.queue, .int .i64 x.max, .slice x.itemsA x.items.length x.itemsC] 88 (0, 0))) := (hb1.block _ (Array.getElem?_eq_some_iff.1 HX.out).1).trans HX.out
 have HQ : Hid (0 ≤ r1 → (x.items.length ≤ 1048576 ∧ ∀ s ∈ x.items, s.size ≤ 1048576) ∧ r1 + (x.items.length : Nat) ≤ left) := q2
 clear hb1 HX q2
 by_cases hn : r1 < 0
 ·go_wp2
  go_ret
  exact szEnds_no HB1.out h0
 go_wp2
 go_ret
 exact ⟨r1, rfl, by omega, by omega, fun _ => HQ.out (by omega), HB1.out⟩
set_option maxHeartbeats 2000000 in
theorem szSPort_l (a : Option Addr) (l : List PortD) (cap : Nat) (left : Int) (w : World) (hl : l.length ≤ maxLen) (hc : portK.Came w a l) (hs : ∀ x ∈ l, (x.items.length ≤ maxLen ∧ ∀ s ∈ x.items, s.size ≤ maxLen)) (h0 : 0 ≤ left) (h1 : left ≤ 1048576) :
  Calls Tryz.prog 112 #[.slice a l.length cap, .int .i64 left] w fun e w' => SzEnds w left (l.length + sumL (fun x : PortD => x.items.length) l) (l.length ≤ 1048576 ∧ ∀ x ∈ l, (x.items.length ≤ 1048576 ∧ ∀ s ∈ x.items, s.size ≤ 1048576)) e w' := by
 have hl' := hl
 unfold maxLen at hl'
 by_cases hn : left - (l.length : Int) < 0
 ·go_enter Tryz.func112, Tryz.ntmps112
  go_wp2
  go_ret
  exact szEnds_no (Below.refl _ _) h0
 have HC : Hid (portK.Came w a l ∧ ∀ x ∈ l, (x.items.length ≤ maxLen ∧ ∀ s ∈ x.items, s.size ≤ maxLen)) := ⟨hc, hs⟩
 clear hc hs hl
 go_enter Tryz.func112, Tryz.ntmps112
 go_wp2_with fail
 go_loopw [1, 5] (fun q i wr => ∃ (k : Nat) (r : Int), k ≤ l.length ∧ i = .int .i64 k ∧ q = .int .i64 r ∧ 0 ≤ r ∧ r ≤ left - (l.length : Int) ∧ Hid ((∀ x ∈ l.take k, (x.items.length ≤ 1048576 ∧ ∀ s ∈ x.items, s.size ≤ 1048576)) ∧ r + (sumL (fun x : PortD => x.items.length) (l.take k) : Nat) ≤ left - (l.length : Int) ∧ Below w.heap.size w wr)) (fun _ i _ => l.length - (intOf i).toNat)
 case atStart => exact ⟨0, left - (l.length : Int), Nat.zero_le _, rfl, rfl, by omega, by omega, ⟨by simp, by simp [sumL], Below.refl _ _⟩⟩
 case round =>
  obtain ⟨k, r, hk, rfl, rfl, r0, r1, HA⟩ := hrel
  by_cases hlt : k < l.length
  ·have i0 : (0 : Int) ≤ (k : Int) := by omega
   have i1 : (k : Int) < (l.length : Int) := by omega
   obtain ⟨x, hx⟩ : ∃ x, l[k]? = some x := ⟨_, List.getElem?_eq_getElem hlt⟩
   have hmem := List.mem_of_getElem? hx
   obtain ⟨b, off, rfl, hat⟩ := (HC.out.1.below HA.out.2.2).at hx
   have c0 : wr.cell? ⟨b, off + k * 5, none⟩ = some (.int .i64 x.id) := hat 0 _ rfl
   have c1 : wr.cell? ⟨b, off + k * 5 + 1, none⟩ = some (.bool x.out) := hat 1 _ rfl
   have c2 : wr.cell? ⟨b, off + k * 5 + 2, none⟩ = some (.bool x.queue) := hat 2 _ rfl
   have c3 : wr.cell? ⟨b, off + k * 5 + 3, none⟩ = some (.int .i64 x.max) := hat 3 _ rfl
   have c4 : wr.cell? ⟨b, off + k * 5 + 4, none⟩ = some (.slice x.itemsA x.items.length x.itemsC) := hat 4 _ rfl
   have HX : Hid (l[k]? = some x ∧ (x.items.length ≤ maxLen ∧ ∀ s ∈ x.items, s.size ≤ maxLen)) := ⟨hx, HC.out.2 x hmem⟩
   have HK : Hid (strK.Came wr x.itemsA x.items) := ⟨((HC.out.1.below HA.out.2.2).kid hx (r := (x.itemsA, strK.flat x.items)) (by simp [portK])), fun y _ r hr => by simp [strK] at hr⟩
   clear hx hmem hat
   go_wp2_with fail
   refine (szPort_l x r wr HX.out.2 HK.out r0 (by omega)).mono ?_
   rintro e w1 ⟨r2, rfl, q0, q1, q2, hb1⟩
   have HB1 : Hid (Below w.heap.size w w1 ∧ (0 ≤ r2 → (x.items.length ≤ 1048576 ∧ ∀ s ∈ x.items, s.size ≤ 1048576) ∧ r2 + (x.items.length : Nat) ≤ r)) := ⟨HA.out.2.2.trans (hb1.mono HA.out.2.2.size), q2⟩
   clear hb1 q2 c0 c1 c2 c3 c4
   by_cases hneg : r2 < 0
   ·go_wp2
    go_ret
    exact szEnds_no HB1.out.1 h0
   go_wp2
   go_roundw
   case rel => exact ⟨k + 1, r2, by omega, by go_num, rfl, by omega, by omega, ⟨all_up HX.out.1 HA.out.1 (HB1.out.2 (by omega)).1, by rw [sumL_up HX.out.1]; have h5 := (HB1.out.2 (by omega)).2; have h6 := HA.out.2.1; omega, HB1.out.1⟩⟩
   case measure => simp [intOf]; omega
  ·have i1 : ¬ (k : Int) < (l.length : Int) := by omega
   go_wp2
   go_ret
   exact ⟨r, rfl, by omega, by omega, fun _ => ⟨⟨by omega, all_end (by omega) HA.out.1⟩, by have h5 := HA.out.2.1; rw [List.take_of_length_le (by omega)] at h5; omega⟩, HA.out.2.2⟩
set_option maxRecDepth 100000 in
set_option maxHeartbeats 4000000 in
theorem toPort_l (x : PortD) (w : World) (hl : x.items.length ≤ 1048576) (hc : strK.Came w x.itemsA x.items) :
  Calls Tryz.prog 69 #[.agg #[.int .i64 x.id, .bool x.out, .bool x.queue, .int .i64 x.max, .slice x.itemsA x.items.length x.itemsC]] w fun e w' => ∃ a c, e = .returned (.agg (portVs (portN.set x a c))) ∧ portN.Mine w' (w.heap.size + 1) (portN.set x a c) ∧ Below w.heap.size w w' := by
 have HB : Hid (Below w.heap.size w (((w.alloc (.cells #[.int .i64 x.id, .bool x.out, .bool x.queue, .int .i64 x.max, .slice x.itemsA x.items.length x.itemsC] 88)).alloc (.cells #[.int .i64 0, .bool false, .bool false, .int .i64 0, .slice none 0 0] 61)).alloc (.cells #[.int .i64 x.id, .bool x.out, .bool x.queue, .int .i64 x.max, .slice none 0 0] 61))) := alloc3_below _ _ _ _
 have HC : Hid (strK.Came (((w.alloc (.cells #[.int .i64 x.id, .bool x.out, .bool x.queue, .int .i64 x.max, .slice x.itemsA x.items.length x.itemsC] 88)).alloc (.cells #[.int .i64 0, .bool false, .bool false, .int .i64 0, .slice none 0 0] 61)).alloc (.cells #[.int .i64 x.id, .bool x.out, .bool x.queue, .int .i64 x.max, .slice none 0 0] 61)) x.itemsA x.items ∧ x.items.length ≤ 1048576) := ⟨hc.below HB.out, hl⟩
 have HX : Hid ((((w.alloc (.cells #[.int .i64 x.id, .bool x.out, .bool x.queue, .int .i64 x.max, .slice x.itemsA x.items.length x.itemsC] 88)).alloc (.cells #[.int .i64 0, .bool false, .bool false, .int .i64 0, .slice none 0 0] 61)).alloc (.cells #[.int .i64 x.id, .bool x.out, .bool x.queue, .int .i64 x.max, .slice none 0 0] 61)).heap[w.heap.size]? = some (.cells #[.int .i64 x.id, .bool x.out, .bool x.queue, .int .i64 x.max, .slice x.itemsA x.items.length x.itemsC] 88 (0, 0)) ∧ (((w.alloc (.cells #[.int .i64 x.id, .bool x.out, .bool x.queue, .int .i64 x.max, .slice x.itemsA x.items.length x.itemsC] 88)).alloc (.cells #[.int .i64 0, .bool false, .bool false, .int .i64 0, .slice none 0 0] 61)).alloc (.cells #[.int .i64 x.id, .bool x.out, .bool x.queue, .int .i64 x.max, .slice none 0 0] 61)).heap[w.heap.size + 1]? = some (.cells #[.int .i64 0, .bool false, .bool false, .int .i64 0, .slice none 0 0] 61 (0, 0)) ∧ (((w.alloc (.cells #[.int .i64 x.id, .bool x.out, .bool x.queue, .int .i64 x.max, .slice x.itemsA x.items.length x.itemsC] 88)).alloc (.cells #[.int .i64 0, .bool false, .bool false, .int .i64 0, .slice none 0 0] 61)).alloc (.cells #[.int .i64 x.id, .bool x.out, .bool x.queue, .int .i64 x.max, .slice none 0 0] 61)).heap[w.heap.size + 1 + 1]? = some (.cells #[.int .i64 x.id, .bool x.out, .bool x.queue, .int .i64 x.max, .slice none 0 0] 61 (0, 0)) ∧ (((w.alloc (.cells #[.int .i64 x.id, .bool x.out, .bool x.queue, .int .i64 x.max, .slice x.itemsA x.items.length x.itemsC] 88)).alloc (.cells #[.int .i64 0, .bool false, .bool false, .int .i64 0, .slice none 0 0] 61)).alloc (.cells #[.int .i64 x.id, .bool x.out, .bool x.queue, .int .i64 x.max, .slice none 0 0] 61)).heap.size = w.heap.size + 1 + 1 + 1) := alloc3_facts _ _ _ _
 clear hl hc
 go_enter Tryz.func69, Tryz.ntmps69
 go_wp2_with fail
 generalize ((w.alloc (.cells #[.int .i64 x.id, .bool x.out, .bool x.queue, .int .i64 x.max, .slice x.itemsA x.items.length x.itemsC] 88)).alloc (.cells #[.int .i64 0, .bool false, .bool false, .int .i64 0, .slice none 0 0] 61)).alloc (.cells #[.int .i64 x.id, .bool x.out, .bool x.queue, .int .i64 x.max, .slice none 0 0] 61) = W at *
 refine (toSStr_l x.itemsA x.items x.itemsC W HC.out.2 HC.out.1).mono ?_
 rintro e w1 ⟨rfl, hown, hb1⟩
 have HM : Hid (portN.Mine w1 W.heap.size (portN.set x (some ⟨W.heap.size, 0, none⟩) x.items.length) ∧ Below w.heap.size w w1) := ⟨Nest.mine_set (N := portN) hown, HB.out.trans (hb1.mono HB.out.size)⟩
 have y0 : w1.heap[w.heap.size]? = some (.cells #[.int .i64 x.id, .bool x.out, .bool x.queue, .int .i64 x.max, .slice x.itemsA x.items.length x.itemsC] 88 (0, 0)) := (hb1.block _ (by have := HX.out.2.2.2; omega)).trans HX.out.1
 have y1 : w1.heap[w.heap.size + 1]? = some (.cells #[.int .i64 0, .bool false, .bool false, .int .i64 0, .slice none 0 0] 61 (0, 0)) := (hb1.block _ (by have := HX.out.2.2.2; omega)).trans HX.out.2.1
 have y2 : w1.heap[w.heap.size + 1 + 1]? = some (.cells #[.int .i64 x.id, .bool x.out, .bool x.queue, .int .i64 x.max, .slice none 0 0] 61 (0, 0)) := (hb1.block _ (by have := HX.out.2.2.2; omega)).trans HX.out.2.2.1
 have t0 : w1.cell? ⟨w.heap.size + 1 + 1, 0, none⟩ = some (.int .i64 x.id) := by simp [World.cell?, y2]
 have u0 : w1.frozen? ⟨w.heap.size + 1 + 1, 0, none⟩ = false := by simp [World.frozen?, y2]
 have o0 : w1.cell? ⟨w.heap.size + 1, 0, none⟩ = some (.int .i64 0) := by simp [World.cell?, y1]
 have p0 : w1.frozen? ⟨w.heap.size + 1, 0, none⟩ = false := by simp [World.frozen?, y1]
 have t1 : w1.cell? ⟨w.heap.size + 1 + 1, 1, none⟩ = some (.bool x.out) := by simp [World.cell?, y2]
 have u1 : w1.frozen? ⟨w.heap.size + 1 + 1, 1, none⟩ = false := by simp [World.frozen?, y2]
 have o1 : w1.cell? ⟨w.heap.size + 1, 1, none⟩ = some (.bool false) := by simp [World.cell?, y1]
 have p1 : w1.frozen? ⟨w.heap.size + 1, 1, none⟩ = false := by simp [World.frozen?, y1]
 have t2 : w1.cell? ⟨w.heap.size + 1 + 1, 2, none⟩ = some (.bool x.queue) := by simp [World.cell?, y2]
 have u2 : w1.frozen? ⟨w.heap.size + 1 + 1, 2, none⟩ = false := by simp [World.frozen?, y2]
 have o2 : w1.cell? ⟨w.heap.size + 1, 2, none⟩ = some (.bool false) := by simp [World.cell?, y1]
 have p2 : w1.frozen? ⟨w.heap.size + 1, 2, none⟩ = false := by simp [World.frozen?, y1]
 have t3 : w1.cell? ⟨w.heap.size + 1 + 1, 3, none⟩ = some (.int .i64 x.max) := by simp [World.cell?, y2]
 have u3 : w1.frozen? ⟨w.heap.size + 1 + 1, 3, none⟩ = false := by simp [World.frozen?, y2]
 have o3 : w1.cell? ⟨w.heap.size + 1, 3, none⟩ = some (.int .i64 0) := by simp [World.cell?, y1]
 have p3 : w1.frozen? ⟨w.heap.size + 1, 3, none⟩ = false := by simp [World.frozen?, y1]
 have t4 : w1.cell? ⟨w.heap.size + 1 + 1, 4, none⟩ = some (.slice none 0 0) := by simp [World.cell?, y2]
 have u4 : w1.frozen? ⟨w.heap.size + 1 + 1, 4, none⟩ = false := by simp [World.frozen?, y2]
 have o4 : w1.cell? ⟨w.heap.size + 1, 4, none⟩ = some (.slice none 0 0) := by simp [World.cell?, y1]
 have p4 : w1.frozen? ⟨w.heap.size + 1, 4, none⟩ = false := by simp [World.frozen?, y1]
 clear y0 y1 y2 hb1 hown
 dsimp only
 go_wp2
 refine bodyPost_ret (v := .agg #[.int .i64 x.id, .bool x.out, .bool x.queue, .int .i64 x.max, .slice (some ⟨W.heap.size, 0, none⟩) x.items.length x.items.length]) (by simp [results, Tryz.results69, go_sem, *]) rfl ?_
 have hX := HX.out.2.2.2
 have h7 : Below w.heap.size w (setAllW (setAllW w1 (w.heap.size + 1 + 1) 4 [.slice (some ⟨W.heap.size, 0, none⟩) x.items.length x.items.length]) (w.heap.size + 1) 0 [.int .i64 x.id, .bool x.out, .bool x.queue, .int .i64 x.max, .slice (some ⟨W.heap.size, 0, none⟩) x.items.length x.items.length]) := setAllW_below _ (by omega) (setAllW_below _ (by omega) HM.out.2)
 have h8 : portN.Mine (setAllW (setAllW w1 (w.heap.size + 1 + 1) 4 [.slice (some ⟨W.heap.size, 0, none⟩) x.items.length x.items.length]) (w.heap.size + 1) 0 [.int .i64 x.id, .bool x.out, .bool x.queue, .int .i64 x.max, .slice (some ⟨W.heap.size, 0, none⟩) x.items.length x.items.length]) (w.heap.size + 1) (portN.set x (some ⟨W.heap.size, 0, none⟩) x.items.length) := (HM.out.1.low (by omega)).same fun g hg => by
  have := (HM.out.1.lt hg).1
  exact (setAllW_other _ (by omega)).trans (setAllW_other _ (by omega))
 simp only [setAllW, Nat.reduceAdd, Nat.zero_add] at h7 h8
 exact ⟨_, _, rfl, h8, h7⟩
theorem infoPort : (Tryz.prog.info? 61).map (fun i => (i.zero, i.size, decide (i.bytes ≤ 1000))) = some (some (.agg #[.int .i64 0, .bool false, .bool false, .int .i64 0, .slice none 0 0]), 5, true) := by kernel_rfl
theorem makePort (n : Nat) (hn : n ≤ 1048576) (w : World) :
  (Instr.makeSlice 30 (.int .i64 (n : Int)) (.int .i64 (n : Int))).run Tryz.prog w = .ok (.slice (some ⟨w.heap.size, 0, none⟩) n n) (w.alloc (.cells (madeCells #[.int .i64 0, .bool false, .bool false, .int .i64 0, .slice none 0 0] (n * 5)) 61)) := by
 obtain ⟨i, hi, e⟩ := Option.map_eq_some_iff.1 infoPort
 simp only [Prod.mk.injEq, decide_eq_true_eq] at e
 obtain ⟨e1, e2, e3⟩ := e
 have hby : n * i.bytes ≤ 1048576 * 1000 := Nat.mul_le_mul hn e3
 have := run_make (P := Tryz.prog) w 30 61 i _ Tryz.underlying30 hi e1 .i64 .i64 n n (by omega) (by omega) (by rw [Nat.mul_comm] at hby; first | omega | (rw [Nat.mul_comm]; omega)) (by omega)
 rw [this, e2]
 simp [Value.cells]
set_option maxRecDepth 100000 in
set_option maxHeartbeats 4000000 in
theorem toSPort_l (a : Option Addr) (l : List PortD) (cap : Nat) (w : World) (hl : l.length ≤ 1048576) (hk : ∀ x ∈ l, x.items.length ≤ 1048576) (hc : portK.Came w a l) :
  Calls Tryz.prog 118 #[.slice a l.length cap] w fun e w' => e = .returned (.slice (some ⟨w.heap.size, 0, none⟩) l.length l.length) ∧ ∃ out, CopyIs portN portK w w' l.length l out := by
 have hmk := makePort l.length hl
 have HC : Hid (portK.Came w a l) := hc
 have HKL : Hid (∀ x ∈ l, x.items.length ≤ 1048576) := hk
 clear hk
 have HF : Hid (Fill portK 61 w (w.alloc (.cells (madeCells #[.int .i64 0, .bool false, .bool false, .int .i64 0, .slice none 0 0] (l.length * 5)) 61)) l.length []) := Fill.start (by rw [size_madeCells]; rfl)
 clear hc
 go_enter Tryz.func118, Tryz.ntmps118
 go_wp2_with fail
 go_loopw [4] (fun i wr => ∃ k : Nat, k ≤ l.length ∧ i = .int .i64 k ∧ ∃ out, Hid (FillN portN portK w wr l out k)) (fun i _ => l.length - (intOf i).toNat)
 case atStart => exact ⟨0, Nat.zero_le _, rfl, [], FillN.start HF.out⟩
 case round =>
  clear hmk HF
  obtain ⟨k, hk, rfl, out, HR⟩ := hrel
  by_cases hlt : k < l.length
  ·have i0 : (0 : Int) ≤ (k : Int) := by omega
   have i1 : (k : Int) < (l.length : Int) := by omega
   obtain ⟨x, hx⟩ : ∃ x, l[k]? = some x := ⟨_, List.getElem?_eq_getElem hlt⟩
   obtain ⟨b, off, rfl, hat⟩ := (HC.out.below HR.out.fill.bel).at hx
   have c0 : wr.cell? ⟨b, off + k * 5, none⟩ = some (.int .i64 x.id) := hat 0 _ rfl
   have c1 : wr.cell? ⟨b, off + k * 5 + 1, none⟩ = some (.bool x.out) := hat 1 _ rfl
   have c2 : wr.cell? ⟨b, off + k * 5 + 2, none⟩ = some (.bool x.queue) := hat 2 _ rfl
   have c3 : wr.cell? ⟨b, off + k * 5 + 3, none⟩ = some (.int .i64 x.max) := hat 3 _ rfl
   have c4 : wr.cell? ⟨b, off + k * 5 + 4, none⟩ = some (.slice x.itemsA x.items.length x.itemsC) := hat 4 _ rfl
   have HX : Hid (l[k]? = some x) := hx
   have HK : Hid (strK.Came wr x.itemsA x.items ∧ x.items.length ≤ 1048576) := ⟨⟨((HC.out.below HR.out.fill.bel).kid hx (r := (x.itemsA, strK.flat x.items)) (by simp [portK])), fun y _ r hr => by simp [strK] at hr⟩, HKL.out x (List.mem_of_getElem? hx)⟩
   have hfl := HR.out.fill.lt
   clear hx hat
   go_wp2_with fail
   refine (toPort_l x wr HK.out.2 HK.out.1).mono ?_
   rintro e w1 ⟨a1, cp1, rfl, hmine, hb1⟩
   have HR1 : Hid (FillN portN portK w w1 l out k) := HR.out.below hb1
   have HB1 : Hid (wr.heap.size ≤ w1.heap.size) := hb1.size
   obtain ⟨⟨u, hu⟩, hf⟩ := HR1.out.fill.at
   have d0 := hu (k * 5) (by show k * 5 < l.length * 5; omega)
   have f0 := hf (k * 5)
   have d1 := hu (k * 5 + 1) (by show k * 5 + 1 < l.length * 5; omega)
   have f1 := hf (k * 5 + 1)
   have d2 := hu (k * 5 + 2) (by show k * 5 + 2 < l.length * 5; omega)
   have f2 := hf (k * 5 + 2)
   have d3 := hu (k * 5 + 3) (by show k * 5 + 3 < l.length * 5; omega)
   have f3 := hf (k * 5 + 3)
   have d4 := hu (k * 5 + 4) (by show k * 5 + 4 < l.length * 5; omega)
   have f4 := hf (k * 5 + 4)
   have h5 := HR1.out.more hlt HX.out (hmine.low (by have := hfl; omega)) (fun g hg => by have := (hmine.lt hg).1; omega) HR.out
   rw [show portK.vals (portN.set x a1 cp1) = [.int .i64 x.id, .bool x.out, .bool x.queue, .int .i64 x.max, .slice a1 x.items.length cp1] from rfl, show portK.n = 5 from rfl] at h5
   simp only [setAllW, Nat.add_assoc, Nat.reduceAdd] at h5
   have HS : Hid (FillN portN portK w (((((w1.setCell ⟨w.heap.size, k * 5, none⟩ (.int .i64 x.id)).setCell ⟨w.heap.size, k * 5 + 1, none⟩ (.bool x.out)).setCell ⟨w.heap.size, k * 5 + 2, none⟩ (.bool x.queue)).setCell ⟨w.heap.size, k * 5 + 3, none⟩ (.int .i64 x.max)).setCell ⟨w.heap.size, k * 5 + 4, none⟩ (.slice a1 x.items.length cp1)) l (out ++ [portN.set x a1 cp1]) (k + 1)) := h5
   clear h5
   unfold portVs
   clear hu hf hb1 HR HR1 hmine c0 c1 c2 c3 c4
   go_wp2
   go_roundw
   case rel => exact ⟨k + 1, by omega, by go_num, _, HS.out⟩
   case measure => simp [intOf]; omega
  ·have i1 : ¬ (k : Int) < (l.length : Int) := by omega
   have ek : k = l.length := by omega
   subst ek
   go_wp2
   go_ret
   exact ⟨rfl, out, HR.out.done (by unfold maxLen; omega)⟩
set_option maxRecDepth 100000 in
set_option maxHeartbeats 4000000 in
theorem eqPort_l (x y : PortD) (w : World) (hp : y.toPortP = x.toPortP) (hl : x.items.length ≤ 1048576) (hx : Row w x.itemsA (strK.flat x.items)) (hy : Row w y.itemsA (strK.flat y.items)) :
  Calls Tryz.prog 70 #[.agg #[.int .i64 x.id, .bool x.out, .bool x.queue, .int .i64 x.max, .slice x.itemsA x.items.length x.itemsC], .agg #[.int .i64 y.id, .bool y.out, .bool y.queue, .int .i64 y.max, .slice y.itemsA y.items.length y.itemsC]] w fun e w' => e = .returned (.bool true) ∧ Below w.heap.size w w' := by
 obtain ⟨p, xa, xc⟩ := x
 obtain ⟨p', ya, yc⟩ := y
 simp only at hp
 subst hp
 obtain ⟨v0, v1, v2, v3, v4⟩ := p'
 simp only at hl hx hy
 have HB : Hid (Below w.heap.size w ((w.alloc (.cells #[.int .i64 v0, .bool v1, .bool v2, .int .i64 v3, .slice xa v4.length xc] 61)).alloc (.cells #[.int .i64 v0, .bool v1, .bool v2, .int .i64 v3, .slice ya v4.length yc] 61))) := alloc2_below _ _ _
 have HR : Hid (Row ((w.alloc (.cells #[.int .i64 v0, .bool v1, .bool v2, .int .i64 v3, .slice xa v4.length xc] 61)).alloc (.cells #[.int .i64 v0, .bool v1, .bool v2, .int .i64 v3, .slice ya v4.length yc] 61)) xa (strK.flat v4) ∧ Row ((w.alloc (.cells #[.int .i64 v0, .bool v1, .bool v2, .int .i64 v3, .slice xa v4.length xc] 61)).alloc (.cells #[.int .i64 v0, .bool v1, .bool v2, .int .i64 v3, .slice ya v4.length yc] 61)) ya (strK.flat v4) ∧ v4.length ≤ 1048576) := ⟨hx.below HB.out, hy.below HB.out, hl⟩
 have HX : Hid (((w.alloc (.cells #[.int .i64 v0, .bool v1, .bool v2, .int .i64 v3, .slice xa v4.length xc] 61)).alloc (.cells #[.int .i64 v0, .bool v1, .bool v2, .int .i64 v3, .slice ya v4.length yc] 61)).heap[w.heap.size]? = some (.cells #[.int .i64 v0, .bool v1, .bool v2, .int .i64 v3, .slice xa v4.length xc] 61 (0, 0)) ∧ ((w.alloc (.cells #[.int .i64 v0, .bool v1, .bool v2, .int .i64 v3, .slice xa v4.length xc] 61)).alloc (.cells #[.int .i64 v0, .bool v1, .bool v2, .int .i64 v3, .slice ya v4.length yc] 61)).heap[w.heap.size + 1]? = some (.cells #[.int .i64 v0, .bool v1, .bool v2, .int .i64 v3, .slice ya v4.length yc] 61 (0, 0))) := alloc2_facts _ _ _
 clear hx hy hl
 go_enter Tryz.func70, Tryz.ntmps70
 go_wp2_with fail
 generalize (w.alloc (.cells #[.int .i64 v0, .bool v1, .bool v2, .int .i64 v3, .slice xa v4.length xc] 61)).alloc (.cells #[.int .i64 v0, .bool v1, .bool v2, .int .i64 v3, .slice ya v4.length yc] 61) = W at *
 refine (eqSStr_l xa ya v4 xc yc W HR.out.2.2 ⟨HR.out.1, fun _ _ r hr => by simp [strK] at hr⟩ ⟨HR.out.2.1, fun _ _ r hr => by simp [strK] at hr⟩).mono ?_
 rintro e w1 ⟨rfl, hb1⟩
 have HB1 : Hid (Below w.heap.size w w1) := HB.out.trans (hb1.mono HB.out.size)
 have x0 := (hb1.block _ (Array.getElem?_eq_some_iff.1 HX.out.1).1).trans HX.out.1
 have x1 := (hb1.block _ (Array.getElem?_eq_some_iff.1 HX.out.2).1).trans HX.out.2
 clear hb1 HX HR x0 x1
 go_wp2
 go_ret
 exact ⟨rfl, HB1.out⟩
def EqSPort (w : World) (a a' : Option Addr) (l l' : List PortD) (x y : PortD) (g g' k : Nat) (w' : World) : Prop := ((w'.cell? ⟨g, k * 5, none⟩ = some (.int .i64 x.id) ∧ w'.cell? ⟨g, k * 5 + 1, none⟩ = some (.bool x.out) ∧ w'.cell? ⟨g, k * 5 + 2, none⟩ = some (.bool x.queue) ∧ w'.cell? ⟨g, k * 5 + 3, none⟩ = some (.int .i64 x.max) ∧ w'.cell? ⟨g, k * 5 + 4, none⟩ = some (.slice x.itemsA x.items.length x.itemsC)) ∧ (w'.cell? ⟨g', k * 5, none⟩ = some (.int .i64 y.id) ∧ w'.cell? ⟨g', k * 5 + 1, none⟩ = some (.bool y.out) ∧ w'.cell? ⟨g', k * 5 + 2, none⟩ = some (.bool y.queue) ∧ w'.cell? ⟨g', k * 5 + 3, none⟩ = some (.int .i64 y.max) ∧ w'.cell? ⟨g', k * 5 + 4, none⟩ = some (.slice y.itemsA y.items.length y.itemsC))) ∧ Hid (portK.Lies w' a l ∧ portK.Lies w' a' l' ∧ Below w.heap.size w w')
theorem eqSPort_of {w w' : World} {a a' : Option Addr} {l l' : List PortD} {x y : PortD} {g g' k : Nat} (ha : a = some ⟨g, 0, none⟩) (ha' : a' = some ⟨g', 0, none⟩) (hx : l[k]? = some x) (hy : l'[k]? = some y) (h : portK.Lies w' a l ∧ portK.Lies w' a' l' ∧ Below w.heap.size w w') : EqSPort w a a' l l' x y g g' k w' := by
 obtain ⟨g1, e1, h1⟩ := h.1.at hx
 obtain ⟨g2, e2, h2⟩ := h.2.1.at hy
 rw [ha] at e1
 rw [ha'] at e2
 cases e1
 cases e2
 exact ⟨⟨⟨h1 0 _ rfl, h1 1 _ rfl, h1 2 _ rfl, h1 3 _ rfl, h1 4 _ rfl⟩, ⟨h2 0 _ rfl, h2 1 _ rfl, h2 2 _ rfl, h2 3 _ rfl, h2 4 _ rfl⟩⟩, h⟩
set_option maxRecDepth 100000 in
set_option maxHeartbeats 4000000 in
theorem eqSPort_l (a a' : Option Addr) (l l' : List PortD) (cap cap' : Nat) (w : World) (hl : l.length ≤ 1048576) (hk : ∀ x ∈ l, x.items.length ≤ 1048576) (hp : l'.map (·.toPortP) = l.map (·.toPortP)) (h : portK.Lies w a l) (h' : portK.Lies w a' l') :
  Calls Tryz.prog 124 #[.slice a l.length cap, .slice a' l.length cap'] w fun e w' => e = .returned (.bool true) ∧ Below w.heap.size w w' := by
 have HL : Hid (portK.Lies w a l ∧ portK.Lies w a' l' ∧ (∀ x ∈ l, x.items.length ≤ 1048576) ∧ l'.map (·.toPortP) = l.map (·.toPortP)) := ⟨h, h', hk, hp⟩
 clear h h' hk hp
 go_enter Tryz.func124, Tryz.ntmps124
 go_wp2_with fail
 go_loopw [5] (fun i wr => ∃ k : Nat, k ≤ l.length ∧ i = .int .i64 k ∧ Hid (Below w.heap.size w wr)) (fun i _ => l.length - (intOf i).toNat)
 case atStart => exact ⟨0, Nat.zero_le _, rfl, Below.refl _ _⟩
 case round =>
  obtain ⟨k, hk, rfl, HB⟩ := hrel
  by_cases hlt : k < l.length
  ·have i0 : (0 : Int) ≤ (k : Int) := by omega
   have i1 : (k : Int) < (l.length : Int) := by omega
   obtain ⟨x, hx⟩ : ∃ x, l[k]? = some x := ⟨_, List.getElem?_eq_getElem hlt⟩
   obtain ⟨g, ha, -⟩ := HL.out.1.at hx
   obtain ⟨y, hy, hpy⟩ := map_same HL.out.2.2.2 hx
   obtain ⟨g', ha', -⟩ := HL.out.2.1.at hy
   have HX : Hid (a = some ⟨g, 0, none⟩ ∧ a' = some ⟨g', 0, none⟩ ∧ l[k]? = some x ∧ l'[k]? = some y ∧ y.toPortP = x.toPortP ∧ x.items.length ≤ 1048576) := ⟨ha, ha', hx, hy, hpy, HL.out.2.2.1 x (List.mem_of_getElem? hx)⟩
   have HS : Hid (EqSPort w a a' l l' x y g g' k wr) := eqSPort_of ha ha' hx hy ⟨HL.out.1.below HB.out, HL.out.2.1.below HB.out, HB.out⟩
   clear hx hy hpy
   rw [ha, ha']
   clear ha ha'
   go_wp2_with fail
   refine tame_region (EqSPort w a a' l l' x y g g' k) (by kernel_rfl) (eqSPort_of HX.out.1 HX.out.2.1 HX.out.2.2.1 HX.out.2.2.2.1 ⟨HS.out.2.out.1.below (Below.refl _ _).drew, HS.out.2.out.2.1.below (Below.refl _ _).drew, HS.out.2.out.2.2.drew⟩) ?_
   iterate 8 (refine yl (v := ?_) ?_ ?_; rotate_left; (intro w0 hS0; obtain ⟨⟨⟨q0, q1, q2, q3, q4⟩, ⟨r0, r1, r2, r3, r4⟩⟩, hH⟩ := hS0; go_simp; try with_reducible rfl); simp only [pt, sb, s0, s1])
   refine cl (.bool true) 70 #[.agg #[.int .i64 x.id, .bool x.out, .bool x.queue, .int .i64 x.max, .slice x.itemsA x.items.length x.itemsC], .agg #[.int .i64 y.id, .bool y.out, .bool y.queue, .int .i64 y.max, .slice y.itemsA y.items.length y.itemsC]] ?_ ?_ ?_
   ·intro w0 hS0
    obtain ⟨⟨⟨q0, q1, q2, q3, q4⟩, ⟨r0, r1, r2, r3, r4⟩⟩, hH⟩ := hS0
    go_simp
    try with_reducible rfl
   ·intro w0 hS0
    refine (eqPort_l x y w0 HX.out.2.2.2.2.1 HX.out.2.2.2.2.2 (hS0.2.out.1.kid HX.out.2.2.1 (r := (x.itemsA, strK.flat x.items)) (by simp [portK])) (hS0.2.out.2.1.kid HX.out.2.2.2.1 (r := (y.itemsA, strK.flat y.items)) (by simp [portK]))).mono ?_
    rintro e w2 ⟨rfl, hb2⟩
    exact ⟨rfl, eqSPort_of HX.out.1 HX.out.2.1 HX.out.2.2.1 HX.out.2.2.2.1 ⟨hS0.2.out.1.below hb2, hS0.2.out.2.1.below hb2, hS0.2.out.2.2.trans (hb2.mono hS0.2.out.2.2.size)⟩⟩
   simp only [pt, sb, s0, s1]
   (refine yl (v := ?_) ?_ ?_; rotate_left; (intro w0 hS0; obtain ⟨⟨⟨q0, q1, q2, q3, q4⟩, ⟨r0, r1, r2, r3, r4⟩⟩, hH⟩ := hS0; go_simp; try with_reducible rfl); simp only [pt, sb, s0, s1])
   refine tame_done (by kernel_rfl) ?_ _
   intro w1 hS1
   have HZ : Hid (Below w.heap.size w w1) := hS1.2.out.2.2
   clear hS1
   go_wp2
   go_roundw
   case rel => exact ⟨k + 1, by omega, by go_num, HZ.out⟩
   case measure => simp [intOf]; omega
  ·have i1 : ¬ (k : Int) < (l.length : Int) := by omega
   go_wp2
   go_ret
   exact ⟨rfl, HB.out⟩
end Go.Proofs.YtkbcplnlehdjfaaGreat

/- A partition in memory of its own, while it is made: a thing more in one of its lists. (Made by mkpartadd.py.) -/
namespace Go.Proofs.YtkbcplnlehdjfaaGreat
open Go.RowKit
theorem nodup_grow {Z A A' K k R : List Nat} (h : (Z ++ (A ++ (K ++ R))).Nodup) (hA : A'.Nodup) (hk : k.Nodup) (h1 : ∀ g ∈ A', g ∉ Z ∧ g ∉ K ∧ g ∉ k ∧ g ∉ R) (h2 : ∀ g ∈ k, g ∉ Z ∧ g ∉ K ∧ g ∉ R) : (Z ++ (A' ++ ((K ++ k) ++ R))).Nodup := by
 simp only [List.nodup_append, List.mem_append] at h ⊢
 obtain ⟨hz, ⟨-, ⟨hK, hR, hKR⟩, -⟩, hzz⟩ := h
 refine ⟨hz, ⟨hA, ⟨⟨hK, hk, fun a ha b hb e => (h2 b hb).2.1 (e ▸ ha)⟩, hR, fun a ha b hb e => ?_⟩, fun a ha b hb e => ?_⟩, fun a ha b hb e => ?_⟩
 ·rcases ha with ha | ha
  ·exact hKR a ha b hb e
  ·exact (h2 a ha).2.2 (e ▸ hb)
 ·subst e
  rcases hb with (hb | hb) | hb
  ·exact (h1 a ha).2.1 hb
  ·exact (h1 a ha).2.2.1 hb
  ·exact (h1 a ha).2.2.2 hb
 ·subst e
  rcases hb with hb | (hb | hb) | hb
  ·exact (h1 a hb).1 ha
  ·exact hzz a ha a (.inr (.inl hb)) rfl
  ·exact (h2 a hb).1 ha
  ·exact hzz a ha a (.inr (.inr hb)) rfl
theorem blk_nodup (a : Option Addr) : (blk a).Nodup := by cases a <;> simp [blk]
theorem kidL_nodup {α : Type} (N : Nest α) (x : α) : ([x].filterMap N.kid).Nodup := by
 cases h : N.kid x <;> simp [h]
theorem exists_kid {α : Type} {N : Nest α} {l : List α} {y : α} {g : Nat} (hy : y ∈ l) (hk : N.kid y = some g) : (∃ a, a ∈ l ∧ N.kid a = some g) = True := by simp only [eq_iff_iff, iff_true]; exact ⟨y, hy, hk⟩
theorem mem_kidL {α : Type} {N : Nest α} {x : α} {g : Nat} : g ∈ [x].filterMap N.kid ↔ N.kid x = some g := by simp
/-- One more of the kind Proc. -/
theorem PartOwn.addProc {w w' : World} {base : Nat} {q : PartD} {x : ProcD} {a : Option Addr} {c : Nat} (h : PartOwn w base q) (hm : procN.Mine w base x) (hx : ∀ g, procN.kid x = some g → g ∉ q.blocks)
  (ho : w'.ownsRow base 43 12 (.slice a (q.procs.length + 1) c) (q.procs.length + 1) (procK.flat (q.procs ++ [x]))) (hg : ∀ g, g < w.heap.size → g ∉ blk q.procA → w'.heap[g]? = w.heap[g]?) (hb : ∀ g ∈ blk a, g ∈ blk q.procA ∨ g = w.heap.size) :
  PartOwn w' base ({ q with procs := q.procs ++ [x], procA := a, procC := c } : PartD) ∧ ∀ g ∈ ({ q with procs := q.procs ++ [x], procA := a, procC := c } : PartD).blocks, g ∈ q.blocks ∨ procN.kid x = some g ∨ g = w.heap.size := by
 have hbs : q.blocks = [] ++ (blk q.procA ++ (q.procs.filterMap procN.kid ++ (blk q.semA ++ (blk q.eventA ++ (blk q.boardA ++ (blk q.bufferA ++ (q.buffers.filterMap bufferN.kid ++ (blk q.portA ++ q.ports.filterMap portN.kid)))))))) := by simp [PartD.blocks]
 have hbn : ({ q with procs := q.procs ++ [x], procA := a, procC := c } : PartD).blocks = [] ++ (blk a ++ ((q.procs.filterMap procN.kid ++ [x].filterMap procN.kid) ++ (blk q.semA ++ (blk q.eventA ++ (blk q.boardA ++ (blk q.bufferA ++ (q.buffers.filterMap bufferN.kid ++ (blk q.portA ++ q.ports.filterMap portN.kid)))))))) := by simp only [PartD.blocks, List.append_assoc, List.filterMap_append, List.nil_append]
 have hnd := h.nodup
 rw [hbs] at hnd
 have hlt : ∀ g ∈ q.blocks, g < w.heap.size := fun g hg => (h.lt g hg).2
 have hapart : ∀ g ∈ q.blocks, g ∉ blk q.procA → w'.heap[g]? = w.heap[g]? := fun g hgm hn => hg g (hlt g hgm) hn
 have hdis : ∀ g, (g ∈ [] ∨ g ∈ q.procs.filterMap procN.kid ∨ g ∈ (blk q.semA ++ (blk q.eventA ++ (blk q.boardA ++ (blk q.bufferA ++ (q.buffers.filterMap bufferN.kid ++ (blk q.portA ++ q.ports.filterMap portN.kid))))))) → g ∉ blk q.procA := fun g hgm hA => by
  obtain ⟨-, h2, h3⟩ := List.nodup_append.1 hnd
  obtain ⟨-, -, h4⟩ := List.nodup_append.1 h2
  rcases hgm with hgm | hgm | hgm
  ·exact h3 g hgm g (List.mem_append_left _ hA) rfl
  ·exact h4 g hA g (List.mem_append_left _ hgm) rfl
  ·exact h4 g hA g (List.mem_append_right _ hgm) rfl
 have hmem : ∀ g, (g ∈ [] ∨ g ∈ q.procs.filterMap procN.kid ∨ g ∈ (blk q.semA ++ (blk q.eventA ++ (blk q.boardA ++ (blk q.bufferA ++ (q.buffers.filterMap bufferN.kid ++ (blk q.portA ++ q.ports.filterMap portN.kid))))))) → g ∈ q.blocks := fun g hgm => by
  rw [hbs]
  simp only [List.mem_append]
  simp only [List.mem_append] at hgm
  rcases hgm with hgm | hgm | hgm
  ·exact .inl hgm
  ·exact .inr (.inr (.inl hgm))
  ·exact .inr (.inr (.inr hgm))
 have hs : ∀ g, (g ∈ [] ∨ g ∈ q.procs.filterMap procN.kid ∨ g ∈ (blk q.semA ++ (blk q.eventA ++ (blk q.boardA ++ (blk q.bufferA ++ (q.buffers.filterMap bufferN.kid ++ (blk q.portA ++ q.ports.filterMap portN.kid))))))) → w'.heap[g]? = w.heap[g]? := fun g hgm => hapart g (hmem g hgm) (hdis g hgm)
 have hxs : ∀ g, procN.kid x = some g → w'.heap[g]? = w.heap[g]? := fun g hk => hg g (hm.lt hk).2 fun hA => hx g hk (by rw [hbs]; simp only [List.mem_append]; exact .inr (.inl hA))
 refine ⟨⟨(by simpa using ho), own_same h.sems fun g hgm => hs g (.inr <| .inr (by simp [hgm])), own_same h.events fun g hgm => hs g (.inr <| .inr (by simp [hgm])), own_same h.boards fun g hgm => hs g (.inr <| .inr (by simp [hgm])), own_same h.buffers fun g hgm => hs g (.inr <| .inr (by simp [hgm])), own_same h.ports fun g hgm => hs g (.inr <| .inr (by simp [hgm])), fun y hy => by
  rcases List.mem_append.1 hy with hy | hy
  ·exact (h.mineP y hy).same fun g hk => hs g (.inr (.inl (List.mem_filterMap.2 ⟨y, hy, hk⟩)))
  ·simp only [List.mem_cons, List.not_mem_nil, or_false] at hy
   subst hy
   exact hm.same hxs, fun y hy => (h.mineF y hy).same fun g hk => hs g (.inr <| .inr (by simp only [List.mem_append, List.mem_filterMap]; simp [exists_kid hy hk])), fun y hy => (h.mineQ y hy).same fun g hk => hs g (.inr <| .inr (by simp only [List.mem_append, List.mem_filterMap]; simp [exists_kid hy hk])), ?_⟩, ?_⟩
 ·rw [hbn]
  refine nodup_grow hnd (blk_nodup a) (kidL_nodup _ x) (fun g hga => ?_) (fun g hgk => ?_)
  ·have key : ∀ g', (g' ∈ [] ∨ g' ∈ q.procs.filterMap procN.kid ∨ g' ∈ (blk q.semA ++ (blk q.eventA ++ (blk q.boardA ++ (blk q.bufferA ++ (q.buffers.filterMap bufferN.kid ++ (blk q.portA ++ q.ports.filterMap portN.kid))))))) → g' ≠ g := fun g' hg' e => by
    rcases hb g hga with h1 | h1
    ·exact hdis g' hg' (e ▸ h1)
    ·have := hlt g' (hmem g' hg')
     omega
   refine ⟨fun hz => key g (.inl hz) rfl, fun hz => key g (.inr (.inl hz)) rfl, fun hz => ?_, fun hz => key g (.inr (.inr hz)) rfl⟩
   rw [mem_kidL] at hz
   rcases hb g hga with h1 | h1
   ·exact hx g hz (by rw [hbs]; simp only [List.mem_append]; exact .inr (.inl h1))
   ·have := (hm.lt hz).2
    omega
  ·rw [mem_kidL] at hgk
   have hn := hx g hgk
   exact ⟨fun hz => hn (hmem g (.inl hz)), fun hz => hn (hmem g (.inr (.inl hz))), fun hz => hn (hmem g (.inr (.inr hz)))⟩
 ·intro g hgm
  rw [hbn] at hgm
  rw [hbs]
  simp only [List.mem_append] at hgm ⊢
  rcases hgm with hgm | hgm | (hgm | hgm) | hgm
  ·exact .inl (.inl hgm)
  ·rcases hb g hgm with h1 | h1
   ·exact .inl (.inr (.inl h1))
   ·exact .inr (.inr h1)
  ·exact .inl (.inr (.inr (.inl hgm)))
  ·exact .inr (.inl (mem_kidL.1 hgm))
  ·exact .inl (.inr (.inr (.inr hgm)))
/-- One more of the kind Buffer. -/
theorem PartOwn.addBuffer {w w' : World} {base : Nat} {q : PartD} {x : BufferD} {a : Option Addr} {c : Nat} (h : PartOwn w base q) (hm : bufferN.Mine w base x) (hx : ∀ g, bufferN.kid x = some g → g ∉ q.blocks)
  (ho : w'.ownsRow base 144 3 (.slice a (q.buffers.length + 1) c) (q.buffers.length + 1) (bufferK.flat (q.buffers ++ [x]))) (hg : ∀ g, g < w.heap.size → g ∉ blk q.bufferA → w'.heap[g]? = w.heap[g]?) (hb : ∀ g ∈ blk a, g ∈ blk q.bufferA ∨ g = w.heap.size) :
  PartOwn w' base ({ q with buffers := q.buffers ++ [x], bufferA := a, bufferC := c } : PartD) ∧ ∀ g ∈ ({ q with buffers := q.buffers ++ [x], bufferA := a, bufferC := c } : PartD).blocks, g ∈ q.blocks ∨ bufferN.kid x = some g ∨ g = w.heap.size := by
 have hbs : q.blocks = (blk q.procA ++ q.procs.filterMap procN.kid ++ blk q.semA ++ blk q.eventA ++ blk q.boardA) ++ (blk q.bufferA ++ (q.buffers.filterMap bufferN.kid ++ (blk q.portA ++ q.ports.filterMap portN.kid))) := by simp [PartD.blocks, List.append_assoc]
 have hbn : ({ q with buffers := q.buffers ++ [x], bufferA := a, bufferC := c } : PartD).blocks = (blk q.procA ++ q.procs.filterMap procN.kid ++ blk q.semA ++ blk q.eventA ++ blk q.boardA) ++ (blk a ++ ((q.buffers.filterMap bufferN.kid ++ [x].filterMap bufferN.kid) ++ (blk q.portA ++ q.ports.filterMap portN.kid))) := by simp only [PartD.blocks, List.append_assoc, List.filterMap_append]
 have hnd := h.nodup
 rw [hbs] at hnd
 have hlt : ∀ g ∈ q.blocks, g < w.heap.size := fun g hg => (h.lt g hg).2
 have hapart : ∀ g ∈ q.blocks, g ∉ blk q.bufferA → w'.heap[g]? = w.heap[g]? := fun g hgm hn => hg g (hlt g hgm) hn
 have hdis : ∀ g, (g ∈ (blk q.procA ++ q.procs.filterMap procN.kid ++ blk q.semA ++ blk q.eventA ++ blk q.boardA) ∨ g ∈ q.buffers.filterMap bufferN.kid ∨ g ∈ (blk q.portA ++ q.ports.filterMap portN.kid)) → g ∉ blk q.bufferA := fun g hgm hA => by
  obtain ⟨-, h2, h3⟩ := List.nodup_append.1 hnd
  obtain ⟨-, -, h4⟩ := List.nodup_append.1 h2
  rcases hgm with hgm | hgm | hgm
  ·exact h3 g hgm g (List.mem_append_left _ hA) rfl
  ·exact h4 g hA g (List.mem_append_left _ hgm) rfl
  ·exact h4 g hA g (List.mem_append_right _ hgm) rfl
 have hmem : ∀ g, (g ∈ (blk q.procA ++ q.procs.filterMap procN.kid ++ blk q.semA ++ blk q.eventA ++ blk q.boardA) ∨ g ∈ q.buffers.filterMap bufferN.kid ∨ g ∈ (blk q.portA ++ q.ports.filterMap portN.kid)) → g ∈ q.blocks := fun g hgm => by
  rw [hbs]
  simp only [List.mem_append]
  simp only [List.mem_append] at hgm
  rcases hgm with hgm | hgm | hgm
  ·exact .inl hgm
  ·exact .inr (.inr (.inl hgm))
  ·exact .inr (.inr (.inr hgm))
 have hs : ∀ g, (g ∈ (blk q.procA ++ q.procs.filterMap procN.kid ++ blk q.semA ++ blk q.eventA ++ blk q.boardA) ∨ g ∈ q.buffers.filterMap bufferN.kid ∨ g ∈ (blk q.portA ++ q.ports.filterMap portN.kid)) → w'.heap[g]? = w.heap[g]? := fun g hgm => hapart g (hmem g hgm) (hdis g hgm)
 have hxs : ∀ g, bufferN.kid x = some g → w'.heap[g]? = w.heap[g]? := fun g hk => hg g (hm.lt hk).2 fun hA => hx g hk (by rw [hbs]; simp only [List.mem_append]; exact .inr (.inl hA))
 refine ⟨⟨own_same h.procs fun g hgm => hs g (.inl (by simp [hgm])), own_same h.sems fun g hgm => hs g (.inl (by simp [hgm])), own_same h.events fun g hgm => hs g (.inl (by simp [hgm])), own_same h.boards fun g hgm => hs g (.inl (by simp [hgm])), (by simpa using ho), own_same h.ports fun g hgm => hs g (.inr <| .inr (by simp [hgm])), fun y hy => (h.mineP y hy).same fun g hk => hs g (.inl (by simp only [List.mem_append, List.mem_filterMap]; simp [exists_kid hy hk])), fun y hy => by
  rcases List.mem_append.1 hy with hy | hy
  ·exact (h.mineF y hy).same fun g hk => hs g (.inr (.inl (List.mem_filterMap.2 ⟨y, hy, hk⟩)))
  ·simp only [List.mem_cons, List.not_mem_nil, or_false] at hy
   subst hy
   exact hm.same hxs, fun y hy => (h.mineQ y hy).same fun g hk => hs g (.inr <| .inr (by simp only [List.mem_append, List.mem_filterMap]; simp [exists_kid hy hk])), ?_⟩, ?_⟩
 ·rw [hbn]
  refine nodup_grow hnd (blk_nodup a) (kidL_nodup _ x) (fun g hga => ?_) (fun g hgk => ?_)
  ·have key : ∀ g', (g' ∈ (blk q.procA ++ q.procs.filterMap procN.kid ++ blk q.semA ++ blk q.eventA ++ blk q.boardA) ∨ g' ∈ q.buffers.filterMap bufferN.kid ∨ g' ∈ (blk q.portA ++ q.ports.filterMap portN.kid)) → g' ≠ g := fun g' hg' e => by
    rcases hb g hga with h1 | h1
    ·exact hdis g' hg' (e ▸ h1)
    ·have := hlt g' (hmem g' hg')
     omega
   refine ⟨fun hz => key g (.inl hz) rfl, fun hz => key g (.inr (.inl hz)) rfl, fun hz => ?_, fun hz => key g (.inr (.inr hz)) rfl⟩
   rw [mem_kidL] at hz
   rcases hb g hga with h1 | h1
   ·exact hx g hz (by rw [hbs]; simp only [List.mem_append]; exact .inr (.inl h1))
   ·have := (hm.lt hz).2
    omega
  ·rw [mem_kidL] at hgk
   have hn := hx g hgk
   exact ⟨fun hz => hn (hmem g (.inl hz)), fun hz => hn (hmem g (.inr (.inl hz))), fun hz => hn (hmem g (.inr (.inr hz)))⟩
 ·intro g hgm
  rw [hbn] at hgm
  rw [hbs]
  simp only [List.mem_append] at hgm ⊢
  rcases hgm with hgm | hgm | (hgm | hgm) | hgm
  ·exact .inl (.inl hgm)
  ·rcases hb g hgm with h1 | h1
   ·exact .inl (.inr (.inl h1))
   ·exact .inr (.inr h1)
  ·exact .inl (.inr (.inr (.inl hgm)))
  ·exact .inr (.inl (mem_kidL.1 hgm))
  ·exact .inl (.inr (.inr (.inr hgm)))
/-- One more of the kind Port. -/
theorem PartOwn.addPort {w w' : World} {base : Nat} {q : PartD} {x : PortD} {a : Option Addr} {c : Nat} (h : PartOwn w base q) (hm : portN.Mine w base x) (hx : ∀ g, portN.kid x = some g → g ∉ q.blocks)
  (ho : w'.ownsRow base 61 5 (.slice a (q.ports.length + 1) c) (q.ports.length + 1) (portK.flat (q.ports ++ [x]))) (hg : ∀ g, g < w.heap.size → g ∉ blk q.portA → w'.heap[g]? = w.heap[g]?) (hb : ∀ g ∈ blk a, g ∈ blk q.portA ∨ g = w.heap.size) :
  PartOwn w' base ({ q with ports := q.ports ++ [x], portA := a, portC := c } : PartD) ∧ ∀ g ∈ ({ q with ports := q.ports ++ [x], portA := a, portC := c } : PartD).blocks, g ∈ q.blocks ∨ portN.kid x = some g ∨ g = w.heap.size := by
 have hbs : q.blocks = (blk q.procA ++ q.procs.filterMap procN.kid ++ blk q.semA ++ blk q.eventA ++ blk q.boardA ++ blk q.bufferA ++ q.buffers.filterMap bufferN.kid) ++ (blk q.portA ++ (q.ports.filterMap portN.kid ++ [])) := by simp [PartD.blocks, List.append_assoc]
 have hbn : ({ q with ports := q.ports ++ [x], portA := a, portC := c } : PartD).blocks = (blk q.procA ++ q.procs.filterMap procN.kid ++ blk q.semA ++ blk q.eventA ++ blk q.boardA ++ blk q.bufferA ++ q.buffers.filterMap bufferN.kid) ++ (blk a ++ ((q.ports.filterMap portN.kid ++ [x].filterMap portN.kid) ++ [])) := by simp only [PartD.blocks, List.append_assoc, List.filterMap_append, List.append_nil]
 have hnd := h.nodup
 rw [hbs] at hnd
 have hlt : ∀ g ∈ q.blocks, g < w.heap.size := fun g hg => (h.lt g hg).2
 have hapart : ∀ g ∈ q.blocks, g ∉ blk q.portA → w'.heap[g]? = w.heap[g]? := fun g hgm hn => hg g (hlt g hgm) hn
 have hdis : ∀ g, (g ∈ (blk q.procA ++ q.procs.filterMap procN.kid ++ blk q.semA ++ blk q.eventA ++ blk q.boardA ++ blk q.bufferA ++ q.buffers.filterMap bufferN.kid) ∨ g ∈ q.ports.filterMap portN.kid ∨ g ∈ []) → g ∉ blk q.portA := fun g hgm hA => by
  obtain ⟨-, h2, h3⟩ := List.nodup_append.1 hnd
  obtain ⟨-, -, h4⟩ := List.nodup_append.1 h2
  rcases hgm with hgm | hgm | hgm
  ·exact h3 g hgm g (List.mem_append_left _ hA) rfl
  ·exact h4 g hA g (List.mem_append_left _ hgm) rfl
  ·exact h4 g hA g (List.mem_append_right _ hgm) rfl
 have hmem : ∀ g, (g ∈ (blk q.procA ++ q.procs.filterMap procN.kid ++ blk q.semA ++ blk q.eventA ++ blk q.boardA ++ blk q.bufferA ++ q.buffers.filterMap bufferN.kid) ∨ g ∈ q.ports.filterMap portN.kid ∨ g ∈ []) → g ∈ q.blocks := fun g hgm => by
  rw [hbs]
  simp only [List.mem_append]
  simp only [List.mem_append] at hgm
  rcases hgm with hgm | hgm | hgm
  ·exact .inl hgm
  ·exact .inr (.inr (.inl hgm))
  ·exact .inr (.inr (.inr hgm))
 have hs : ∀ g, (g ∈ (blk q.procA ++ q.procs.filterMap procN.kid ++ blk q.semA ++ blk q.eventA ++ blk q.boardA ++ blk q.bufferA ++ q.buffers.filterMap bufferN.kid) ∨ g ∈ q.ports.filterMap portN.kid ∨ g ∈ []) → w'.heap[g]? = w.heap[g]? := fun g hgm => hapart g (hmem g hgm) (hdis g hgm)
 have hxs : ∀ g, portN.kid x = some g → w'.heap[g]? = w.heap[g]? := fun g hk => hg g (hm.lt hk).2 fun hA => hx g hk (by rw [hbs]; simp only [List.mem_append]; exact .inr (.inl hA))
 refine ⟨⟨own_same h.procs fun g hgm => hs g (.inl (by simp [hgm])), own_same h.sems fun g hgm => hs g (.inl (by simp [hgm])), own_same h.events fun g hgm => hs g (.inl (by simp [hgm])), own_same h.boards fun g hgm => hs g (.inl (by simp [hgm])), own_same h.buffers fun g hgm => hs g (.inl (by simp [hgm])), (by simpa using ho), fun y hy => (h.mineP y hy).same fun g hk => hs g (.inl (by simp only [List.mem_append, List.mem_filterMap]; simp [exists_kid hy hk])), fun y hy => (h.mineF y hy).same fun g hk => hs g (.inl (by simp only [List.mem_append, List.mem_filterMap]; simp [exists_kid hy hk])), fun y hy => by
  rcases List.mem_append.1 hy with hy | hy
  ·exact (h.mineQ y hy).same fun g hk => hs g (.inr (.inl (List.mem_filterMap.2 ⟨y, hy, hk⟩)))
  ·simp only [List.mem_cons, List.not_mem_nil, or_false] at hy
   subst hy
   exact hm.same hxs, ?_⟩, ?_⟩
 ·rw [hbn]
  refine nodup_grow hnd (blk_nodup a) (kidL_nodup _ x) (fun g hga => ?_) (fun g hgk => ?_)
  ·have key : ∀ g', (g' ∈ (blk q.procA ++ q.procs.filterMap procN.kid ++ blk q.semA ++ blk q.eventA ++ blk q.boardA ++ blk q.bufferA ++ q.buffers.filterMap bufferN.kid) ∨ g' ∈ q.ports.filterMap portN.kid ∨ g' ∈ []) → g' ≠ g := fun g' hg' e => by
    rcases hb g hga with h1 | h1
    ·exact hdis g' hg' (e ▸ h1)
    ·have := hlt g' (hmem g' hg')
     omega
   refine ⟨fun hz => key g (.inl hz) rfl, fun hz => key g (.inr (.inl hz)) rfl, fun hz => ?_, fun hz => key g (.inr (.inr hz)) rfl⟩
   rw [mem_kidL] at hz
   rcases hb g hga with h1 | h1
   ·exact hx g hz (by rw [hbs]; simp only [List.mem_append]; exact .inr (.inl h1))
   ·have := (hm.lt hz).2
    omega
  ·rw [mem_kidL] at hgk
   have hn := hx g hgk
   exact ⟨fun hz => hn (hmem g (.inl hz)), fun hz => hn (hmem g (.inr (.inl hz))), fun hz => hn (hmem g (.inr (.inr hz)))⟩
 ·intro g hgm
  rw [hbn] at hgm
  rw [hbs]
  simp only [List.mem_append] at hgm ⊢
  rcases hgm with hgm | hgm | (hgm | hgm) | hgm
  ·exact .inl (.inl hgm)
  ·rcases hb g hgm with h1 | h1
   ·exact .inl (.inr (.inl h1))
   ·exact .inr (.inr h1)
  ·exact .inl (.inr (.inr (.inl hgm)))
  ·exact .inr (.inl (mem_kidL.1 hgm))
  ·exact .inl (.inr (.inr (.inr hgm)))
end Go.Proofs.YtkbcplnlehdjfaaGreat
