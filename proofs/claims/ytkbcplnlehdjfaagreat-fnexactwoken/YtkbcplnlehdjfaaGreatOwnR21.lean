/- What the proof leans on, part 21: LwEvent, LwStr. -/
import Derived.Test.YtkbcplnlehdjfaaGreatOwnR1
import Derived.Test.YtkbcplnlehdjfaaGreatOwnR19

namespace Go.Proofs.YtkbcplnlehdjfaaGreat
open Go.RowKit
attribute [local go_sem ↓] Go.wp_at_zero Go.wp_at_succ
set_option maxHeartbeats 2000000 in
theorem szSEvent_l (a : Option Addr) (l : List EventD) (cap : Nat) (left : Int) (w : World) (hl : l.length ≤ maxLen) (h0 : 0 ≤ left) (h1 : left ≤ 1048576) :
  Calls Tryz.prog 109 #[.slice a l.length cap, .int .i64 left] w fun e w' => SzEnds w left (l.length) (l.length ≤ 1048576) e w' := by
 have hl' := hl
 unfold maxLen at hl'
 by_cases hn : left - (l.length : Int) < 0
 ·go_enter Tryz.func109, Tryz.ntmps109
  go_wp2
  go_ret
  exact szEnds_no (Below.refl _ _) h0
 go_enter Tryz.func109, Tryz.ntmps109
 go_wp2
 go_ret
 exact ⟨left - (l.length : Int), rfl, by omega, by omega, fun _ => ⟨by omega, by omega⟩, Below.refl _ _⟩
set_option maxRecDepth 100000 in
set_option maxHeartbeats 4000000 in
theorem toEvent_l (x : EventD) (w : World) : Calls Tryz.prog 193 #[.agg #[.int .i64 x.id, .bool x.up]] w fun e w' => e = .returned (.agg #[.int .i64 x.id, .bool x.up]) ∧ Below w.heap.size w w' := by
 go_enter Tryz.func193, Tryz.ntmps193
 go_wp2
 exact bodyPost_ret (v := .agg #[.int .i64 x.id, .bool x.up]) (by simp [results, Tryz.results193, go_sem]) rfl ⟨rfl, by go_grown⟩
theorem infoEvent : (Tryz.prog.info? 138).map (fun i => (i.zero, i.size, decide (i.bytes ≤ 1000))) = some (some (.agg #[.int .i64 0, .bool false]), 2, true) := by kernel_rfl
theorem makeEvent (n : Nat) (hn : n ≤ 1048576) (w : World) :
  (Instr.makeSlice 27 (.int .i64 (n : Int)) (.int .i64 (n : Int))).run Tryz.prog w = .ok (.slice (some ⟨w.heap.size, 0, none⟩) n n) (w.alloc (.cells (madeCells #[.int .i64 0, .bool false] (n * 2)) 138)) := by
 obtain ⟨i, hi, e⟩ := Option.map_eq_some_iff.1 infoEvent
 simp only [Prod.mk.injEq, decide_eq_true_eq] at e
 obtain ⟨e1, e2, e3⟩ := e
 have hby : n * i.bytes ≤ 1048576 * 1000 := Nat.mul_le_mul hn e3
 have := run_make (P := Tryz.prog) w 27 138 i _ Tryz.underlying27 hi e1 .i64 .i64 n n (by omega) (by omega) (by rw [Nat.mul_comm] at hby; first | omega | (rw [Nat.mul_comm]; omega)) (by omega)
 rw [this, e2]
 simp [Value.cells]
set_option maxRecDepth 100000 in
set_option maxHeartbeats 4000000 in
theorem toSEvent_l (a : Option Addr) (l : List EventD) (cap : Nat) (w : World) (hl : l.length ≤ 1048576) (hc : eventK.Came w a l) :
  Calls Tryz.prog 115 #[.slice a l.length cap] w fun e w' => e = .returned (.slice (some ⟨w.heap.size, 0, none⟩) l.length l.length) ∧ w'.ownsRow w.heap.size 138 2 (.slice (some ⟨w.heap.size, 0, none⟩) l.length l.length) l.length (eventK.flat l) ∧ Below w.heap.size w w' := by
 have hmk := makeEvent l.length hl
 have HC : Hid (eventK.Came w a l) := hc
 have HF : Hid (Fill eventK 138 w (w.alloc (.cells (madeCells #[.int .i64 0, .bool false] (l.length * 2)) 138)) l.length []) := Fill.start (by rw [size_madeCells]; rfl)
 clear hc
 go_enter Tryz.func115, Tryz.ntmps115
 go_wp2_with fail
 go_loopw [4] (fun i wr => ∃ k : Nat, k ≤ l.length ∧ i = .int .i64 k ∧ Hid (Fill eventK 138 w wr l.length (l.take k))) (fun i _ => l.length - (intOf i).toNat)
 case atStart => exact ⟨0, Nat.zero_le _, rfl, HF.out⟩
 case round =>
  clear hmk HF
  obtain ⟨k, hk, rfl, HR⟩ := hrel
  by_cases hlt : k < l.length
  ·have i0 : (0 : Int) ≤ (k : Int) := by omega
   have i1 : (k : Int) < (l.length : Int) := by omega
   obtain ⟨x, hx⟩ : ∃ x, l[k]? = some x := ⟨_, List.getElem?_eq_getElem hlt⟩
   obtain ⟨b, off, rfl, hat⟩ := (HC.out.below HR.out.bel).at hx
   have c0 : wr.cell? ⟨b, off + k * 2, none⟩ = some (.int .i64 x.id) := hat 0 _ rfl
   have c1 : wr.cell? ⟨b, off + k * 2 + 1, none⟩ = some (.bool x.up) := hat 1 _ rfl
   have HX : Hid (l[k]? = some x) := hx
   have hfl := HR.out.lt
   clear hx hat
   go_wp2_with fail
   refine (toEvent_l x wr).mono ?_
   rintro e w1 ⟨rfl, hb1⟩
   have HR1 : Hid (Fill eventK 138 w w1 l.length (l.take k)) := HR.out.below hb1
   obtain ⟨⟨u, hu⟩, hf⟩ := HR1.out.at
   have d0 := hu (k * 2) (by show k * 2 < l.length * 2; omega)
   have f0 := hf (k * 2)
   have d1 := hu (k * 2 + 1) (by show k * 2 + 1 < l.length * 2; omega)
   have f1 := hf (k * 2 + 1)
   have HS : Hid (Fill eventK 138 w ((w1.setCell ⟨w.heap.size, k * 2, none⟩ (.int .i64 x.id)).setCell ⟨w.heap.size, k * 2 + 1, none⟩ (.bool x.up)) l.length (l.take (k + 1))) := by
    have h5 := HR1.out.more (by rw [List.length_take]; omega) x
    rw [← take_up HX.out, List.length_take, Nat.min_eq_left hk, show eventK.vals x = [.int .i64 x.id, .bool x.up] from rfl, show eventK.n = 2 from rfl] at h5
    simp only [setAllW] at h5
    exact h5
   clear hu hf hb1 HR HR1 c0 c1
   go_wp2
   go_roundw
   case rel => exact ⟨k + 1, by omega, by go_num, HS.out⟩
   case measure => simp [intOf]; omega
  ·have i1 : ¬ (k : Int) < (l.length : Int) := by omega
   have ek : k = l.length := by omega
   subst ek
   go_wp2
   go_ret
   have h6 := HR.out.done (by rw [List.length_take]; omega) (by unfold maxLen; omega)
   rw [List.take_length] at h6
   exact ⟨rfl, h6, HR.out.bel⟩
set_option maxRecDepth 100000 in
set_option maxHeartbeats 4000000 in
theorem eqEvent_l (x : EventD) (w : World) : Calls Tryz.prog 197 #[.agg #[.int .i64 x.id, .bool x.up], .agg #[.int .i64 x.id, .bool x.up]] w fun e w' => e = .returned (.bool true) ∧ Below w.heap.size w w' := by
 go_enter Tryz.func197, Tryz.ntmps197
 go_wp2
 go_ret
 exact ⟨ret_bool (by simp), by go_grown⟩
def EqSEvent (w : World) (a a' : Option Addr) (l : List EventD) (x : EventD) (g g' k : Nat) (w' : World) : Prop := ((w'.cell? ⟨g, k * 2, none⟩ = some (.int .i64 x.id) ∧ w'.cell? ⟨g, k * 2 + 1, none⟩ = some (.bool x.up)) ∧ (w'.cell? ⟨g', k * 2, none⟩ = some (.int .i64 x.id) ∧ w'.cell? ⟨g', k * 2 + 1, none⟩ = some (.bool x.up))) ∧ Hid (eventK.Lies w' a l ∧ eventK.Lies w' a' l ∧ Below w.heap.size w w')
theorem eqSEvent_of {w w' : World} {a a' : Option Addr} {l : List EventD} {x : EventD} {g g' k : Nat} (ha : a = some ⟨g, 0, none⟩) (ha' : a' = some ⟨g', 0, none⟩) (hx : l[k]? = some x) (h : eventK.Lies w' a l ∧ eventK.Lies w' a' l ∧ Below w.heap.size w w') : EqSEvent w a a' l x g g' k w' := by
 obtain ⟨g1, e1, h1⟩ := h.1.at hx
 obtain ⟨g2, e2, h2⟩ := h.2.1.at hx
 rw [ha] at e1
 rw [ha'] at e2
 cases e1
 cases e2
 exact ⟨⟨⟨h1 0 _ rfl, h1 1 _ rfl⟩, ⟨h2 0 _ rfl, h2 1 _ rfl⟩⟩, h⟩
set_option maxRecDepth 100000 in
set_option maxHeartbeats 4000000 in
theorem eqSEvent_l (a a' : Option Addr) (l : List EventD) (cap cap' : Nat) (w : World) (hl : l.length ≤ 1048576) (h : eventK.Lies w a l) (h' : eventK.Lies w a' l) :
  Calls Tryz.prog 121 #[.slice a l.length cap, .slice a' l.length cap'] w fun e w' => e = .returned (.bool true) ∧ Below w.heap.size w w' := by
 have HL : Hid (eventK.Lies w a l ∧ eventK.Lies w a' l) := ⟨h, h'⟩
 clear h h'
 go_enter Tryz.func121, Tryz.ntmps121
 go_wp2_with fail
 go_loopw [5] (fun i wr => ∃ k : Nat, k ≤ l.length ∧ i = .int .i64 k ∧ Hid (Below w.heap.size w wr)) (fun i _ => l.length - (intOf i).toNat)
 case atStart => exact ⟨0, Nat.zero_le _, rfl, Below.refl _ _⟩
 case round =>
  obtain ⟨k, hk, rfl, HB⟩ := hrel
  by_cases hlt : k < l.length
  ·have i0 : (0 : Int) ≤ (k : Int) := by omega
   have i1 : (k : Int) < (l.length : Int) := by omega
   obtain ⟨x, hx⟩ : ∃ x, l[k]? = some x := ⟨_, List.getElem?_eq_getElem hlt⟩
   obtain ⟨g, ha, -⟩ := HL.out.1.at hx
   obtain ⟨g', ha', -⟩ := HL.out.2.at hx
   have HX : Hid (a = some ⟨g, 0, none⟩ ∧ a' = some ⟨g', 0, none⟩ ∧ l[k]? = some x) := ⟨ha, ha', hx⟩
   have HS : Hid (EqSEvent w a a' l x g g' k wr) := eqSEvent_of ha ha' hx ⟨HL.out.1.below HB.out, HL.out.2.below HB.out, HB.out⟩
   clear hx
   rw [ha, ha']
   clear ha ha'
   go_wp2_with fail
   refine tame_region (EqSEvent w a a' l x g g' k) (by kernel_rfl) (eqSEvent_of HX.out.1 HX.out.2.1 HX.out.2.2 ⟨HS.out.2.out.1.below (Below.refl _ _).drew, HS.out.2.out.2.1.below (Below.refl _ _).drew, HS.out.2.out.2.2.drew⟩) ?_
   iterate 8 (refine yl (v := ?_) ?_ ?_; rotate_left; (intro w0 hS0; obtain ⟨⟨⟨q0, q1⟩, ⟨r0, r1⟩⟩, hH⟩ := hS0; go_simp; try with_reducible rfl); simp only [pt, sb, s0, s1])
   refine cl (.bool true) 197 #[.agg #[.int .i64 x.id, .bool x.up], .agg #[.int .i64 x.id, .bool x.up]] ?_ ?_ ?_
   ·intro w0 hS0
    obtain ⟨⟨⟨q0, q1⟩, ⟨r0, r1⟩⟩, hH⟩ := hS0
    go_simp
    try with_reducible rfl
   ·intro w0 hS0
    refine (eqEvent_l x w0).mono ?_
    rintro e w2 ⟨rfl, hb2⟩
    exact ⟨rfl, eqSEvent_of HX.out.1 HX.out.2.1 HX.out.2.2 ⟨hS0.2.out.1.below hb2, hS0.2.out.2.1.below hb2, hS0.2.out.2.2.trans (hb2.mono hS0.2.out.2.2.size)⟩⟩
   simp only [pt, sb, s0, s1]
   (refine yl (v := ?_) ?_ ?_; rotate_left; (intro w0 hS0; obtain ⟨⟨⟨q0, q1⟩, ⟨r0, r1⟩⟩, hH⟩ := hS0; go_simp; try with_reducible rfl); simp only [pt, sb, s0, s1])
   refine tame_done (by kernel_rfl) ?_ _
   intro w1 hS1
   have HZ : Hid (Below w.heap.size w w1) := hS1.2.out.2.2
   clear hS1
   go_wp2
   go_roundw
   case rel => exact ⟨k + 1, by omega, by go_num, HZ.out⟩
   case measure => simp [intOf]; omega
  ·have i1 : ¬ (k : Int) < (l.length : Int) := by omega
   go_wp2
   go_ret
   exact ⟨rfl, HB.out⟩
end Go.Proofs.YtkbcplnlehdjfaaGreat

/- The laws' functions on things of the kind Str: measured, copied, held against each other. (Made by mklw.py.) -/
namespace Go.Proofs.YtkbcplnlehdjfaaGreat
open Go.RowKit
attribute [local go_sem ↓] Go.wp_at_zero Go.wp_at_succ
set_option maxHeartbeats 2000000 in
theorem szSStr_l (a : Option Addr) (l : List ByteArray) (cap : Nat) (left : Int) (w : World) (hl : l.length ≤ maxLen) (hc : strK.Came w a l) (hs : ∀ x ∈ l, (x.size ≤ maxLen)) (h0 : 0 ≤ left) (h1 : left ≤ 1048576) :
  Calls Tryz.prog 141 #[.slice a l.length cap, .int .i64 left] w fun e w' => SzEnds w left (l.length) (l.length ≤ 1048576 ∧ ∀ x ∈ l, (x.size ≤ 1048576)) e w' := by
 have hl' := hl
 unfold maxLen at hl'
 by_cases hn : left - (l.length : Int) < 0
 ·go_enter Tryz.func141, Tryz.ntmps141
  go_wp2
  go_ret
  exact szEnds_no (Below.refl _ _) h0
 have HC : Hid (strK.Came w a l ∧ ∀ x ∈ l, (x.size ≤ maxLen)) := ⟨hc, hs⟩
 clear hc hs hl
 go_enter Tryz.func141, Tryz.ntmps141
 go_wp2_with fail
 go_loopw [1, 5] (fun q i wr => ∃ (k : Nat) (r : Int), k ≤ l.length ∧ i = .int .i64 k ∧ q = .int .i64 r ∧ 0 ≤ r ∧ r ≤ left - (l.length : Int) ∧ Hid ((∀ x ∈ l.take k, (x.size ≤ 1048576)) ∧ Below w.heap.size w wr)) (fun _ i _ => l.length - (intOf i).toNat)
 case atStart => exact ⟨0, left - (l.length : Int), Nat.zero_le _, rfl, rfl, by omega, by omega, ⟨by simp, Below.refl _ _⟩⟩
 case round =>
  obtain ⟨k, r, hk, rfl, rfl, r0, r1, HA⟩ := hrel
  by_cases hlt : k < l.length
  ·have i0 : (0 : Int) ≤ (k : Int) := by omega
   have i1 : (k : Int) < (l.length : Int) := by omega
   obtain ⟨x, hx⟩ : ∃ x, l[k]? = some x := ⟨_, List.getElem?_eq_getElem hlt⟩
   have hmem := List.mem_of_getElem? hx
   obtain ⟨b, off, rfl, hat⟩ := (HC.out.1.below HA.out.2).at hx
   have c0 : wr.cell? ⟨b, off + k, none⟩ = some (.string x) := by have := hat 0 _ rfl; rw [show off + k * strK.n + 0 = off + k by show off + k * 1 + 0 = off + k; omega] at this; exact this
   have HX : Hid (l[k]? = some x ∧ (x.size ≤ maxLen)) := ⟨hx, HC.out.2 x hmem⟩
   clear hx hmem hat
   have z0 : x.size ≤ 9223372036854775807 := HX.out.2
   by_cases hneg : r - (x.size : Int) < 0
   ·go_wp2
    go_ret
    exact szEnds_no HA.out.2 h0
   go_wp2
   go_roundw
   case rel => exact ⟨k + 1, r - (x.size : Int), by omega, by go_num, rfl, by omega, by omega, ⟨all_up HX.out.1 HA.out.1 (by omega), HA.out.2⟩⟩
   case measure => simp [intOf]; omega
  ·have i1 : ¬ (k : Int) < (l.length : Int) := by omega
   go_wp2
   go_ret
   exact ⟨r, rfl, by omega, by omega, fun _ => ⟨⟨by omega, all_end (by omega) HA.out.1⟩, by omega⟩, HA.out.2⟩
theorem infoStr : (Tryz.prog.info? 9).map (fun i => (i.zero, i.size, decide (i.bytes ≤ 1000))) = some (some (.string ⟨#[]⟩), 1, true) := by kernel_rfl
theorem makeStr (n : Nat) (hn : n ≤ 1048576) (w : World) :
  (Instr.makeSlice 59 (.int .i64 (n : Int)) (.int .i64 (n : Int))).run Tryz.prog w = .ok (.slice (some ⟨w.heap.size, 0, none⟩) n n) (w.alloc (.cells (madeCells #[.string ⟨#[]⟩] (n * 1)) 9)) := by
 obtain ⟨i, hi, e⟩ := Option.map_eq_some_iff.1 infoStr
 simp only [Prod.mk.injEq, decide_eq_true_eq] at e
 obtain ⟨e1, e2, e3⟩ := e
 have hby : n * i.bytes ≤ 1048576 * 1000 := Nat.mul_le_mul hn e3
 have := run_make (P := Tryz.prog) w 59 9 i _ Tryz.underlying59 hi e1 .i64 .i64 n n (by omega) (by omega) (by rw [Nat.mul_comm] at hby; first | omega | (rw [Nat.mul_comm]; omega)) (by omega)
 rw [this, e2]
 simp [Value.cells]
set_option maxRecDepth 100000 in
set_option maxHeartbeats 4000000 in
theorem toSStr_l (a : Option Addr) (l : List ByteArray) (cap : Nat) (w : World) (hl : l.length ≤ 1048576) (hc : strK.Came w a l) :
  Calls Tryz.prog 142 #[.slice a l.length cap] w fun e w' => e = .returned (.slice (some ⟨w.heap.size, 0, none⟩) l.length l.length) ∧ w'.ownsRow w.heap.size 9 1 (.slice (some ⟨w.heap.size, 0, none⟩) l.length l.length) l.length (strK.flat l) ∧ Below w.heap.size w w' := by
 have hmk := makeStr l.length hl
 have HC : Hid (strK.Came w a l) := hc
 have HF : Hid (Fill strK 9 w (w.alloc (.cells (madeCells #[.string ⟨#[]⟩] (l.length * 1)) 9)) l.length []) := Fill.start (by rw [size_madeCells]; rfl)
 clear hc
 go_enter Tryz.func142, Tryz.ntmps142
 go_wp2_with fail
 go_loopw [4] (fun i wr => ∃ k : Nat, k ≤ l.length ∧ i = .int .i64 k ∧ Hid (Fill strK 9 w wr l.length (l.take k))) (fun i _ => l.length - (intOf i).toNat)
 case atStart => exact ⟨0, Nat.zero_le _, rfl, (by have h5 := HF.out; rw [Nat.mul_one] at h5; exact h5)⟩
 case round =>
  clear hmk HF
  obtain ⟨k, hk, rfl, HR⟩ := hrel
  by_cases hlt : k < l.length
  ·have i0 : (0 : Int) ≤ (k : Int) := by omega
   have i1 : (k : Int) < (l.length : Int) := by omega
   obtain ⟨x, hx⟩ : ∃ x, l[k]? = some x := ⟨_, List.getElem?_eq_getElem hlt⟩
   obtain ⟨b, off, rfl, hat⟩ := (HC.out.below HR.out.bel).at hx
   have c0 : wr.cell? ⟨b, off + k, none⟩ = some (.string x) := by have := hat 0 _ rfl; rw [show off + k * strK.n + 0 = off + k by show off + k * 1 + 0 = off + k; omega] at this; exact this
   have HX : Hid (l[k]? = some x) := hx
   have hfl := HR.out.lt
   clear hx hat
   obtain ⟨⟨u, hu⟩, hf⟩ := HR.out.at
   have d0 := hu k (by show k < l.length * 1; omega)
   have f0 := hf k
   have HS : Hid (Fill strK 9 w (wr.setCell ⟨w.heap.size, k, none⟩ (.string x)) l.length (l.take (k + 1))) := by
    have h5 := HR.out.more (by rw [List.length_take]; omega) x
    rw [← take_up HX.out, List.length_take, Nat.min_eq_left hk, show k * strK.n = k from Nat.mul_one k] at h5
    exact h5
   clear hu hf
   go_wp2
   go_roundw
   case rel => exact ⟨k + 1, by omega, by go_num, HS.out⟩
   case measure => simp [intOf]; omega
  ·have i1 : ¬ (k : Int) < (l.length : Int) := by omega
   have ek : k = l.length := by omega
   subst ek
   go_wp2
   go_ret
   have h6 := HR.out.done (by rw [List.length_take]; omega) (by unfold maxLen; omega)
   rw [List.take_length] at h6
   exact ⟨rfl, h6, HR.out.bel⟩
def EqSStr (w : World) (a a' : Option Addr) (l : List ByteArray) (x : ByteArray) (g g' k : Nat) (w' : World) : Prop := ((w'.cell? ⟨g, k, none⟩ = some (.string x)) ∧ (w'.cell? ⟨g', k, none⟩ = some (.string x))) ∧ Hid (strK.Lies w' a l ∧ strK.Lies w' a' l ∧ Below w.heap.size w w')
theorem eqSStr_of {w w' : World} {a a' : Option Addr} {l : List ByteArray} {x : ByteArray} {g g' k : Nat} (ha : a = some ⟨g, 0, none⟩) (ha' : a' = some ⟨g', 0, none⟩) (hx : l[k]? = some x) (h : strK.Lies w' a l ∧ strK.Lies w' a' l ∧ Below w.heap.size w w') : EqSStr w a a' l x g g' k w' := by
 obtain ⟨g1, e1, h1⟩ := h.1.at hx
 obtain ⟨g2, e2, h2⟩ := h.2.1.at hx
 rw [ha] at e1
 rw [ha'] at e2
 cases e1
 cases e2
 have h3 := h1 0 _ rfl
 have h4 := h2 0 _ rfl
 rw [show k * strK.n + 0 = k by show k * 1 + 0 = k; omega] at h3 h4
 exact ⟨⟨h3, h4⟩, h⟩
set_option maxRecDepth 100000 in
set_option maxHeartbeats 4000000 in
theorem eqSStr_l (a a' : Option Addr) (l : List ByteArray) (cap cap' : Nat) (w : World) (hl : l.length ≤ 1048576) (h : strK.Lies w a l) (h' : strK.Lies w a' l) :
  Calls Tryz.prog 143 #[.slice a l.length cap, .slice a' l.length cap'] w fun e w' => e = .returned (.bool true) ∧ Below w.heap.size w w' := by
 have HL : Hid (strK.Lies w a l ∧ strK.Lies w a' l) := ⟨h, h'⟩
 clear h h'
 go_enter Tryz.func143, Tryz.ntmps143
 go_wp2_with fail
 go_loopw [5] (fun i wr => ∃ k : Nat, k ≤ l.length ∧ i = .int .i64 k ∧ Hid (Below w.heap.size w wr)) (fun i _ => l.length - (intOf i).toNat)
 case atStart => exact ⟨0, Nat.zero_le _, rfl, Below.refl _ _⟩
 case round =>
  obtain ⟨k, hk, rfl, HB⟩ := hrel
  by_cases hlt : k < l.length
  ·have i0 : (0 : Int) ≤ (k : Int) := by omega
   have i1 : (k : Int) < (l.length : Int) := by omega
   obtain ⟨x, hx⟩ : ∃ x, l[k]? = some x := ⟨_, List.getElem?_eq_getElem hlt⟩
   obtain ⟨g, ha, -⟩ := HL.out.1.at hx
   obtain ⟨g', ha', -⟩ := HL.out.2.at hx
   have HX : Hid (a = some ⟨g, 0, none⟩ ∧ a' = some ⟨g', 0, none⟩ ∧ l[k]? = some x) := ⟨ha, ha', hx⟩
   have HS : Hid (EqSStr w a a' l x g g' k wr) := eqSStr_of ha ha' hx ⟨HL.out.1.below HB.out, HL.out.2.below HB.out, HB.out⟩
   clear hx
   rw [ha, ha']
   clear ha ha'
   obtain ⟨⟨c0, d0⟩, -⟩ := HS.out
   go_wp2_with fail
   go_quiet (fail)
   go_wp2
   go_roundw
   case rel => exact ⟨k + 1, by omega, by go_num, below_drewN' HB.out _⟩
   case measure => simp [intOf]; omega
  ·have i1 : ¬ (k : Int) < (l.length : Int) := by omega
   go_wp2
   go_ret
   exact ⟨rfl, HB.out⟩
end Go.Proofs.YtkbcplnlehdjfaaGreat
