/- What the proof leans on, part 18: LwEvent, LwBoard, LwStr, LwBuffer. -/
import Derived.Test.YtkbcplnlehdjfaaGreatOwnR5
import Derived.Test.YtkbcplnlehdjfaaGreatOwnR7

namespace Go.Proofs.YtkbcplnlehdjfaaGreat
open Go.RowKit
attribute [local go_sem ↓] Go.wp_at_zero Go.wp_at_succ
set_option maxHeartbeats 2000000 in
theorem szSEvent_l (a : Option Addr) (l : List EventD) (cap : Nat) (left : Int) (w : World) (hl : l.length ≤ maxLen) (h0 : 0 ≤ left) (h1 : left ≤ 1048576) :
  Calls Tryz.prog 109 #[.slice a l.length cap, .int .i64 left] w fun e w' => SzEnds w left (l.length) (l.length ≤ 1048576) e w' := by
 have hl' := hl
 unfold maxLen at hl'
 by_cases hn : left - (l.length : Int) < 0
 ·go_enter Tryz.func109, Tryz.ntmps109
  go_wp2
  go_ret
  exact szEnds_no (Below.refl _ _) h0
 go_enter Tryz.func109, Tryz.ntmps109
 go_wp2
 go_ret
 exact ⟨left - (l.length : Int), rfl, by omega, by omega, fun _ => ⟨by omega, by omega⟩, Below.refl _ _⟩
set_option maxRecDepth 100000 in
set_option maxHeartbeats 4000000 in
theorem toEvent_l (x : EventD) (w : World) : Calls Tryz.prog 193 #[.agg #[.int .i64 x.id, .bool x.up]] w fun e w' => e = .returned (.agg #[.int .i64 x.id, .bool x.up]) ∧ Below w.heap.size w w' := by
 go_enter Tryz.func193, Tryz.ntmps193
 go_wp2
 exact bodyPost_ret (v := .agg #[.int .i64 x.id, .bool x.up]) (by simp [results, Tryz.results193, go_sem]) rfl ⟨rfl, by go_grown⟩
theorem infoEvent : (Tryz.prog.info? 138).map (fun i => (i.zero, i.size, decide (i.bytes ≤ 1000))) = some (some (.agg #[.int .i64 0, .bool false]), 2, true) := by kernel_rfl
theorem makeEvent (n : Nat) (hn : n ≤ 1048576) (w : World) :
  (Instr.makeSlice 27 (.int .i64 (n : Int)) (.int .i64 (n : Int))).run Tryz.prog w = .ok (.slice (some ⟨w.heap.size, 0, none⟩) n n) (w.alloc (.cells (madeCells #[.int .i64 0, .bool false] (n * 2)) 138)) := by
 obtain ⟨i, hi, e⟩ := Option.map_eq_some_iff.1 infoEvent
 simp only [Prod.mk.injEq, decide_eq_true_eq] at e
 obtain ⟨e1, e2, e3⟩ := e
 have hby : n * i.bytes ≤ 1048576 * 1000 := Nat.mul_le_mul hn e3
 have := run_make (P := Tryz.prog) w 27 138 i _ Tryz.underlying27 hi e1 .i64 .i64 n n (by omega) (by omega) (by rw [Nat.mul_comm] at hby; first | omega | (rw [Nat.mul_comm]; omega)) (by omega)
 rw [this, e2]
 simp [Value.cells]
set_option maxRecDepth 100000 in
set_option maxHeartbeats 4000000 in
theorem toSEvent_l (a : Option Addr) (l : List EventD) (cap : Nat) (w : World) (hl : l.length ≤ 1048576) (hc : eventK.Came w a l) :
  Calls Tryz.prog 115 #[.slice a l.length cap] w fun e w' => e = .returned (.slice (some ⟨w.heap.size, 0, none⟩) l.length l.length) ∧ w'.ownsRow w.heap.size 138 2 (.slice (some ⟨w.heap.size, 0, none⟩) l.length l.length) l.length (eventK.flat l) ∧ Below w.heap.size w w' := by
 have hmk := makeEvent l.length hl
 have HC : Hid (eventK.Came w a l) := hc
 have HF : Hid (Fill eventK 138 w (w.alloc (.cells (madeCells #[.int .i64 0, .bool false] (l.length * 2)) 138)) l.length []) := Fill.start (by rw [size_madeCells]; rfl)
 clear hc
 go_enter Tryz.func115, Tryz.ntmps115
 go_wp2_with fail
 go_loopw [4] (fun i wr => ∃ k : Nat, k ≤ l.length ∧ i = .int .i64 k ∧ Hid (Fill eventK 138 w wr l.length (l.take k))) (fun i _ => l.length - (intOf i).toNat)
 case atStart => exact ⟨0, Nat.zero_le _, rfl, HF.out⟩
 case round =>
  clear hmk HF
  obtain ⟨k, hk, rfl, HR⟩ := hrel
  by_cases hlt : k < l.length
  ·have i0 : (0 : Int) ≤ (k : Int) := by omega
   have i1 : (k : Int) < (l.length : Int) := by omega
   obtain ⟨x, hx⟩ : ∃ x, l[k]? = some x := ⟨_, List.getElem?_eq_getElem hlt⟩
   obtain ⟨b, off, rfl, hat⟩ := (HC.out.below HR.out.bel).at hx
   have c0 : wr.cell? ⟨b, off + k * 2, none⟩ = some (.int .i64 x.id) := hat 0 _ rfl
   have c1 : wr.cell? ⟨b, off + k * 2 + 1, none⟩ = some (.bool x.up) := hat 1 _ rfl
   have HX : Hid (l[k]? = some x) := hx
   have hfl := HR.out.lt
   clear hx hat
   go_wp2_with fail
   refine (toEvent_l x wr).mono ?_
   rintro e w1 ⟨rfl, hb1⟩
   have HR1 : Hid (Fill eventK 138 w w1 l.length (l.take k)) := HR.out.below hb1
   obtain ⟨⟨u, hu⟩, hf⟩ := HR1.out.at
   have d0 := hu (k * 2) (by show k * 2 < l.length * 2; omega)
   have f0 := hf (k * 2)
   have d1 := hu (k * 2 + 1) (by show k * 2 + 1 < l.length * 2; omega)
   have f1 := hf (k * 2 + 1)
   have HS : Hid (Fill eventK 138 w ((w1.setCell ⟨w.heap.size, k * 2, none⟩ (.int .i64 x.id)).setCell ⟨w.heap.size, k * 2 + 1, none⟩ (.bool x.up)) l.length (l.take (k + 1))) := by
    have h5 := HR1.out.more (by rw [List.length_take]; omega) x
    rw [← take_up HX.out, List.length_take, Nat.min_eq_left hk, show eventK.vals x = [.int .i64 x.id, .bool x.up] from rfl, show eventK.n = 2 from rfl] at h5
    simp only [setAllW] at h5
    exact h5
   clear hu hf hb1 HR HR1 c0 c1
   go_wp2
   go_roundw
   case rel => exact ⟨k + 1, by omega, by go_num, HS.out⟩
   case measure => simp [intOf]; omega
  ·have i1 : ¬ (k : Int) < (l.length : Int) := by omega
   have ek : k = l.length := by omega
   subst ek
   go_wp2
   go_ret
   have h6 := HR.out.done (by rw [List.length_take]; omega) (by unfold maxLen; omega)
   rw [List.take_length] at h6
   exact ⟨rfl, h6, HR.out.bel⟩
set_option maxRecDepth 100000 in
set_option maxHeartbeats 4000000 in
theorem eqEvent_l (x : EventD) (w : World) : Calls Tryz.prog 197 #[.agg #[.int .i64 x.id, .bool x.up], .agg #[.int .i64 x.id, .bool x.up]] w fun e w' => e = .returned (.bool true) ∧ Below w.heap.size w w' := by
 go_enter Tryz.func197, Tryz.ntmps197
 go_wp2
 go_ret
 exact ⟨ret_bool (by simp), by go_grown⟩
def EqSEvent (w : World) (a a' : Option Addr) (l : List EventD) (x : EventD) (g g' k : Nat) (w' : World) : Prop := ((w'.cell? ⟨g, k * 2, none⟩ = some (.int .i64 x.id) ∧ w'.cell? ⟨g, k * 2 + 1, none⟩ = some (.bool x.up)) ∧ (w'.cell? ⟨g', k * 2, none⟩ = some (.int .i64 x.id) ∧ w'.cell? ⟨g', k * 2 + 1, none⟩ = some (.bool x.up))) ∧ Hid (eventK.Lies w' a l ∧ eventK.Lies w' a' l ∧ Below w.heap.size w w')
theorem eqSEvent_of {w w' : World} {a a' : Option Addr} {l : List EventD} {x : EventD} {g g' k : Nat} (ha : a = some ⟨g, 0, none⟩) (ha' : a' = some ⟨g', 0, none⟩) (hx : l[k]? = some x) (h : eventK.Lies w' a l ∧ eventK.Lies w' a' l ∧ Below w.heap.size w w') : EqSEvent w a a' l x g g' k w' := by
 obtain ⟨g1, e1, h1⟩ := h.1.at hx
 obtain ⟨g2, e2, h2⟩ := h.2.1.at hx
 rw [ha] at e1
 rw [ha'] at e2
 cases e1
 cases e2
 exact ⟨⟨⟨h1 0 _ rfl, h1 1 _ rfl⟩, ⟨h2 0 _ rfl, h2 1 _ rfl⟩⟩, h⟩
set_option maxRecDepth 100000 in
set_option maxHeartbeats 4000000 in
theorem eqSEvent_l (a a' : Option Addr) (l : List EventD) (cap cap' : Nat) (w : World) (hl : l.length ≤ 1048576) (h : eventK.Lies w a l) (h' : eventK.Lies w a' l) :
  Calls Tryz.prog 121 #[.slice a l.length cap, .slice a' l.length cap'] w fun e w' => e = .returned (.bool true) ∧ Below w.heap.size w w' := by
 have HL : Hid (eventK.Lies w a l ∧ eventK.Lies w a' l) := ⟨h, h'⟩
 clear h h'
 go_enter Tryz.func121, Tryz.ntmps121
 go_wp2_with fail
 go_loopw [5] (fun i wr => ∃ k : Nat, k ≤ l.length ∧ i = .int .i64 k ∧ Hid (Below w.heap.size w wr)) (fun i _ => l.length - (intOf i).toNat)
 case atStart => exact ⟨0, Nat.zero_le _, rfl, Below.refl _ _⟩
 case round =>
  obtain ⟨k, hk, rfl, HB⟩ := hrel
  by_cases hlt : k < l.length
  ·have i0 : (0 : Int) ≤ (k : Int) := by omega
   have i1 : (k : Int) < (l.length : Int) := by omega
   obtain ⟨x, hx⟩ : ∃ x, l[k]? = some x := ⟨_, List.getElem?_eq_getElem hlt⟩
   obtain ⟨g, ha, -⟩ := HL.out.1.at hx
   obtain ⟨g', ha', -⟩ := HL.out.2.at hx
   have HX : Hid (a = some ⟨g, 0, none⟩ ∧ a' = some ⟨g', 0, none⟩ ∧ l[k]? = some x) := ⟨ha, ha', hx⟩
   have HS : Hid (EqSEvent w a a' l x g g' k wr) := eqSEvent_of ha ha' hx ⟨HL.out.1.below HB.out, HL.out.2.below HB.out, HB.out⟩
   clear hx
   rw [ha, ha']
   clear ha ha'
   go_wp2_with fail
   refine tame_region (EqSEvent w a a' l x g g' k) (by kernel_rfl) (eqSEvent_of HX.out.1 HX.out.2.1 HX.out.2.2 ⟨HS.out.2.out.1.below (Below.refl _ _).drew, HS.out.2.out.2.1.below (Below.refl _ _).drew, HS.out.2.out.2.2.drew⟩) ?_
   iterate 8 (refine yl (v := ?_) ?_ ?_; rotate_left; (intro w0 hS0; obtain ⟨⟨⟨q0, q1⟩, ⟨r0, r1⟩⟩, hH⟩ := hS0; go_simp; try with_reducible rfl); simp only [pt, sb, s0, s1])
   refine cl (.bool true) 197 #[.agg #[.int .i64 x.id, .bool x.up], .agg #[.int .i64 x.id, .bool x.up]] ?_ ?_ ?_
   ·intro w0 hS0
    obtain ⟨⟨⟨q0, q1⟩, ⟨r0, r1⟩⟩, hH⟩ := hS0
    go_simp
    try with_reducible rfl
   ·intro w0 hS0
    refine (eqEvent_l x w0).mono ?_
    rintro e w2 ⟨rfl, hb2⟩
    exact ⟨rfl, eqSEvent_of HX.out.1 HX.out.2.1 HX.out.2.2 ⟨hS0.2.out.1.below hb2, hS0.2.out.2.1.below hb2, hS0.2.out.2.2.trans (hb2.mono hS0.2.out.2.2.size)⟩⟩
   simp only [pt, sb, s0, s1]
   (refine yl (v := ?_) ?_ ?_; rotate_left; (intro w0 hS0; obtain ⟨⟨⟨q0, q1⟩, ⟨r0, r1⟩⟩, hH⟩ := hS0; go_simp; try with_reducible rfl); simp only [pt, sb, s0, s1])
   refine tame_done (by kernel_rfl) ?_ _
   intro w1 hS1
   have HZ : Hid (Below w.heap.size w w1) := hS1.2.out.2.2
   clear hS1
   go_wp2
   go_roundw
   case rel => exact ⟨k + 1, by omega, by go_num, HZ.out⟩
   case measure => simp [intOf]; omega
  ·have i1 : ¬ (k : Int) < (l.length : Int) := by omega
   go_wp2
   go_ret
   exact ⟨rfl, HB.out⟩
end Go.Proofs.YtkbcplnlehdjfaaGreat

/- The laws' functions on things of the kind Board: measured, copied, held against each other. (Made by mklw.py.) -/
namespace Go.Proofs.YtkbcplnlehdjfaaGreat
open Go.RowKit
attribute [local go_sem ↓] Go.wp_at_zero Go.wp_at_succ
set_option maxHeartbeats 2000000 in
theorem szBoard_l (x : BoardD) (left : Int) (w : World) (hb : (x.text.size ≤ maxLen)) (h0 : 0 ≤ left) (h1 : left ≤ 1048576) :
  Calls Tryz.prog 190 #[.agg #[.int .i64 x.id, .bool x.shown, .string x.text], .int .i64 left] w fun e w' => SzEnds w left (0) ((x.text.size ≤ 1048576)) e w' := by
 have HB : Hid ((x.text.size ≤ maxLen)) := hb
 have HW : Hid (Below w.heap.size w (w.alloc (.cells #[.int .i64 x.id, .bool x.shown, .string x.text] 237))) := (Below.refl _ _).alloc (Nat.le_refl _) _
 clear hb
 go_enter Tryz.func190, Tryz.ntmps190
 have z0 : x.text.size ≤ 9223372036854775807 := HB.out
 by_cases s0 : left - (x.text.size : Int) < 0
 ·go_wp2
  go_ret
  exact szEnds_no HW.out h0
 go_wp2
 go_ret
 exact ⟨left - (x.text.size : Int), rfl, by omega, by omega, fun _ => ⟨by omega, by omega⟩, HW.out⟩
set_option maxHeartbeats 2000000 in
theorem szSBoard_l (a : Option Addr) (l : List BoardD) (cap : Nat) (left : Int) (w : World) (hl : l.length ≤ maxLen) (hc : boardK.Came w a l) (hs : ∀ x ∈ l, (x.text.size ≤ maxLen)) (h0 : 0 ≤ left) (h1 : left ≤ 1048576) :
  Calls Tryz.prog 110 #[.slice a l.length cap, .int .i64 left] w fun e w' => SzEnds w left (l.length) (l.length ≤ 1048576 ∧ ∀ x ∈ l, (x.text.size ≤ 1048576)) e w' := by
 have hl' := hl
 unfold maxLen at hl'
 by_cases hn : left - (l.length : Int) < 0
 ·go_enter Tryz.func110, Tryz.ntmps110
  go_wp2
  go_ret
  exact szEnds_no (Below.refl _ _) h0
 have HC : Hid (boardK.Came w a l ∧ ∀ x ∈ l, (x.text.size ≤ maxLen)) := ⟨hc, hs⟩
 clear hc hs hl
 go_enter Tryz.func110, Tryz.ntmps110
 go_wp2_with fail
 go_loopw [1, 5] (fun q i wr => ∃ (k : Nat) (r : Int), k ≤ l.length ∧ i = .int .i64 k ∧ q = .int .i64 r ∧ 0 ≤ r ∧ r ≤ left - (l.length : Int) ∧ Hid ((∀ x ∈ l.take k, (x.text.size ≤ 1048576)) ∧ Below w.heap.size w wr)) (fun _ i _ => l.length - (intOf i).toNat)
 case atStart => exact ⟨0, left - (l.length : Int), Nat.zero_le _, rfl, rfl, by omega, by omega, ⟨by simp, Below.refl _ _⟩⟩
 case round =>
  obtain ⟨k, r, hk, rfl, rfl, r0, r1, HA⟩ := hrel
  by_cases hlt : k < l.length
  ·have i0 : (0 : Int) ≤ (k : Int) := by omega
   have i1 : (k : Int) < (l.length : Int) := by omega
   obtain ⟨x, hx⟩ : ∃ x, l[k]? = some x := ⟨_, List.getElem?_eq_getElem hlt⟩
   have hmem := List.mem_of_getElem? hx
   obtain ⟨b, off, rfl, hat⟩ := (HC.out.1.below HA.out.2).at hx
   have c0 : wr.cell? ⟨b, off + k * 3, none⟩ = some (.int .i64 x.id) := hat 0 _ rfl
   have c1 : wr.cell? ⟨b, off + k * 3 + 1, none⟩ = some (.bool x.shown) := hat 1 _ rfl
   have c2 : wr.cell? ⟨b, off + k * 3 + 2, none⟩ = some (.string x.text) := hat 2 _ rfl
   have HX : Hid (l[k]? = some x ∧ (x.text.size ≤ maxLen)) := ⟨hx, HC.out.2 x hmem⟩
   clear hx hmem hat
   go_wp2_with fail
   refine (szBoard_l x r wr HX.out.2 r0 (by omega)).mono ?_
   rintro e w1 ⟨r2, rfl, q0, q1, q2, hb1⟩
   have HB1 : Hid (Below w.heap.size w w1 ∧ (0 ≤ r2 → (x.text.size ≤ 1048576) ∧ r2 + (0 : Nat) ≤ r)) := ⟨HA.out.2.trans (hb1.mono HA.out.2.size), q2⟩
   clear hb1 q2 c0 c1 c2
   by_cases hneg : r2 < 0
   ·go_wp2
    go_ret
    exact szEnds_no HB1.out.1 h0
   go_wp2
   go_roundw
   case rel => exact ⟨k + 1, r2, by omega, by go_num, rfl, by omega, by omega, ⟨all_up HX.out.1 HA.out.1 (HB1.out.2 (by omega)).1, HB1.out.1⟩⟩
   case measure => simp [intOf]; omega
  ·have i1 : ¬ (k : Int) < (l.length : Int) := by omega
   go_wp2
   go_ret
   exact ⟨r, rfl, by omega, by omega, fun _ => ⟨⟨by omega, all_end (by omega) HA.out.1⟩, by omega⟩, HA.out.2⟩
set_option maxRecDepth 100000 in
set_option maxHeartbeats 4000000 in
theorem toBoard_l (x : BoardD) (w : World) : Calls Tryz.prog 194 #[.agg #[.int .i64 x.id, .bool x.shown, .string x.text]] w fun e w' => e = .returned (.agg #[.int .i64 x.id, .bool x.shown, .string x.text]) ∧ Below w.heap.size w w' := by
 go_enter Tryz.func194, Tryz.ntmps194
 go_wp2
 exact bodyPost_ret (v := .agg #[.int .i64 x.id, .bool x.shown, .string x.text]) (by simp [results, Tryz.results194, go_sem]) rfl ⟨rfl, by go_grown⟩
theorem infoBoard : (Tryz.prog.info? 141).map (fun i => (i.zero, i.size, decide (i.bytes ≤ 1000))) = some (some (.agg #[.int .i64 0, .bool false, .string ⟨#[]⟩]), 3, true) := by kernel_rfl
theorem makeBoard (n : Nat) (hn : n ≤ 1048576) (w : World) :
  (Instr.makeSlice 28 (.int .i64 (n : Int)) (.int .i64 (n : Int))).run Tryz.prog w = .ok (.slice (some ⟨w.heap.size, 0, none⟩) n n) (w.alloc (.cells (madeCells #[.int .i64 0, .bool false, .string ⟨#[]⟩] (n * 3)) 141)) := by
 obtain ⟨i, hi, e⟩ := Option.map_eq_some_iff.1 infoBoard
 simp only [Prod.mk.injEq, decide_eq_true_eq] at e
 obtain ⟨e1, e2, e3⟩ := e
 have hby : n * i.bytes ≤ 1048576 * 1000 := Nat.mul_le_mul hn e3
 have := run_make (P := Tryz.prog) w 28 141 i _ Tryz.underlying28 hi e1 .i64 .i64 n n (by omega) (by omega) (by rw [Nat.mul_comm] at hby; first | omega | (rw [Nat.mul_comm]; omega)) (by omega)
 rw [this, e2]
 simp [Value.cells]
set_option maxRecDepth 100000 in
set_option maxHeartbeats 4000000 in
theorem toSBoard_l (a : Option Addr) (l : List BoardD) (cap : Nat) (w : World) (hl : l.length ≤ 1048576) (hc : boardK.Came w a l) :
  Calls Tryz.prog 116 #[.slice a l.length cap] w fun e w' => e = .returned (.slice (some ⟨w.heap.size, 0, none⟩) l.length l.length) ∧ w'.ownsRow w.heap.size 141 3 (.slice (some ⟨w.heap.size, 0, none⟩) l.length l.length) l.length (boardK.flat l) ∧ Below w.heap.size w w' := by
 have hmk := makeBoard l.length hl
 have HC : Hid (boardK.Came w a l) := hc
 have HF : Hid (Fill boardK 141 w (w.alloc (.cells (madeCells #[.int .i64 0, .bool false, .string ⟨#[]⟩] (l.length * 3)) 141)) l.length []) := Fill.start (by rw [size_madeCells]; rfl)
 clear hc
 go_enter Tryz.func116, Tryz.ntmps116
 go_wp2_with fail
 go_loopw [4] (fun i wr => ∃ k : Nat, k ≤ l.length ∧ i = .int .i64 k ∧ Hid (Fill boardK 141 w wr l.length (l.take k))) (fun i _ => l.length - (intOf i).toNat)
 case atStart => exact ⟨0, Nat.zero_le _, rfl, HF.out⟩
 case round =>
  clear hmk HF
  obtain ⟨k, hk, rfl, HR⟩ := hrel
  by_cases hlt : k < l.length
  ·have i0 : (0 : Int) ≤ (k : Int) := by omega
   have i1 : (k : Int) < (l.length : Int) := by omega
   obtain ⟨x, hx⟩ : ∃ x, l[k]? = some x := ⟨_, List.getElem?_eq_getElem hlt⟩
   obtain ⟨b, off, rfl, hat⟩ := (HC.out.below HR.out.bel).at hx
   have c0 : wr.cell? ⟨b, off + k * 3, none⟩ = some (.int .i64 x.id) := hat 0 _ rfl
   have c1 : wr.cell? ⟨b, off + k * 3 + 1, none⟩ = some (.bool x.shown) := hat 1 _ rfl
   have c2 : wr.cell? ⟨b, off + k * 3 + 2, none⟩ = some (.string x.text) := hat 2 _ rfl
   have HX : Hid (l[k]? = some x) := hx
   have hfl := HR.out.lt
   clear hx hat
   go_wp2_with fail
   refine (toBoard_l x wr).mono ?_
   rintro e w1 ⟨rfl, hb1⟩
   have HR1 : Hid (Fill boardK 141 w w1 l.length (l.take k)) := HR.out.below hb1
   obtain ⟨⟨u, hu⟩, hf⟩ := HR1.out.at
   have d0 := hu (k * 3) (by show k * 3 < l.length * 3; omega)
   have f0 := hf (k * 3)
   have d1 := hu (k * 3 + 1) (by show k * 3 + 1 < l.length * 3; omega)
   have f1 := hf (k * 3 + 1)
   have d2 := hu (k * 3 + 2) (by show k * 3 + 2 < l.length * 3; omega)
   have f2 := hf (k * 3 + 2)
   have HS : Hid (Fill boardK 141 w (((w1.setCell ⟨w.heap.size, k * 3, none⟩ (.int .i64 x.id)).setCell ⟨w.heap.size, k * 3 + 1, none⟩ (.bool x.shown)).setCell ⟨w.heap.size, k * 3 + 2, none⟩ (.string x.text)) l.length (l.take (k + 1))) := by
    have h5 := HR1.out.more (by rw [List.length_take]; omega) x
    rw [← take_up HX.out, List.length_take, Nat.min_eq_left hk, show boardK.vals x = [.int .i64 x.id, .bool x.shown, .string x.text] from rfl, show boardK.n = 3 from rfl] at h5
    simp only [setAllW, Nat.add_assoc, Nat.reduceAdd] at h5
    exact h5
   clear hu hf hb1 HR HR1 c0 c1 c2
   go_wp2
   go_roundw
   case rel => exact ⟨k + 1, by omega, by go_num, HS.out⟩
   case measure => simp [intOf]; omega
  ·have i1 : ¬ (k : Int) < (l.length : Int) := by omega
   have ek : k = l.length := by omega
   subst ek
   go_wp2
   go_ret
   have h6 := HR.out.done (by rw [List.length_take]; omega) (by unfold maxLen; omega)
   rw [List.take_length] at h6
   exact ⟨rfl, h6, HR.out.bel⟩
set_option maxRecDepth 100000 in
set_option maxHeartbeats 4000000 in
theorem eqBoard_l (x : BoardD) (w : World) : Calls Tryz.prog 198 #[.agg #[.int .i64 x.id, .bool x.shown, .string x.text], .agg #[.int .i64 x.id, .bool x.shown, .string x.text]] w fun e w' => e = .returned (.bool true) ∧ Below w.heap.size w w' := by
 go_enter Tryz.func198, Tryz.ntmps198
 go_wp2
 go_ret
 exact ⟨ret_bool (by simp), by go_grown⟩
def EqSBoard (w : World) (a a' : Option Addr) (l : List BoardD) (x : BoardD) (g g' k : Nat) (w' : World) : Prop := ((w'.cell? ⟨g, k * 3, none⟩ = some (.int .i64 x.id) ∧ w'.cell? ⟨g, k * 3 + 1, none⟩ = some (.bool x.shown) ∧ w'.cell? ⟨g, k * 3 + 2, none⟩ = some (.string x.text)) ∧ (w'.cell? ⟨g', k * 3, none⟩ = some (.int .i64 x.id) ∧ w'.cell? ⟨g', k * 3 + 1, none⟩ = some (.bool x.shown) ∧ w'.cell? ⟨g', k * 3 + 2, none⟩ = some (.string x.text))) ∧ Hid (boardK.Lies w' a l ∧ boardK.Lies w' a' l ∧ Below w.heap.size w w')
theorem eqSBoard_of {w w' : World} {a a' : Option Addr} {l : List BoardD} {x : BoardD} {g g' k : Nat} (ha : a = some ⟨g, 0, none⟩) (ha' : a' = some ⟨g', 0, none⟩) (hx : l[k]? = some x) (h : boardK.Lies w' a l ∧ boardK.Lies w' a' l ∧ Below w.heap.size w w') : EqSBoard w a a' l x g g' k w' := by
 obtain ⟨g1, e1, h1⟩ := h.1.at hx
 obtain ⟨g2, e2, h2⟩ := h.2.1.at hx
 rw [ha] at e1
 rw [ha'] at e2
 cases e1
 cases e2
 exact ⟨⟨⟨h1 0 _ rfl, h1 1 _ rfl, h1 2 _ rfl⟩, ⟨h2 0 _ rfl, h2 1 _ rfl, h2 2 _ rfl⟩⟩, h⟩
set_option maxRecDepth 100000 in
set_option maxHeartbeats 4000000 in
theorem eqSBoard_l (a a' : Option Addr) (l : List BoardD) (cap cap' : Nat) (w : World) (hl : l.length ≤ 1048576) (h : boardK.Lies w a l) (h' : boardK.Lies w a' l) :
  Calls Tryz.prog 122 #[.slice a l.length cap, .slice a' l.length cap'] w fun e w' => e = .returned (.bool true) ∧ Below w.heap.size w w' := by
 have HL : Hid (boardK.Lies w a l ∧ boardK.Lies w a' l) := ⟨h, h'⟩
 clear h h'
 go_enter Tryz.func122, Tryz.ntmps122
 go_wp2_with fail
 go_loopw [5] (fun i wr => ∃ k : Nat, k ≤ l.length ∧ i = .int .i64 k ∧ Hid (Below w.heap.size w wr)) (fun i _ => l.length - (intOf i).toNat)
 case atStart => exact ⟨0, Nat.zero_le _, rfl, Below.refl _ _⟩
 case round =>
  obtain ⟨k, hk, rfl, HB⟩ := hrel
  by_cases hlt : k < l.length
  ·have i0 : (0 : Int) ≤ (k : Int) := by omega
   have i1 : (k : Int) < (l.length : Int) := by omega
   obtain ⟨x, hx⟩ : ∃ x, l[k]? = some x := ⟨_, List.getElem?_eq_getElem hlt⟩
   obtain ⟨g, ha, -⟩ := HL.out.1.at hx
   obtain ⟨g', ha', -⟩ := HL.out.2.at hx
   have HX : Hid (a = some ⟨g, 0, none⟩ ∧ a' = some ⟨g', 0, none⟩ ∧ l[k]? = some x) := ⟨ha, ha', hx⟩
   have HS : Hid (EqSBoard w a a' l x g g' k wr) := eqSBoard_of ha ha' hx ⟨HL.out.1.below HB.out, HL.out.2.below HB.out, HB.out⟩
   clear hx
   rw [ha, ha']
   clear ha ha'
   go_wp2_with fail
   refine tame_region (EqSBoard w a a' l x g g' k) (by kernel_rfl) (eqSBoard_of HX.out.1 HX.out.2.1 HX.out.2.2 ⟨HS.out.2.out.1.below (Below.refl _ _).drew, HS.out.2.out.2.1.below (Below.refl _ _).drew, HS.out.2.out.2.2.drew⟩) ?_
   iterate 8 (refine yl (v := ?_) ?_ ?_; rotate_left; (intro w0 hS0; obtain ⟨⟨⟨q0, q1, q2⟩, ⟨r0, r1, r2⟩⟩, hH⟩ := hS0; go_simp; try with_reducible rfl); simp only [pt, sb, s0, s1])
   refine cl (.bool true) 198 #[.agg #[.int .i64 x.id, .bool x.shown, .string x.text], .agg #[.int .i64 x.id, .bool x.shown, .string x.text]] ?_ ?_ ?_
   ·intro w0 hS0
    obtain ⟨⟨⟨q0, q1, q2⟩, ⟨r0, r1, r2⟩⟩, hH⟩ := hS0
    go_simp
    try with_reducible rfl
   ·intro w0 hS0
    refine (eqBoard_l x w0).mono ?_
    rintro e w2 ⟨rfl, hb2⟩
    exact ⟨rfl, eqSBoard_of HX.out.1 HX.out.2.1 HX.out.2.2 ⟨hS0.2.out.1.below hb2, hS0.2.out.2.1.below hb2, hS0.2.out.2.2.trans (hb2.mono hS0.2.out.2.2.size)⟩⟩
   simp only [pt, sb, s0, s1]
   (refine yl (v := ?_) ?_ ?_; rotate_left; (intro w0 hS0; obtain ⟨⟨⟨q0, q1, q2⟩, ⟨r0, r1, r2⟩⟩, hH⟩ := hS0; go_simp; try with_reducible rfl); simp only [pt, sb, s0, s1])
   refine tame_done (by kernel_rfl) ?_ _
   intro w1 hS1
   have HZ : Hid (Below w.heap.size w w1) := hS1.2.out.2.2
   clear hS1
   go_wp2
   go_roundw
   case rel => exact ⟨k + 1, by omega, by go_num, HZ.out⟩
   case measure => simp [intOf]; omega
  ·have i1 : ¬ (k : Int) < (l.length : Int) := by omega
   go_wp2
   go_ret
   exact ⟨rfl, HB.out⟩
end Go.Proofs.YtkbcplnlehdjfaaGreat

/- The laws' functions on things of the kind Str: measured, copied, held against each other. (Made by mklw.py.) -/
namespace Go.Proofs.YtkbcplnlehdjfaaGreat
open Go.RowKit
attribute [local go_sem ↓] Go.wp_at_zero Go.wp_at_succ
set_option maxHeartbeats 2000000 in
theorem szSStr_l (a : Option Addr) (l : List ByteArray) (cap : Nat) (left : Int) (w : World) (hl : l.length ≤ maxLen) (hc : strK.Came w a l) (hs : ∀ x ∈ l, (x.size ≤ maxLen)) (h0 : 0 ≤ left) (h1 : left ≤ 1048576) :
  Calls Tryz.prog 141 #[.slice a l.length cap, .int .i64 left] w fun e w' => SzEnds w left (l.length) (l.length ≤ 1048576 ∧ ∀ x ∈ l, (x.size ≤ 1048576)) e w' := by
 have hl' := hl
 unfold maxLen at hl'
 by_cases hn : left - (l.length : Int) < 0
 ·go_enter Tryz.func141, Tryz.ntmps141
  go_wp2
  go_ret
  exact szEnds_no (Below.refl _ _) h0
 have HC : Hid (strK.Came w a l ∧ ∀ x ∈ l, (x.size ≤ maxLen)) := ⟨hc, hs⟩
 clear hc hs hl
 go_enter Tryz.func141, Tryz.ntmps141
 go_wp2_with fail
 go_loopw [1, 5] (fun q i wr => ∃ (k : Nat) (r : Int), k ≤ l.length ∧ i = .int .i64 k ∧ q = .int .i64 r ∧ 0 ≤ r ∧ r ≤ left - (l.length : Int) ∧ Hid ((∀ x ∈ l.take k, (x.size ≤ 1048576)) ∧ Below w.heap.size w wr)) (fun _ i _ => l.length - (intOf i).toNat)
 case atStart => exact ⟨0, left - (l.length : Int), Nat.zero_le _, rfl, rfl, by omega, by omega, ⟨by simp, Below.refl _ _⟩⟩
 case round =>
  obtain ⟨k, r, hk, rfl, rfl, r0, r1, HA⟩ := hrel
  by_cases hlt : k < l.length
  ·have i0 : (0 : Int) ≤ (k : Int) := by omega
   have i1 : (k : Int) < (l.length : Int) := by omega
   obtain ⟨x, hx⟩ : ∃ x, l[k]? = some x := ⟨_, List.getElem?_eq_getElem hlt⟩
   have hmem := List.mem_of_getElem? hx
   obtain ⟨b, off, rfl, hat⟩ := (HC.out.1.below HA.out.2).at hx
   have c0 : wr.cell? ⟨b, off + k, none⟩ = some (.string x) := by have := hat 0 _ rfl; rw [show off + k * strK.n + 0 = off + k by show off + k * 1 + 0 = off + k; omega] at this; exact this
   have HX : Hid (l[k]? = some x ∧ (x.size ≤ maxLen)) := ⟨hx, HC.out.2 x hmem⟩
   clear hx hmem hat
   have z0 : x.size ≤ 9223372036854775807 := HX.out.2
   by_cases hneg : r - (x.size : Int) < 0
   ·go_wp2
    go_ret
    exact szEnds_no HA.out.2 h0
   go_wp2
   go_roundw
   case rel => exact ⟨k + 1, r - (x.size : Int), by omega, by go_num, rfl, by omega, by omega, ⟨all_up HX.out.1 HA.out.1 (by omega), HA.out.2⟩⟩
   case measure => simp [intOf]; omega
  ·have i1 : ¬ (k : Int) < (l.length : Int) := by omega
   go_wp2
   go_ret
   exact ⟨r, rfl, by omega, by omega, fun _ => ⟨⟨by omega, all_end (by omega) HA.out.1⟩, by omega⟩, HA.out.2⟩
theorem infoStr : (Tryz.prog.info? 9).map (fun i => (i.zero, i.size, decide (i.bytes ≤ 1000))) = some (some (.string ⟨#[]⟩), 1, true) := by kernel_rfl
theorem makeStr (n : Nat) (hn : n ≤ 1048576) (w : World) :
  (Instr.makeSlice 59 (.int .i64 (n : Int)) (.int .i64 (n : Int))).run Tryz.prog w = .ok (.slice (some ⟨w.heap.size, 0, none⟩) n n) (w.alloc (.cells (madeCells #[.string ⟨#[]⟩] (n * 1)) 9)) := by
 obtain ⟨i, hi, e⟩ := Option.map_eq_some_iff.1 infoStr
 simp only [Prod.mk.injEq, decide_eq_true_eq] at e
 obtain ⟨e1, e2, e3⟩ := e
 have hby : n * i.bytes ≤ 1048576 * 1000 := Nat.mul_le_mul hn e3
 have := run_make (P := Tryz.prog) w 59 9 i _ Tryz.underlying59 hi e1 .i64 .i64 n n (by omega) (by omega) (by rw [Nat.mul_comm] at hby; first | omega | (rw [Nat.mul_comm]; omega)) (by omega)
 rw [this, e2]
 simp [Value.cells]
set_option maxRecDepth 100000 in
set_option maxHeartbeats 4000000 in
theorem toSStr_l (a : Option Addr) (l : List ByteArray) (cap : Nat) (w : World) (hl : l.length ≤ 1048576) (hc : strK.Came w a l) :
  Calls Tryz.prog 142 #[.slice a l.length cap] w fun e w' => e = .returned (.slice (some ⟨w.heap.size, 0, none⟩) l.length l.length) ∧ w'.ownsRow w.heap.size 9 1 (.slice (some ⟨w.heap.size, 0, none⟩) l.length l.length) l.length (strK.flat l) ∧ Below w.heap.size w w' := by
 have hmk := makeStr l.length hl
 have HC : Hid (strK.Came w a l) := hc
 have HF : Hid (Fill strK 9 w (w.alloc (.cells (madeCells #[.string ⟨#[]⟩] (l.length * 1)) 9)) l.length []) := Fill.start (by rw [size_madeCells]; rfl)
 clear hc
 go_enter Tryz.func142, Tryz.ntmps142
 go_wp2_with fail
 go_loopw [4] (fun i wr => ∃ k : Nat, k ≤ l.length ∧ i = .int .i64 k ∧ Hid (Fill strK 9 w wr l.length (l.take k))) (fun i _ => l.length - (intOf i).toNat)
 case atStart => exact ⟨0, Nat.zero_le _, rfl, (by have h5 := HF.out; rw [Nat.mul_one] at h5; exact h5)⟩
 case round =>
  clear hmk HF
  obtain ⟨k, hk, rfl, HR⟩ := hrel
  by_cases hlt : k < l.length
  ·have i0 : (0 : Int) ≤ (k : Int) := by omega
   have i1 : (k : Int) < (l.length : Int) := by omega
   obtain ⟨x, hx⟩ : ∃ x, l[k]? = some x := ⟨_, List.getElem?_eq_getElem hlt⟩
   obtain ⟨b, off, rfl, hat⟩ := (HC.out.below HR.out.bel).at hx
   have c0 : wr.cell? ⟨b, off + k, none⟩ = some (.string x) := by have := hat 0 _ rfl; rw [show off + k * strK.n + 0 = off + k by show off + k * 1 + 0 = off + k; omega] at this; exact this
   have HX : Hid (l[k]? = some x) := hx
   have hfl := HR.out.lt
   clear hx hat
   obtain ⟨⟨u, hu⟩, hf⟩ := HR.out.at
   have d0 := hu k (by show k < l.length * 1; omega)
   have f0 := hf k
   have HS : Hid (Fill strK 9 w (wr.setCell ⟨w.heap.size, k, none⟩ (.string x)) l.length (l.take (k + 1))) := by
    have h5 := HR.out.more (by rw [List.length_take]; omega) x
    rw [← take_up HX.out, List.length_take, Nat.min_eq_left hk, show k * strK.n = k from Nat.mul_one k] at h5
    exact h5
   clear hu hf
   go_wp2
   go_roundw
   case rel => exact ⟨k + 1, by omega, by go_num, HS.out⟩
   case measure => simp [intOf]; omega
  ·have i1 : ¬ (k : Int) < (l.length : Int) := by omega
   have ek : k = l.length := by omega
   subst ek
   go_wp2
   go_ret
   have h6 := HR.out.done (by rw [List.length_take]; omega) (by unfold maxLen; omega)
   rw [List.take_length] at h6
   exact ⟨rfl, h6, HR.out.bel⟩
def EqSStr (w : World) (a a' : Option Addr) (l : List ByteArray) (x : ByteArray) (g g' k : Nat) (w' : World) : Prop := ((w'.cell? ⟨g, k, none⟩ = some (.string x)) ∧ (w'.cell? ⟨g', k, none⟩ = some (.string x))) ∧ Hid (strK.Lies w' a l ∧ strK.Lies w' a' l ∧ Below w.heap.size w w')
theorem eqSStr_of {w w' : World} {a a' : Option Addr} {l : List ByteArray} {x : ByteArray} {g g' k : Nat} (ha : a = some ⟨g, 0, none⟩) (ha' : a' = some ⟨g', 0, none⟩) (hx : l[k]? = some x) (h : strK.Lies w' a l ∧ strK.Lies w' a' l ∧ Below w.heap.size w w') : EqSStr w a a' l x g g' k w' := by
 obtain ⟨g1, e1, h1⟩ := h.1.at hx
 obtain ⟨g2, e2, h2⟩ := h.2.1.at hx
 rw [ha] at e1
 rw [ha'] at e2
 cases e1
 cases e2
 have h3 := h1 0 _ rfl
 have h4 := h2 0 _ rfl
 rw [show k * strK.n + 0 = k by show k * 1 + 0 = k; omega] at h3 h4
 exact ⟨⟨h3, h4⟩, h⟩
set_option maxRecDepth 100000 in
set_option maxHeartbeats 4000000 in
theorem eqSStr_l (a a' : Option Addr) (l : List ByteArray) (cap cap' : Nat) (w : World) (hl : l.length ≤ 1048576) (h : strK.Lies w a l) (h' : strK.Lies w a' l) :
  Calls Tryz.prog 143 #[.slice a l.length cap, .slice a' l.length cap'] w fun e w' => e = .returned (.bool true) ∧ Below w.heap.size w w' := by
 have HL : Hid (strK.Lies w a l ∧ strK.Lies w a' l) := ⟨h, h'⟩
 clear h h'
 go_enter Tryz.func143, Tryz.ntmps143
 go_wp2_with fail
 go_loopw [5] (fun i wr => ∃ k : Nat, k ≤ l.length ∧ i = .int .i64 k ∧ Hid (Below w.heap.size w wr)) (fun i _ => l.length - (intOf i).toNat)
 case atStart => exact ⟨0, Nat.zero_le _, rfl, Below.refl _ _⟩
 case round =>
  obtain ⟨k, hk, rfl, HB⟩ := hrel
  by_cases hlt : k < l.length
  ·have i0 : (0 : Int) ≤ (k : Int) := by omega
   have i1 : (k : Int) < (l.length : Int) := by omega
   obtain ⟨x, hx⟩ : ∃ x, l[k]? = some x := ⟨_, List.getElem?_eq_getElem hlt⟩
   obtain ⟨g, ha, -⟩ := HL.out.1.at hx
   obtain ⟨g', ha', -⟩ := HL.out.2.at hx
   have HX : Hid (a = some ⟨g, 0, none⟩ ∧ a' = some ⟨g', 0, none⟩ ∧ l[k]? = some x) := ⟨ha, ha', hx⟩
   have HS : Hid (EqSStr w a a' l x g g' k wr) := eqSStr_of ha ha' hx ⟨HL.out.1.below HB.out, HL.out.2.below HB.out, HB.out⟩
   clear hx
   rw [ha, ha']
   clear ha ha'
   obtain ⟨⟨c0, d0⟩, -⟩ := HS.out
   go_wp2_with fail
   go_quiet (fail)
   go_wp2
   go_roundw
   case rel => exact ⟨k + 1, by omega, by go_num, below_drewN' HB.out _⟩
   case measure => simp [intOf]; omega
  ·have i1 : ¬ (k : Int) < (l.length : Int) := by omega
   go_wp2
   go_ret
   exact ⟨rfl, HB.out⟩
end Go.Proofs.YtkbcplnlehdjfaaGreat

/- The laws' functions on things of the kind Buffer: measured, copied, held against each other. (Made by mklw.py.) -/
namespace Go.Proofs.YtkbcplnlehdjfaaGreat
open Go.RowKit
attribute [local go_sem ↓] Go.wp_at_zero Go.wp_at_succ
set_option maxHeartbeats 2000000 in
theorem szBuffer_l (x : BufferD) (left : Int) (w : World) (hb : (x.items.length ≤ maxLen ∧ ∀ s ∈ x.items, s.size ≤ maxLen)) (hc : strK.Came w x.itemsA x.items) (h0 : 0 ≤ left) (h1 : left ≤ 1048576) :
  Calls Tryz.prog 191 #[.agg #[.int .i64 x.id, .int .i64 x.max, .slice x.itemsA x.items.length x.itemsC], .int .i64 left] w fun e w' => SzEnds w left (x.items.length) ((x.items.length ≤ 1048576 ∧ ∀ s ∈ x.items, s.size ≤ 1048576)) e w' := by
 have HB : Hid ((x.items.length ≤ maxLen ∧ ∀ s ∈ x.items, s.size ≤ maxLen)) := hb
 have HC : Hid (strK.Came (w.alloc (.cells #[.int .i64 x.id, .int .i64 x.max, .slice x.itemsA x.items.length x.itemsC] 239)) x.itemsA x.items) := hc.below ((Below.refl _ _).alloc (Nat.le_refl _) _)
 clear hc
 have HW : Hid (Below w.heap.size w (w.alloc (.cells #[.int .i64 x.id, .int .i64 x.max, .slice x.itemsA x.items.length x.itemsC] 239))) := (Below.refl _ _).alloc (Nat.le_refl _) _
 clear hb
 go_enter Tryz.func191, Tryz.ntmps191
 have HX : Hid ((w.alloc (.cells #[.int .i64 x.id, .int .i64 x.max, .slice x.itemsA x.items.length x.itemsC] 239)).heap[w.heap.size]? = some (.cells #[.int .i64 x.id, .int .i64 x.max, .slice x.itemsA x.items.length x.itemsC] 239 (0, 0))) := heap_alloc_new _ _
 go_wp2_with fail
 generalize w.alloc (.cells #[.int .i64 x.id, .int .i64 x.max, .slice x.itemsA x.items.length x.itemsC] 239) = W at *
 refine (szSStr_l x.itemsA x.items x.itemsC left W HB.out.1 HC.out HB.out.2 h0 h1).mono ?_
 rintro e w1 ⟨r1, rfl, q0, q1, q2, hb1⟩
 have HB1 : Hid (Below w.heap.size w w1) := HW.out.trans (hb1.mono HW.out.size)
 have HX1 : Hid (w1.heap[w.heap.size]? = some (.cells #[.int .i64 x.id, .int .i64 x.max, .slice x.itemsA x.items.length x.itemsC] 239 (0, 0))) := (hb1.block _ (Array.getElem?_eq_some_iff.1 HX.out).1).trans HX.out
 have HQ : Hid (0 ≤ r1 → (x.items.length ≤ 1048576 ∧ ∀ s ∈ x.items, s.size ≤ 1048576) ∧ r1 + (x.items.length : Nat) ≤ left) := q2
 clear hb1 HX q2
 by_cases hn : r1 < 0
 ·go_wp2
  go_ret
  exact szEnds_no HB1.out h0
 go_wp2
 go_ret
 exact ⟨r1, rfl, by omega, by omega, fun _ => HQ.out (by omega), HB1.out⟩
set_option maxHeartbeats 2000000 in
theorem szSBuffer_l (a : Option Addr) (l : List BufferD) (cap : Nat) (left : Int) (w : World) (hl : l.length ≤ maxLen) (hc : bufferK.Came w a l) (hs : ∀ x ∈ l, (x.items.length ≤ maxLen ∧ ∀ s ∈ x.items, s.size ≤ maxLen)) (h0 : 0 ≤ left) (h1 : left ≤ 1048576) :
  Calls Tryz.prog 111 #[.slice a l.length cap, .int .i64 left] w fun e w' => SzEnds w left (l.length + sumL (fun x : BufferD => x.items.length) l) (l.length ≤ 1048576 ∧ ∀ x ∈ l, (x.items.length ≤ 1048576 ∧ ∀ s ∈ x.items, s.size ≤ 1048576)) e w' := by
 have hl' := hl
 unfold maxLen at hl'
 by_cases hn : left - (l.length : Int) < 0
 ·go_enter Tryz.func111, Tryz.ntmps111
  go_wp2
  go_ret
  exact szEnds_no (Below.refl _ _) h0
 have HC : Hid (bufferK.Came w a l ∧ ∀ x ∈ l, (x.items.length ≤ maxLen ∧ ∀ s ∈ x.items, s.size ≤ maxLen)) := ⟨hc, hs⟩
 clear hc hs hl
 go_enter Tryz.func111, Tryz.ntmps111
 go_wp2_with fail
 go_loopw [1, 5] (fun q i wr => ∃ (k : Nat) (r : Int), k ≤ l.length ∧ i = .int .i64 k ∧ q = .int .i64 r ∧ 0 ≤ r ∧ r ≤ left - (l.length : Int) ∧ Hid ((∀ x ∈ l.take k, (x.items.length ≤ 1048576 ∧ ∀ s ∈ x.items, s.size ≤ 1048576)) ∧ r + (sumL (fun x : BufferD => x.items.length) (l.take k) : Nat) ≤ left - (l.length : Int) ∧ Below w.heap.size w wr)) (fun _ i _ => l.length - (intOf i).toNat)
 case atStart => exact ⟨0, left - (l.length : Int), Nat.zero_le _, rfl, rfl, by omega, by omega, ⟨by simp, by simp [sumL], Below.refl _ _⟩⟩
 case round =>
  obtain ⟨k, r, hk, rfl, rfl, r0, r1, HA⟩ := hrel
  by_cases hlt : k < l.length
  ·have i0 : (0 : Int) ≤ (k : Int) := by omega
   have i1 : (k : Int) < (l.length : Int) := by omega
   obtain ⟨x, hx⟩ : ∃ x, l[k]? = some x := ⟨_, List.getElem?_eq_getElem hlt⟩
   have hmem := List.mem_of_getElem? hx
   obtain ⟨b, off, rfl, hat⟩ := (HC.out.1.below HA.out.2.2).at hx
   have c0 : wr.cell? ⟨b, off + k * 3, none⟩ = some (.int .i64 x.id) := hat 0 _ rfl
   have c1 : wr.cell? ⟨b, off + k * 3 + 1, none⟩ = some (.int .i64 x.max) := hat 1 _ rfl
   have c2 : wr.cell? ⟨b, off + k * 3 + 2, none⟩ = some (.slice x.itemsA x.items.length x.itemsC) := hat 2 _ rfl
   have HX : Hid (l[k]? = some x ∧ (x.items.length ≤ maxLen ∧ ∀ s ∈ x.items, s.size ≤ maxLen)) := ⟨hx, HC.out.2 x hmem⟩
   have HK : Hid (strK.Came wr x.itemsA x.items) := ⟨((HC.out.1.below HA.out.2.2).kid hx (r := (x.itemsA, strK.flat x.items)) (by simp [bufferK])), fun y _ r hr => by simp [strK] at hr⟩
   clear hx hmem hat
   go_wp2_with fail
   refine (szBuffer_l x r wr HX.out.2 HK.out r0 (by omega)).mono ?_
   rintro e w1 ⟨r2, rfl, q0, q1, q2, hb1⟩
   have HB1 : Hid (Below w.heap.size w w1 ∧ (0 ≤ r2 → (x.items.length ≤ 1048576 ∧ ∀ s ∈ x.items, s.size ≤ 1048576) ∧ r2 + (x.items.length : Nat) ≤ r)) := ⟨HA.out.2.2.trans (hb1.mono HA.out.2.2.size), q2⟩
   clear hb1 q2 c0 c1 c2
   by_cases hneg : r2 < 0
   ·go_wp2
    go_ret
    exact szEnds_no HB1.out.1 h0
   go_wp2
   go_roundw
   case rel => exact ⟨k + 1, r2, by omega, by go_num, rfl, by omega, by omega, ⟨all_up HX.out.1 HA.out.1 (HB1.out.2 (by omega)).1, by rw [sumL_up HX.out.1]; have h5 := (HB1.out.2 (by omega)).2; have h6 := HA.out.2.1; omega, HB1.out.1⟩⟩
   case measure => simp [intOf]; omega
  ·have i1 : ¬ (k : Int) < (l.length : Int) := by omega
   go_wp2
   go_ret
   exact ⟨r, rfl, by omega, by omega, fun _ => ⟨⟨by omega, all_end (by omega) HA.out.1⟩, by have h5 := HA.out.2.1; rw [List.take_of_length_le (by omega)] at h5; omega⟩, HA.out.2.2⟩
set_option maxRecDepth 100000 in
set_option maxHeartbeats 4000000 in
theorem toBuffer_l (x : BufferD) (w : World) (hl : x.items.length ≤ 1048576) (hc : strK.Came w x.itemsA x.items) :
  Calls Tryz.prog 195 #[.agg #[.int .i64 x.id, .int .i64 x.max, .slice x.itemsA x.items.length x.itemsC]] w fun e w' => ∃ a c, e = .returned (.agg (bufferVs (bufferN.set x a c))) ∧ bufferN.Mine w' (w.heap.size + 1) (bufferN.set x a c) ∧ Below w.heap.size w w' := by
 have HB : Hid (Below w.heap.size w (((w.alloc (.cells #[.int .i64 x.id, .int .i64 x.max, .slice x.itemsA x.items.length x.itemsC] 239)).alloc (.cells #[.int .i64 0, .int .i64 0, .slice none 0 0] 144)).alloc (.cells #[.int .i64 x.id, .int .i64 x.max, .slice none 0 0] 144))) := alloc3_below _ _ _ _
 have HC : Hid (strK.Came (((w.alloc (.cells #[.int .i64 x.id, .int .i64 x.max, .slice x.itemsA x.items.length x.itemsC] 239)).alloc (.cells #[.int .i64 0, .int .i64 0, .slice none 0 0] 144)).alloc (.cells #[.int .i64 x.id, .int .i64 x.max, .slice none 0 0] 144)) x.itemsA x.items ∧ x.items.length ≤ 1048576) := ⟨hc.below HB.out, hl⟩
 have HX : Hid ((((w.alloc (.cells #[.int .i64 x.id, .int .i64 x.max, .slice x.itemsA x.items.length x.itemsC] 239)).alloc (.cells #[.int .i64 0, .int .i64 0, .slice none 0 0] 144)).alloc (.cells #[.int .i64 x.id, .int .i64 x.max, .slice none 0 0] 144)).heap[w.heap.size]? = some (.cells #[.int .i64 x.id, .int .i64 x.max, .slice x.itemsA x.items.length x.itemsC] 239 (0, 0)) ∧ (((w.alloc (.cells #[.int .i64 x.id, .int .i64 x.max, .slice x.itemsA x.items.length x.itemsC] 239)).alloc (.cells #[.int .i64 0, .int .i64 0, .slice none 0 0] 144)).alloc (.cells #[.int .i64 x.id, .int .i64 x.max, .slice none 0 0] 144)).heap[w.heap.size + 1]? = some (.cells #[.int .i64 0, .int .i64 0, .slice none 0 0] 144 (0, 0)) ∧ (((w.alloc (.cells #[.int .i64 x.id, .int .i64 x.max, .slice x.itemsA x.items.length x.itemsC] 239)).alloc (.cells #[.int .i64 0, .int .i64 0, .slice none 0 0] 144)).alloc (.cells #[.int .i64 x.id, .int .i64 x.max, .slice none 0 0] 144)).heap[w.heap.size + 1 + 1]? = some (.cells #[.int .i64 x.id, .int .i64 x.max, .slice none 0 0] 144 (0, 0)) ∧ (((w.alloc (.cells #[.int .i64 x.id, .int .i64 x.max, .slice x.itemsA x.items.length x.itemsC] 239)).alloc (.cells #[.int .i64 0, .int .i64 0, .slice none 0 0] 144)).alloc (.cells #[.int .i64 x.id, .int .i64 x.max, .slice none 0 0] 144)).heap.size = w.heap.size + 1 + 1 + 1) := alloc3_facts _ _ _ _
 clear hl hc
 go_enter Tryz.func195, Tryz.ntmps195
 go_wp2_with fail
 generalize ((w.alloc (.cells #[.int .i64 x.id, .int .i64 x.max, .slice x.itemsA x.items.length x.itemsC] 239)).alloc (.cells #[.int .i64 0, .int .i64 0, .slice none 0 0] 144)).alloc (.cells #[.int .i64 x.id, .int .i64 x.max, .slice none 0 0] 144) = W at *
 refine (toSStr_l x.itemsA x.items x.itemsC W HC.out.2 HC.out.1).mono ?_
 rintro e w1 ⟨rfl, hown, hb1⟩
 have HM : Hid (bufferN.Mine w1 W.heap.size (bufferN.set x (some ⟨W.heap.size, 0, none⟩) x.items.length) ∧ Below w.heap.size w w1) := ⟨Nest.mine_set (N := bufferN) hown, HB.out.trans (hb1.mono HB.out.size)⟩
 have y0 : w1.heap[w.heap.size]? = some (.cells #[.int .i64 x.id, .int .i64 x.max, .slice x.itemsA x.items.length x.itemsC] 239 (0, 0)) := (hb1.block _ (by have := HX.out.2.2.2; omega)).trans HX.out.1
 have y1 : w1.heap[w.heap.size + 1]? = some (.cells #[.int .i64 0, .int .i64 0, .slice none 0 0] 144 (0, 0)) := (hb1.block _ (by have := HX.out.2.2.2; omega)).trans HX.out.2.1
 have y2 : w1.heap[w.heap.size + 1 + 1]? = some (.cells #[.int .i64 x.id, .int .i64 x.max, .slice none 0 0] 144 (0, 0)) := (hb1.block _ (by have := HX.out.2.2.2; omega)).trans HX.out.2.2.1
 have t0 : w1.cell? ⟨w.heap.size + 1 + 1, 0, none⟩ = some (.int .i64 x.id) := by simp [World.cell?, y2]
 have u0 : w1.frozen? ⟨w.heap.size + 1 + 1, 0, none⟩ = false := by simp [World.frozen?, y2]
 have o0 : w1.cell? ⟨w.heap.size + 1, 0, none⟩ = some (.int .i64 0) := by simp [World.cell?, y1]
 have p0 : w1.frozen? ⟨w.heap.size + 1, 0, none⟩ = false := by simp [World.frozen?, y1]
 have t1 : w1.cell? ⟨w.heap.size + 1 + 1, 1, none⟩ = some (.int .i64 x.max) := by simp [World.cell?, y2]
 have u1 : w1.frozen? ⟨w.heap.size + 1 + 1, 1, none⟩ = false := by simp [World.frozen?, y2]
 have o1 : w1.cell? ⟨w.heap.size + 1, 1, none⟩ = some (.int .i64 0) := by simp [World.cell?, y1]
 have p1 : w1.frozen? ⟨w.heap.size + 1, 1, none⟩ = false := by simp [World.frozen?, y1]
 have t2 : w1.cell? ⟨w.heap.size + 1 + 1, 2, none⟩ = some (.slice none 0 0) := by simp [World.cell?, y2]
 have u2 : w1.frozen? ⟨w.heap.size + 1 + 1, 2, none⟩ = false := by simp [World.frozen?, y2]
 have o2 : w1.cell? ⟨w.heap.size + 1, 2, none⟩ = some (.slice none 0 0) := by simp [World.cell?, y1]
 have p2 : w1.frozen? ⟨w.heap.size + 1, 2, none⟩ = false := by simp [World.frozen?, y1]
 clear y0 y1 y2 hb1 hown
 dsimp only
 go_wp2
 refine bodyPost_ret (v := .agg #[.int .i64 x.id, .int .i64 x.max, .slice (some ⟨W.heap.size, 0, none⟩) x.items.length x.items.length]) (by simp [results, Tryz.results195, go_sem, *]) rfl ?_
 have hX := HX.out.2.2.2
 have h7 : Below w.heap.size w (setAllW (setAllW w1 (w.heap.size + 1 + 1) 2 [.slice (some ⟨W.heap.size, 0, none⟩) x.items.length x.items.length]) (w.heap.size + 1) 0 [.int .i64 x.id, .int .i64 x.max, .slice (some ⟨W.heap.size, 0, none⟩) x.items.length x.items.length]) := setAllW_below _ (by omega) (setAllW_below _ (by omega) HM.out.2)
 have h8 : bufferN.Mine (setAllW (setAllW w1 (w.heap.size + 1 + 1) 2 [.slice (some ⟨W.heap.size, 0, none⟩) x.items.length x.items.length]) (w.heap.size + 1) 0 [.int .i64 x.id, .int .i64 x.max, .slice (some ⟨W.heap.size, 0, none⟩) x.items.length x.items.length]) (w.heap.size + 1) (bufferN.set x (some ⟨W.heap.size, 0, none⟩) x.items.length) := (HM.out.1.low (by omega)).same fun g hg => by
  have := (HM.out.1.lt hg).1
  exact (setAllW_other _ (by omega)).trans (setAllW_other _ (by omega))
 simp only [setAllW, Nat.reduceAdd, Nat.zero_add] at h7 h8
 exact ⟨_, _, rfl, h8, h7⟩
theorem infoBuffer : (Tryz.prog.info? 144).map (fun i => (i.zero, i.size, decide (i.bytes ≤ 1000))) = some (some (.agg #[.int .i64 0, .int .i64 0, .slice none 0 0]), 3, true) := by kernel_rfl
theorem makeBuffer (n : Nat) (hn : n ≤ 1048576) (w : World) :
  (Instr.makeSlice 29 (.int .i64 (n : Int)) (.int .i64 (n : Int))).run Tryz.prog w = .ok (.slice (some ⟨w.heap.size, 0, none⟩) n n) (w.alloc (.cells (madeCells #[.int .i64 0, .int .i64 0, .slice none 0 0] (n * 3)) 144)) := by
 obtain ⟨i, hi, e⟩ := Option.map_eq_some_iff.1 infoBuffer
 simp only [Prod.mk.injEq, decide_eq_true_eq] at e
 obtain ⟨e1, e2, e3⟩ := e
 have hby : n * i.bytes ≤ 1048576 * 1000 := Nat.mul_le_mul hn e3
 have := run_make (P := Tryz.prog) w 29 144 i _ Tryz.underlying29 hi e1 .i64 .i64 n n (by omega) (by omega) (by rw [Nat.mul_comm] at hby; first | omega | (rw [Nat.mul_comm]; omega)) (by omega)
 rw [this, e2]
 simp [Value.cells]
set_option maxRecDepth 100000 in
set_option maxHeartbeats 4000000 in
theorem toSBuffer_l (a : Option Addr) (l : List BufferD) (cap : Nat) (w : World) (hl : l.length ≤ 1048576) (hk : ∀ x ∈ l, x.items.length ≤ 1048576) (hc : bufferK.Came w a l) :
  Calls Tryz.prog 117 #[.slice a l.length cap] w fun e w' => e = .returned (.slice (some ⟨w.heap.size, 0, none⟩) l.length l.length) ∧ ∃ out, CopyIs bufferN bufferK w w' l.length l out := by
 have hmk := makeBuffer l.length hl
 have HC : Hid (bufferK.Came w a l) := hc
 have HKL : Hid (∀ x ∈ l, x.items.length ≤ 1048576) := hk
 clear hk
 have HF : Hid (Fill bufferK 144 w (w.alloc (.cells (madeCells #[.int .i64 0, .int .i64 0, .slice none 0 0] (l.length * 3)) 144)) l.length []) := Fill.start (by rw [size_madeCells]; rfl)
 clear hc
 go_enter Tryz.func117, Tryz.ntmps117
 go_wp2_with fail
 go_loopw [4] (fun i wr => ∃ k : Nat, k ≤ l.length ∧ i = .int .i64 k ∧ ∃ out, Hid (FillN bufferN bufferK w wr l out k)) (fun i _ => l.length - (intOf i).toNat)
 case atStart => exact ⟨0, Nat.zero_le _, rfl, [], FillN.start HF.out⟩
 case round =>
  clear hmk HF
  obtain ⟨k, hk, rfl, out, HR⟩ := hrel
  by_cases hlt : k < l.length
  ·have i0 : (0 : Int) ≤ (k : Int) := by omega
   have i1 : (k : Int) < (l.length : Int) := by omega
   obtain ⟨x, hx⟩ : ∃ x, l[k]? = some x := ⟨_, List.getElem?_eq_getElem hlt⟩
   obtain ⟨b, off, rfl, hat⟩ := (HC.out.below HR.out.fill.bel).at hx
   have c0 : wr.cell? ⟨b, off + k * 3, none⟩ = some (.int .i64 x.id) := hat 0 _ rfl
   have c1 : wr.cell? ⟨b, off + k * 3 + 1, none⟩ = some (.int .i64 x.max) := hat 1 _ rfl
   have c2 : wr.cell? ⟨b, off + k * 3 + 2, none⟩ = some (.slice x.itemsA x.items.length x.itemsC) := hat 2 _ rfl
   have HX : Hid (l[k]? = some x) := hx
   have HK : Hid (strK.Came wr x.itemsA x.items ∧ x.items.length ≤ 1048576) := ⟨⟨((HC.out.below HR.out.fill.bel).kid hx (r := (x.itemsA, strK.flat x.items)) (by simp [bufferK])), fun y _ r hr => by simp [strK] at hr⟩, HKL.out x (List.mem_of_getElem? hx)⟩
   have hfl := HR.out.fill.lt
   clear hx hat
   go_wp2_with fail
   refine (toBuffer_l x wr HK.out.2 HK.out.1).mono ?_
   rintro e w1 ⟨a1, cp1, rfl, hmine, hb1⟩
   have HR1 : Hid (FillN bufferN bufferK w w1 l out k) := HR.out.below hb1
   have HB1 : Hid (wr.heap.size ≤ w1.heap.size) := hb1.size
   obtain ⟨⟨u, hu⟩, hf⟩ := HR1.out.fill.at
   have d0 := hu (k * 3) (by show k * 3 < l.length * 3; omega)
   have f0 := hf (k * 3)
   have d1 := hu (k * 3 + 1) (by show k * 3 + 1 < l.length * 3; omega)
   have f1 := hf (k * 3 + 1)
   have d2 := hu (k * 3 + 2) (by show k * 3 + 2 < l.length * 3; omega)
   have f2 := hf (k * 3 + 2)
   have h5 := HR1.out.more hlt HX.out (hmine.low (by have := hfl; omega)) (fun g hg => by have := (hmine.lt hg).1; omega) HR.out
   rw [show bufferK.vals (bufferN.set x a1 cp1) = [.int .i64 x.id, .int .i64 x.max, .slice a1 x.items.length cp1] from rfl, show bufferK.n = 3 from rfl] at h5
   simp only [setAllW, Nat.add_assoc, Nat.reduceAdd] at h5
   have HS : Hid (FillN bufferN bufferK w (((w1.setCell ⟨w.heap.size, k * 3, none⟩ (.int .i64 x.id)).setCell ⟨w.heap.size, k * 3 + 1, none⟩ (.int .i64 x.max)).setCell ⟨w.heap.size, k * 3 + 2, none⟩ (.slice a1 x.items.length cp1)) l (out ++ [bufferN.set x a1 cp1]) (k + 1)) := h5
   clear h5
   unfold bufferVs
   clear hu hf hb1 HR HR1 hmine c0 c1 c2
   go_wp2
   go_roundw
   case rel => exact ⟨k + 1, by omega, by go_num, _, HS.out⟩
   case measure => simp [intOf]; omega
  ·have i1 : ¬ (k : Int) < (l.length : Int) := by omega
   have ek : k = l.length := by omega
   subst ek
   go_wp2
   go_ret
   exact ⟨rfl, out, HR.out.done (by unfold maxLen; omega)⟩
set_option maxRecDepth 100000 in
set_option maxHeartbeats 4000000 in
theorem eqBuffer_l (x y : BufferD) (w : World) (hp : y.toBufferP = x.toBufferP) (hl : x.items.length ≤ 1048576) (hx : Row w x.itemsA (strK.flat x.items)) (hy : Row w y.itemsA (strK.flat y.items)) :
  Calls Tryz.prog 199 #[.agg #[.int .i64 x.id, .int .i64 x.max, .slice x.itemsA x.items.length x.itemsC], .agg #[.int .i64 y.id, .int .i64 y.max, .slice y.itemsA y.items.length y.itemsC]] w fun e w' => e = .returned (.bool true) ∧ Below w.heap.size w w' := by
 obtain ⟨p, xa, xc⟩ := x
 obtain ⟨p', ya, yc⟩ := y
 simp only at hp
 subst hp
 obtain ⟨v0, v1, v2⟩ := p'
 simp only at hl hx hy
 have HB : Hid (Below w.heap.size w ((w.alloc (.cells #[.int .i64 v0, .int .i64 v1, .slice xa v2.length xc] 144)).alloc (.cells #[.int .i64 v0, .int .i64 v1, .slice ya v2.length yc] 144))) := alloc2_below _ _ _
 have HR : Hid (Row ((w.alloc (.cells #[.int .i64 v0, .int .i64 v1, .slice xa v2.length xc] 144)).alloc (.cells #[.int .i64 v0, .int .i64 v1, .slice ya v2.length yc] 144)) xa (strK.flat v2) ∧ Row ((w.alloc (.cells #[.int .i64 v0, .int .i64 v1, .slice xa v2.length xc] 144)).alloc (.cells #[.int .i64 v0, .int .i64 v1, .slice ya v2.length yc] 144)) ya (strK.flat v2) ∧ v2.length ≤ 1048576) := ⟨hx.below HB.out, hy.below HB.out, hl⟩
 have HX : Hid (((w.alloc (.cells #[.int .i64 v0, .int .i64 v1, .slice xa v2.length xc] 144)).alloc (.cells #[.int .i64 v0, .int .i64 v1, .slice ya v2.length yc] 144)).heap[w.heap.size]? = some (.cells #[.int .i64 v0, .int .i64 v1, .slice xa v2.length xc] 144 (0, 0)) ∧ ((w.alloc (.cells #[.int .i64 v0, .int .i64 v1, .slice xa v2.length xc] 144)).alloc (.cells #[.int .i64 v0, .int .i64 v1, .slice ya v2.length yc] 144)).heap[w.heap.size + 1]? = some (.cells #[.int .i64 v0, .int .i64 v1, .slice ya v2.length yc] 144 (0, 0))) := alloc2_facts _ _ _
 clear hx hy hl
 go_enter Tryz.func199, Tryz.ntmps199
 go_wp2_with fail
 generalize (w.alloc (.cells #[.int .i64 v0, .int .i64 v1, .slice xa v2.length xc] 144)).alloc (.cells #[.int .i64 v0, .int .i64 v1, .slice ya v2.length yc] 144) = W at *
 refine (eqSStr_l xa ya v2 xc yc W HR.out.2.2 ⟨HR.out.1, fun _ _ r hr => by simp [strK] at hr⟩ ⟨HR.out.2.1, fun _ _ r hr => by simp [strK] at hr⟩).mono ?_
 rintro e w1 ⟨rfl, hb1⟩
 have HB1 : Hid (Below w.heap.size w w1) := HB.out.trans (hb1.mono HB.out.size)
 have x0 := (hb1.block _ (Array.getElem?_eq_some_iff.1 HX.out.1).1).trans HX.out.1
 have x1 := (hb1.block _ (Array.getElem?_eq_some_iff.1 HX.out.2).1).trans HX.out.2
 clear hb1 HX HR x0 x1
 go_wp2
 go_ret
 exact ⟨rfl, HB1.out⟩
def EqSBuffer (w : World) (a a' : Option Addr) (l l' : List BufferD) (x y : BufferD) (g g' k : Nat) (w' : World) : Prop := ((w'.cell? ⟨g, k * 3, none⟩ = some (.int .i64 x.id) ∧ w'.cell? ⟨g, k * 3 + 1, none⟩ = some (.int .i64 x.max) ∧ w'.cell? ⟨g, k * 3 + 2, none⟩ = some (.slice x.itemsA x.items.length x.itemsC)) ∧ (w'.cell? ⟨g', k * 3, none⟩ = some (.int .i64 y.id) ∧ w'.cell? ⟨g', k * 3 + 1, none⟩ = some (.int .i64 y.max) ∧ w'.cell? ⟨g', k * 3 + 2, none⟩ = some (.slice y.itemsA y.items.length y.itemsC))) ∧ Hid (bufferK.Lies w' a l ∧ bufferK.Lies w' a' l' ∧ Below w.heap.size w w')
theorem eqSBuffer_of {w w' : World} {a a' : Option Addr} {l l' : List BufferD} {x y : BufferD} {g g' k : Nat} (ha : a = some ⟨g, 0, none⟩) (ha' : a' = some ⟨g', 0, none⟩) (hx : l[k]? = some x) (hy : l'[k]? = some y) (h : bufferK.Lies w' a l ∧ bufferK.Lies w' a' l' ∧ Below w.heap.size w w') : EqSBuffer w a a' l l' x y g g' k w' := by
 obtain ⟨g1, e1, h1⟩ := h.1.at hx
 obtain ⟨g2, e2, h2⟩ := h.2.1.at hy
 rw [ha] at e1
 rw [ha'] at e2
 cases e1
 cases e2
 exact ⟨⟨⟨h1 0 _ rfl, h1 1 _ rfl, h1 2 _ rfl⟩, ⟨h2 0 _ rfl, h2 1 _ rfl, h2 2 _ rfl⟩⟩, h⟩
set_option maxRecDepth 100000 in
set_option maxHeartbeats 4000000 in
theorem eqSBuffer_l (a a' : Option Addr) (l l' : List BufferD) (cap cap' : Nat) (w : World) (hl : l.length ≤ 1048576) (hk : ∀ x ∈ l, x.items.length ≤ 1048576) (hp : l'.map (·.toBufferP) = l.map (·.toBufferP)) (h : bufferK.Lies w a l) (h' : bufferK.Lies w a' l') :
  Calls Tryz.prog 123 #[.slice a l.length cap, .slice a' l.length cap'] w fun e w' => e = .returned (.bool true) ∧ Below w.heap.size w w' := by
 have HL : Hid (bufferK.Lies w a l ∧ bufferK.Lies w a' l' ∧ (∀ x ∈ l, x.items.length ≤ 1048576) ∧ l'.map (·.toBufferP) = l.map (·.toBufferP)) := ⟨h, h', hk, hp⟩
 clear h h' hk hp
 go_enter Tryz.func123, Tryz.ntmps123
 go_wp2_with fail
 go_loopw [5] (fun i wr => ∃ k : Nat, k ≤ l.length ∧ i = .int .i64 k ∧ Hid (Below w.heap.size w wr)) (fun i _ => l.length - (intOf i).toNat)
 case atStart => exact ⟨0, Nat.zero_le _, rfl, Below.refl _ _⟩
 case round =>
  obtain ⟨k, hk, rfl, HB⟩ := hrel
  by_cases hlt : k < l.length
  ·have i0 : (0 : Int) ≤ (k : Int) := by omega
   have i1 : (k : Int) < (l.length : Int) := by omega
   obtain ⟨x, hx⟩ : ∃ x, l[k]? = some x := ⟨_, List.getElem?_eq_getElem hlt⟩
   obtain ⟨g, ha, -⟩ := HL.out.1.at hx
   obtain ⟨y, hy, hpy⟩ := map_same HL.out.2.2.2 hx
   obtain ⟨g', ha', -⟩ := HL.out.2.1.at hy
   have HX : Hid (a = some ⟨g, 0, none⟩ ∧ a' = some ⟨g', 0, none⟩ ∧ l[k]? = some x ∧ l'[k]? = some y ∧ y.toBufferP = x.toBufferP ∧ x.items.length ≤ 1048576) := ⟨ha, ha', hx, hy, hpy, HL.out.2.2.1 x (List.mem_of_getElem? hx)⟩
   have HS : Hid (EqSBuffer w a a' l l' x y g g' k wr) := eqSBuffer_of ha ha' hx hy ⟨HL.out.1.below HB.out, HL.out.2.1.below HB.out, HB.out⟩
   clear hx hy hpy
   rw [ha, ha']
   clear ha ha'
   go_wp2_with fail
   refine tame_region (EqSBuffer w a a' l l' x y g g' k) (by kernel_rfl) (eqSBuffer_of HX.out.1 HX.out.2.1 HX.out.2.2.1 HX.out.2.2.2.1 ⟨HS.out.2.out.1.below (Below.refl _ _).drew, HS.out.2.out.2.1.below (Below.refl _ _).drew, HS.out.2.out.2.2.drew⟩) ?_
   iterate 8 (refine yl (v := ?_) ?_ ?_; rotate_left; (intro w0 hS0; obtain ⟨⟨⟨q0, q1, q2⟩, ⟨r0, r1, r2⟩⟩, hH⟩ := hS0; go_simp; try with_reducible rfl); simp only [pt, sb, s0, s1])
   refine cl (.bool true) 199 #[.agg #[.int .i64 x.id, .int .i64 x.max, .slice x.itemsA x.items.length x.itemsC], .agg #[.int .i64 y.id, .int .i64 y.max, .slice y.itemsA y.items.length y.itemsC]] ?_ ?_ ?_
   ·intro w0 hS0
    obtain ⟨⟨⟨q0, q1, q2⟩, ⟨r0, r1, r2⟩⟩, hH⟩ := hS0
    go_simp
    try with_reducible rfl
   ·intro w0 hS0
    refine (eqBuffer_l x y w0 HX.out.2.2.2.2.1 HX.out.2.2.2.2.2 (hS0.2.out.1.kid HX.out.2.2.1 (r := (x.itemsA, strK.flat x.items)) (by simp [bufferK])) (hS0.2.out.2.1.kid HX.out.2.2.2.1 (r := (y.itemsA, strK.flat y.items)) (by simp [bufferK]))).mono ?_
    rintro e w2 ⟨rfl, hb2⟩
    exact ⟨rfl, eqSBuffer_of HX.out.1 HX.out.2.1 HX.out.2.2.1 HX.out.2.2.2.1 ⟨hS0.2.out.1.below hb2, hS0.2.out.2.1.below hb2, hS0.2.out.2.2.trans (hb2.mono hS0.2.out.2.2.size)⟩⟩
   simp only [pt, sb, s0, s1]
   (refine yl (v := ?_) ?_ ?_; rotate_left; (intro w0 hS0; obtain ⟨⟨⟨q0, q1, q2⟩, ⟨r0, r1, r2⟩⟩, hH⟩ := hS0; go_simp; try with_reducible rfl); simp only [pt, sb, s0, s1])
   refine tame_done (by kernel_rfl) ?_ _
   intro w1 hS1
   have HZ : Hid (Below w.heap.size w w1) := hS1.2.out.2.2
   clear hS1
   go_wp2
   go_roundw
   case rel => exact ⟨k + 1, by omega, by go_num, HZ.out⟩
   case measure => simp [intOf]; omega
  ·have i1 : ¬ (k : Int) < (l.length : Int) := by omega
   go_wp2
   go_ret
   exact ⟨rfl, HB.out⟩
end Go.Proofs.YtkbcplnlehdjfaaGreat
