/- What the proof leans on, part 20: LwBoard, LwOp, LwSem, PartOwn. -/
import Derived.Test.YtkbcplnlehdjfaaGreatOwnR1
import Derived.Test.YtkbcplnlehdjfaaGreatOwnR15
import Derived.Test.YtkbcplnlehdjfaaGreatOwnR18
import Derived.Test.YtkbcplnlehdjfaaGreatOwnR19

namespace Go.Proofs.YtkbcplnlehdjfaaGreat
open Go.RowKit
attribute [local go_sem ↓] Go.wp_at_zero Go.wp_at_succ
set_option maxHeartbeats 2000000 in
theorem szBoard_l (x : BoardD) (left : Int) (w : World) (hb : (x.text.size ≤ maxLen)) (h0 : 0 ≤ left) (h1 : left ≤ 1048576) :
  Calls Tryz.prog 190 #[.agg #[.int .i64 x.id, .bool x.shown, .string x.text], .int .i64 left] w fun e w' => SzEnds w left (0) ((x.text.size ≤ 1048576)) e w' := by
 have HB : Hid ((x.text.size ≤ maxLen)) := hb
 have HW : Hid (Below w.heap.size w (w.alloc (.cells #[.int .i64 x.id, .bool x.shown, .string x.text] 237))) := (Below.refl _ _).alloc (Nat.le_refl _) _
 clear hb
 go_enter Tryz.func190, Tryz.ntmps190
 have z0 : x.text.size ≤ 9223372036854775807 := HB.out
 by_cases s0 : left - (x.text.size : Int) < 0
 ·go_wp2
  go_ret
  exact szEnds_no HW.out h0
 go_wp2
 go_ret
 exact ⟨left - (x.text.size : Int), rfl, by omega, by omega, fun _ => ⟨by omega, by omega⟩, HW.out⟩
set_option maxHeartbeats 2000000 in
theorem szSBoard_l (a : Option Addr) (l : List BoardD) (cap : Nat) (left : Int) (w : World) (hl : l.length ≤ maxLen) (hc : boardK.Came w a l) (hs : ∀ x ∈ l, (x.text.size ≤ maxLen)) (h0 : 0 ≤ left) (h1 : left ≤ 1048576) :
  Calls Tryz.prog 110 #[.slice a l.length cap, .int .i64 left] w fun e w' => SzEnds w left (l.length) (l.length ≤ 1048576 ∧ ∀ x ∈ l, (x.text.size ≤ 1048576)) e w' := by
 have hl' := hl
 unfold maxLen at hl'
 by_cases hn : left - (l.length : Int) < 0
 ·go_enter Tryz.func110, Tryz.ntmps110
  go_wp2
  go_ret
  exact szEnds_no (Below.refl _ _) h0
 have HC : Hid (boardK.Came w a l ∧ ∀ x ∈ l, (x.text.size ≤ maxLen)) := ⟨hc, hs⟩
 clear hc hs hl
 go_enter Tryz.func110, Tryz.ntmps110
 go_wp2_with fail
 go_loopw [1, 5] (fun q i wr => ∃ (k : Nat) (r : Int), k ≤ l.length ∧ i = .int .i64 k ∧ q = .int .i64 r ∧ 0 ≤ r ∧ r ≤ left - (l.length : Int) ∧ Hid ((∀ x ∈ l.take k, (x.text.size ≤ 1048576)) ∧ Below w.heap.size w wr)) (fun _ i _ => l.length - (intOf i).toNat)
 case atStart => exact ⟨0, left - (l.length : Int), Nat.zero_le _, rfl, rfl, by omega, by omega, ⟨by simp, Below.refl _ _⟩⟩
 case round =>
  obtain ⟨k, r, hk, rfl, rfl, r0, r1, HA⟩ := hrel
  by_cases hlt : k < l.length
  ·have i0 : (0 : Int) ≤ (k : Int) := by omega
   have i1 : (k : Int) < (l.length : Int) := by omega
   obtain ⟨x, hx⟩ : ∃ x, l[k]? = some x := ⟨_, List.getElem?_eq_getElem hlt⟩
   have hmem := List.mem_of_getElem? hx
   obtain ⟨b, off, rfl, hat⟩ := (HC.out.1.below HA.out.2).at hx
   have c0 : wr.cell? ⟨b, off + k * 3, none⟩ = some (.int .i64 x.id) := hat 0 _ rfl
   have c1 : wr.cell? ⟨b, off + k * 3 + 1, none⟩ = some (.bool x.shown) := hat 1 _ rfl
   have c2 : wr.cell? ⟨b, off + k * 3 + 2, none⟩ = some (.string x.text) := hat 2 _ rfl
   have HX : Hid (l[k]? = some x ∧ (x.text.size ≤ maxLen)) := ⟨hx, HC.out.2 x hmem⟩
   clear hx hmem hat
   go_wp2_with fail
   refine (szBoard_l x r wr HX.out.2 r0 (by omega)).mono ?_
   rintro e w1 ⟨r2, rfl, q0, q1, q2, hb1⟩
   have HB1 : Hid (Below w.heap.size w w1 ∧ (0 ≤ r2 → (x.text.size ≤ 1048576) ∧ r2 + (0 : Nat) ≤ r)) := ⟨HA.out.2.trans (hb1.mono HA.out.2.size), q2⟩
   clear hb1 q2 c0 c1 c2
   by_cases hneg : r2 < 0
   ·go_wp2
    go_ret
    exact szEnds_no HB1.out.1 h0
   go_wp2
   go_roundw
   case rel => exact ⟨k + 1, r2, by omega, by go_num, rfl, by omega, by omega, ⟨all_up HX.out.1 HA.out.1 (HB1.out.2 (by omega)).1, HB1.out.1⟩⟩
   case measure => simp [intOf]; omega
  ·have i1 : ¬ (k : Int) < (l.length : Int) := by omega
   go_wp2
   go_ret
   exact ⟨r, rfl, by omega, by omega, fun _ => ⟨⟨by omega, all_end (by omega) HA.out.1⟩, by omega⟩, HA.out.2⟩
set_option maxRecDepth 100000 in
set_option maxHeartbeats 4000000 in
theorem toBoard_l (x : BoardD) (w : World) : Calls Tryz.prog 194 #[.agg #[.int .i64 x.id, .bool x.shown, .string x.text]] w fun e w' => e = .returned (.agg #[.int .i64 x.id, .bool x.shown, .string x.text]) ∧ Below w.heap.size w w' := by
 go_enter Tryz.func194, Tryz.ntmps194
 go_wp2
 exact bodyPost_ret (v := .agg #[.int .i64 x.id, .bool x.shown, .string x.text]) (by simp [results, Tryz.results194, go_sem]) rfl ⟨rfl, by go_grown⟩
theorem infoBoard : (Tryz.prog.info? 141).map (fun i => (i.zero, i.size, decide (i.bytes ≤ 1000))) = some (some (.agg #[.int .i64 0, .bool false, .string ⟨#[]⟩]), 3, true) := by kernel_rfl
theorem makeBoard (n : Nat) (hn : n ≤ 1048576) (w : World) :
  (Instr.makeSlice 28 (.int .i64 (n : Int)) (.int .i64 (n : Int))).run Tryz.prog w = .ok (.slice (some ⟨w.heap.size, 0, none⟩) n n) (w.alloc (.cells (madeCells #[.int .i64 0, .bool false, .string ⟨#[]⟩] (n * 3)) 141)) := by
 obtain ⟨i, hi, e⟩ := Option.map_eq_some_iff.1 infoBoard
 simp only [Prod.mk.injEq, decide_eq_true_eq] at e
 obtain ⟨e1, e2, e3⟩ := e
 have hby : n * i.bytes ≤ 1048576 * 1000 := Nat.mul_le_mul hn e3
 have := run_make (P := Tryz.prog) w 28 141 i _ Tryz.underlying28 hi e1 .i64 .i64 n n (by omega) (by omega) (by rw [Nat.mul_comm] at hby; first | omega | (rw [Nat.mul_comm]; omega)) (by omega)
 rw [this, e2]
 simp [Value.cells]
set_option maxRecDepth 100000 in
set_option maxHeartbeats 4000000 in
theorem toSBoard_l (a : Option Addr) (l : List BoardD) (cap : Nat) (w : World) (hl : l.length ≤ 1048576) (hc : boardK.Came w a l) :
  Calls Tryz.prog 116 #[.slice a l.length cap] w fun e w' => e = .returned (.slice (some ⟨w.heap.size, 0, none⟩) l.length l.length) ∧ w'.ownsRow w.heap.size 141 3 (.slice (some ⟨w.heap.size, 0, none⟩) l.length l.length) l.length (boardK.flat l) ∧ Below w.heap.size w w' := by
 have hmk := makeBoard l.length hl
 have HC : Hid (boardK.Came w a l) := hc
 have HF : Hid (Fill boardK 141 w (w.alloc (.cells (madeCells #[.int .i64 0, .bool false, .string ⟨#[]⟩] (l.length * 3)) 141)) l.length []) := Fill.start (by rw [size_madeCells]; rfl)
 clear hc
 go_enter Tryz.func116, Tryz.ntmps116
 go_wp2_with fail
 go_loopw [4] (fun i wr => ∃ k : Nat, k ≤ l.length ∧ i = .int .i64 k ∧ Hid (Fill boardK 141 w wr l.length (l.take k))) (fun i _ => l.length - (intOf i).toNat)
 case atStart => exact ⟨0, Nat.zero_le _, rfl, HF.out⟩
 case round =>
  clear hmk HF
  obtain ⟨k, hk, rfl, HR⟩ := hrel
  by_cases hlt : k < l.length
  ·have i0 : (0 : Int) ≤ (k : Int) := by omega
   have i1 : (k : Int) < (l.length : Int) := by omega
   obtain ⟨x, hx⟩ : ∃ x, l[k]? = some x := ⟨_, List.getElem?_eq_getElem hlt⟩
   obtain ⟨b, off, rfl, hat⟩ := (HC.out.below HR.out.bel).at hx
   have c0 : wr.cell? ⟨b, off + k * 3, none⟩ = some (.int .i64 x.id) := hat 0 _ rfl
   have c1 : wr.cell? ⟨b, off + k * 3 + 1, none⟩ = some (.bool x.shown) := hat 1 _ rfl
   have c2 : wr.cell? ⟨b, off + k * 3 + 2, none⟩ = some (.string x.text) := hat 2 _ rfl
   have HX : Hid (l[k]? = some x) := hx
   have hfl := HR.out.lt
   clear hx hat
   go_wp2_with fail
   refine (toBoard_l x wr).mono ?_
   rintro e w1 ⟨rfl, hb1⟩
   have HR1 : Hid (Fill boardK 141 w w1 l.length (l.take k)) := HR.out.below hb1
   obtain ⟨⟨u, hu⟩, hf⟩ := HR1.out.at
   have d0 := hu (k * 3) (by show k * 3 < l.length * 3; omega)
   have f0 := hf (k * 3)
   have d1 := hu (k * 3 + 1) (by show k * 3 + 1 < l.length * 3; omega)
   have f1 := hf (k * 3 + 1)
   have d2 := hu (k * 3 + 2) (by show k * 3 + 2 < l.length * 3; omega)
   have f2 := hf (k * 3 + 2)
   have HS : Hid (Fill boardK 141 w (((w1.setCell ⟨w.heap.size, k * 3, none⟩ (.int .i64 x.id)).setCell ⟨w.heap.size, k * 3 + 1, none⟩ (.bool x.shown)).setCell ⟨w.heap.size, k * 3 + 2, none⟩ (.string x.text)) l.length (l.take (k + 1))) := by
    have h5 := HR1.out.more (by rw [List.length_take]; omega) x
    rw [← take_up HX.out, List.length_take, Nat.min_eq_left hk, show boardK.vals x = [.int .i64 x.id, .bool x.shown, .string x.text] from rfl, show boardK.n = 3 from rfl] at h5
    simp only [setAllW, Nat.add_assoc, Nat.reduceAdd] at h5
    exact h5
   clear hu hf hb1 HR HR1 c0 c1 c2
   go_wp2
   go_roundw
   case rel => exact ⟨k + 1, by omega, by go_num, HS.out⟩
   case measure => simp [intOf]; omega
  ·have i1 : ¬ (k : Int) < (l.length : Int) := by omega
   have ek : k = l.length := by omega
   subst ek
   go_wp2
   go_ret
   have h6 := HR.out.done (by rw [List.length_take]; omega) (by unfold maxLen; omega)
   rw [List.take_length] at h6
   exact ⟨rfl, h6, HR.out.bel⟩
set_option maxRecDepth 100000 in
set_option maxHeartbeats 4000000 in
theorem eqBoard_l (x : BoardD) (w : World) : Calls Tryz.prog 198 #[.agg #[.int .i64 x.id, .bool x.shown, .string x.text], .agg #[.int .i64 x.id, .bool x.shown, .string x.text]] w fun e w' => e = .returned (.bool true) ∧ Below w.heap.size w w' := by
 go_enter Tryz.func198, Tryz.ntmps198
 go_wp2
 go_ret
 exact ⟨ret_bool (by simp), by go_grown⟩
def EqSBoard (w : World) (a a' : Option Addr) (l : List BoardD) (x : BoardD) (g g' k : Nat) (w' : World) : Prop := ((w'.cell? ⟨g, k * 3, none⟩ = some (.int .i64 x.id) ∧ w'.cell? ⟨g, k * 3 + 1, none⟩ = some (.bool x.shown) ∧ w'.cell? ⟨g, k * 3 + 2, none⟩ = some (.string x.text)) ∧ (w'.cell? ⟨g', k * 3, none⟩ = some (.int .i64 x.id) ∧ w'.cell? ⟨g', k * 3 + 1, none⟩ = some (.bool x.shown) ∧ w'.cell? ⟨g', k * 3 + 2, none⟩ = some (.string x.text))) ∧ Hid (boardK.Lies w' a l ∧ boardK.Lies w' a' l ∧ Below w.heap.size w w')
theorem eqSBoard_of {w w' : World} {a a' : Option Addr} {l : List BoardD} {x : BoardD} {g g' k : Nat} (ha : a = some ⟨g, 0, none⟩) (ha' : a' = some ⟨g', 0, none⟩) (hx : l[k]? = some x) (h : boardK.Lies w' a l ∧ boardK.Lies w' a' l ∧ Below w.heap.size w w') : EqSBoard w a a' l x g g' k w' := by
 obtain ⟨g1, e1, h1⟩ := h.1.at hx
 obtain ⟨g2, e2, h2⟩ := h.2.1.at hx
 rw [ha] at e1
 rw [ha'] at e2
 cases e1
 cases e2
 exact ⟨⟨⟨h1 0 _ rfl, h1 1 _ rfl, h1 2 _ rfl⟩, ⟨h2 0 _ rfl, h2 1 _ rfl, h2 2 _ rfl⟩⟩, h⟩
set_option maxRecDepth 100000 in
set_option maxHeartbeats 4000000 in
theorem eqSBoard_l (a a' : Option Addr) (l : List BoardD) (cap cap' : Nat) (w : World) (hl : l.length ≤ 1048576) (h : boardK.Lies w a l) (h' : boardK.Lies w a' l) :
  Calls Tryz.prog 122 #[.slice a l.length cap, .slice a' l.length cap'] w fun e w' => e = .returned (.bool true) ∧ Below w.heap.size w w' := by
 have HL : Hid (boardK.Lies w a l ∧ boardK.Lies w a' l) := ⟨h, h'⟩
 clear h h'
 go_enter Tryz.func122, Tryz.ntmps122
 go_wp2_with fail
 go_loopw [5] (fun i wr => ∃ k : Nat, k ≤ l.length ∧ i = .int .i64 k ∧ Hid (Below w.heap.size w wr)) (fun i _ => l.length - (intOf i).toNat)
 case atStart => exact ⟨0, Nat.zero_le _, rfl, Below.refl _ _⟩
 case round =>
  obtain ⟨k, hk, rfl, HB⟩ := hrel
  by_cases hlt : k < l.length
  ·have i0 : (0 : Int) ≤ (k : Int) := by omega
   have i1 : (k : Int) < (l.length : Int) := by omega
   obtain ⟨x, hx⟩ : ∃ x, l[k]? = some x := ⟨_, List.getElem?_eq_getElem hlt⟩
   obtain ⟨g, ha, -⟩ := HL.out.1.at hx
   obtain ⟨g', ha', -⟩ := HL.out.2.at hx
   have HX : Hid (a = some ⟨g, 0, none⟩ ∧ a' = some ⟨g', 0, none⟩ ∧ l[k]? = some x) := ⟨ha, ha', hx⟩
   have HS : Hid (EqSBoard w a a' l x g g' k wr) := eqSBoard_of ha ha' hx ⟨HL.out.1.below HB.out, HL.out.2.below HB.out, HB.out⟩
   clear hx
   rw [ha, ha']
   clear ha ha'
   go_wp2_with fail
   refine tame_region (EqSBoard w a a' l x g g' k) (by kernel_rfl) (eqSBoard_of HX.out.1 HX.out.2.1 HX.out.2.2 ⟨HS.out.2.out.1.below (Below.refl _ _).drew, HS.out.2.out.2.1.below (Below.refl _ _).drew, HS.out.2.out.2.2.drew⟩) ?_
   iterate 8 (refine yl (v := ?_) ?_ ?_; rotate_left; (intro w0 hS0; obtain ⟨⟨⟨q0, q1, q2⟩, ⟨r0, r1, r2⟩⟩, hH⟩ := hS0; go_simp; try with_reducible rfl); simp only [pt, sb, s0, s1])
   refine cl (.bool true) 198 #[.agg #[.int .i64 x.id, .bool x.shown, .string x.text], .agg #[.int .i64 x.id, .bool x.shown, .string x.text]] ?_ ?_ ?_
   ·intro w0 hS0
    obtain ⟨⟨⟨q0, q1, q2⟩, ⟨r0, r1, r2⟩⟩, hH⟩ := hS0
    go_simp
    try with_reducible rfl
   ·intro w0 hS0
    refine (eqBoard_l x w0).mono ?_
    rintro e w2 ⟨rfl, hb2⟩
    exact ⟨rfl, eqSBoard_of HX.out.1 HX.out.2.1 HX.out.2.2 ⟨hS0.2.out.1.below hb2, hS0.2.out.2.1.below hb2, hS0.2.out.2.2.trans (hb2.mono hS0.2.out.2.2.size)⟩⟩
   simp only [pt, sb, s0, s1]
   (refine yl (v := ?_) ?_ ?_; rotate_left; (intro w0 hS0; obtain ⟨⟨⟨q0, q1, q2⟩, ⟨r0, r1, r2⟩⟩, hH⟩ := hS0; go_simp; try with_reducible rfl); simp only [pt, sb, s0, s1])
   refine tame_done (by kernel_rfl) ?_ _
   intro w1 hS1
   have HZ : Hid (Below w.heap.size w w1) := hS1.2.out.2.2
   clear hS1
   go_wp2
   go_roundw
   case rel => exact ⟨k + 1, by omega, by go_num, HZ.out⟩
   case measure => simp [intOf]; omega
  ·have i1 : ¬ (k : Int) < (l.length : Int) := by omega
   go_wp2
   go_ret
   exact ⟨rfl, HB.out⟩
end Go.Proofs.YtkbcplnlehdjfaaGreat

/- The laws' functions on things of the kind Op: measured, copied, held against each other. (Made by mklw.py.) -/
namespace Go.Proofs.YtkbcplnlehdjfaaGreat
open Go.RowKit
attribute [local go_sem ↓] Go.wp_at_zero Go.wp_at_succ
def OpsShort (l : List OpD) : Prop := l.length ≤ 1048576 ∧ ∀ x ∈ l, x.2.2.2.size ≤ 1048576
set_option maxHeartbeats 2000000 in
theorem szSOp_l (a : Option Addr) (l : List OpD) (cap : Nat) (left : Int) (w : World) (hl : l.length ≤ maxLen) (hc : opK.Came w a l) (hs : ∀ x ∈ l, (x.2.2.2.size ≤ maxLen)) (h0 : 0 ≤ left) (h1 : left ≤ 1048576) :
  Calls Tryz.prog 61 #[.slice a l.length cap, .int .i64 left] w fun e w' => SzEnds w left (l.length) (OpsShort l) e w' := by
 have hl' := hl
 unfold maxLen at hl'
 by_cases hn : left - (l.length : Int) < 0
 ·go_enter Tryz.func61, Tryz.ntmps61
  go_wp2
  go_ret
  exact szEnds_no (Below.refl _ _) h0
 have HC : Hid (opK.Came w a l ∧ ∀ x ∈ l, (x.2.2.2.size ≤ maxLen)) := ⟨hc, hs⟩
 clear hc hs hl
 go_enter Tryz.func61, Tryz.ntmps61
 go_wp2_with fail
 go_loopw [1, 5] (fun q i wr => ∃ (k : Nat) (r : Int), k ≤ l.length ∧ i = .int .i64 k ∧ q = .int .i64 r ∧ 0 ≤ r ∧ r ≤ left - (l.length : Int) ∧ Hid ((∀ x ∈ l.take k, (x.2.2.2.size ≤ 1048576)) ∧ Below w.heap.size w wr)) (fun _ i _ => l.length - (intOf i).toNat)
 case atStart => exact ⟨0, left - (l.length : Int), Nat.zero_le _, rfl, rfl, by omega, by omega, ⟨by simp, Below.refl _ _⟩⟩
 case round =>
  obtain ⟨k, r, hk, rfl, rfl, r0, r1, HA⟩ := hrel
  by_cases hlt : k < l.length
  ·have i0 : (0 : Int) ≤ (k : Int) := by omega
   have i1 : (k : Int) < (l.length : Int) := by omega
   obtain ⟨x, hx⟩ : ∃ x, l[k]? = some x := ⟨_, List.getElem?_eq_getElem hlt⟩
   have hmem := List.mem_of_getElem? hx
   obtain ⟨b, off, rfl, hat⟩ := (HC.out.1.below HA.out.2).at hx
   have c0 : wr.cell? ⟨b, off + k * 4, none⟩ = some (.int .i64 x.1) := hat 0 _ rfl
   have c1 : wr.cell? ⟨b, off + k * 4 + 1, none⟩ = some (.int .i64 x.2.1) := hat 1 _ rfl
   have c2 : wr.cell? ⟨b, off + k * 4 + 2, none⟩ = some (.int .i64 x.2.2.1) := hat 2 _ rfl
   have c3 : wr.cell? ⟨b, off + k * 4 + 3, none⟩ = some (.string x.2.2.2) := hat 3 _ rfl
   have HX : Hid (l[k]? = some x ∧ (x.2.2.2.size ≤ maxLen)) := ⟨hx, HC.out.2 x hmem⟩
   clear hx hmem hat
   go_wp2_with fail
   refine (szOp_any x.1 x.2.1 x.2.2.1 x.2.2.2 r wr HX.out.2 r0 (by omega)).mono ?_
   rintro e w1 ⟨rfl, hb1⟩
   have HB1 : Hid (Below w.heap.size w w1) := HA.out.2.trans (hb1.mono HA.out.2.size)
   clear hb1 c0 c1 c2 c3
   by_cases hsz : r < x.2.2.2.size
   ·rw [szOf_neg hsz]
    go_wp2
    go_ret
    exact szEnds_no HB1.out h0
   rw [szOf_pos (by omega)]
   have hnn : ¬ r - (x.2.2.2.size : Int) < 0 := by omega
   go_wp2
   go_roundw
   case rel => exact ⟨k + 1, r - x.2.2.2.size, by omega, by go_num, rfl, by omega, by omega, ⟨all_up HX.out.1 HA.out.1 (by omega), HB1.out⟩⟩
   case measure => simp [intOf]; omega
  ·have i1 : ¬ (k : Int) < (l.length : Int) := by omega
   go_wp2
   go_ret
   exact ⟨r, rfl, by omega, by omega, fun _ => ⟨(show OpsShort l from ⟨by omega, all_end (by omega) HA.out.1⟩), by omega⟩, HA.out.2⟩
theorem infoOp : (Tryz.prog.info? 134).map (fun i => (i.zero, i.size, decide (i.bytes ≤ 1000))) = some (some (.agg #[.int .i64 0, .int .i64 0, .int .i64 0, .string ⟨#[]⟩]), 4, true) := by kernel_rfl
theorem makeOp (n : Nat) (hn : n ≤ 1048576) (w : World) :
  (Instr.makeSlice 37 (.int .i64 (n : Int)) (.int .i64 (n : Int))).run Tryz.prog w = .ok (.slice (some ⟨w.heap.size, 0, none⟩) n n) (w.alloc (.cells (madeCells #[.int .i64 0, .int .i64 0, .int .i64 0, .string ⟨#[]⟩] (n * 4)) 134)) := by
 obtain ⟨i, hi, e⟩ := Option.map_eq_some_iff.1 infoOp
 simp only [Prod.mk.injEq, decide_eq_true_eq] at e
 obtain ⟨e1, e2, e3⟩ := e
 have hby : n * i.bytes ≤ 1048576 * 1000 := Nat.mul_le_mul hn e3
 have := run_make (P := Tryz.prog) w 37 134 i _ Tryz.underlying37 hi e1 .i64 .i64 n n (by omega) (by omega) (by rw [Nat.mul_comm] at hby; first | omega | (rw [Nat.mul_comm]; omega)) (by omega)
 rw [this, e2]
 simp [Value.cells]
set_option maxRecDepth 100000 in
set_option maxHeartbeats 4000000 in
theorem toSOp_l (a : Option Addr) (l : List OpD) (cap : Nat) (w : World) (hl : l.length ≤ 1048576) (hc : opK.Came w a l) :
  Calls Tryz.prog 62 #[.slice a l.length cap] w fun e w' => e = .returned (.slice (some ⟨w.heap.size, 0, none⟩) l.length l.length) ∧ w'.ownsRow w.heap.size 134 4 (.slice (some ⟨w.heap.size, 0, none⟩) l.length l.length) l.length (opK.flat l) ∧ Below w.heap.size w w' := by
 have hmk := makeOp l.length hl
 have HC : Hid (opK.Came w a l) := hc
 have HF : Hid (Fill opK 134 w (w.alloc (.cells (madeCells #[.int .i64 0, .int .i64 0, .int .i64 0, .string ⟨#[]⟩] (l.length * 4)) 134)) l.length []) := Fill.start (by rw [size_madeCells]; rfl)
 clear hc
 go_enter Tryz.func62, Tryz.ntmps62
 go_wp2_with fail
 go_loopw [4] (fun i wr => ∃ k : Nat, k ≤ l.length ∧ i = .int .i64 k ∧ Hid (Fill opK 134 w wr l.length (l.take k))) (fun i _ => l.length - (intOf i).toNat)
 case atStart => exact ⟨0, Nat.zero_le _, rfl, HF.out⟩
 case round =>
  clear hmk HF
  obtain ⟨k, hk, rfl, HR⟩ := hrel
  by_cases hlt : k < l.length
  ·have i0 : (0 : Int) ≤ (k : Int) := by omega
   have i1 : (k : Int) < (l.length : Int) := by omega
   obtain ⟨x, hx⟩ : ∃ x, l[k]? = some x := ⟨_, List.getElem?_eq_getElem hlt⟩
   obtain ⟨b, off, rfl, hat⟩ := (HC.out.below HR.out.bel).at hx
   have c0 : wr.cell? ⟨b, off + k * 4, none⟩ = some (.int .i64 x.1) := hat 0 _ rfl
   have c1 : wr.cell? ⟨b, off + k * 4 + 1, none⟩ = some (.int .i64 x.2.1) := hat 1 _ rfl
   have c2 : wr.cell? ⟨b, off + k * 4 + 2, none⟩ = some (.int .i64 x.2.2.1) := hat 2 _ rfl
   have c3 : wr.cell? ⟨b, off + k * 4 + 3, none⟩ = some (.string x.2.2.2) := hat 3 _ rfl
   have HX : Hid (l[k]? = some x) := hx
   have hfl := HR.out.lt
   clear hx hat
   go_wp2_with fail
   refine (toOp_any x.1 x.2.1 x.2.2.1 x.2.2.2 wr).mono ?_
   rintro e w1 ⟨rfl, hb1⟩
   have HR1 : Hid (Fill opK 134 w w1 l.length (l.take k)) := HR.out.below hb1
   obtain ⟨⟨u, hu⟩, hf⟩ := HR1.out.at
   have d0 := hu (k * 4) (by show k * 4 < l.length * 4; omega)
   have f0 := hf (k * 4)
   have d1 := hu (k * 4 + 1) (by show k * 4 + 1 < l.length * 4; omega)
   have f1 := hf (k * 4 + 1)
   have d2 := hu (k * 4 + 2) (by show k * 4 + 2 < l.length * 4; omega)
   have f2 := hf (k * 4 + 2)
   have d3 := hu (k * 4 + 3) (by show k * 4 + 3 < l.length * 4; omega)
   have f3 := hf (k * 4 + 3)
   have HS : Hid (Fill opK 134 w ((((w1.setCell ⟨w.heap.size, k * 4, none⟩ (.int .i64 x.1)).setCell ⟨w.heap.size, k * 4 + 1, none⟩ (.int .i64 x.2.1)).setCell ⟨w.heap.size, k * 4 + 2, none⟩ (.int .i64 x.2.2.1)).setCell ⟨w.heap.size, k * 4 + 3, none⟩ (.string x.2.2.2)) l.length (l.take (k + 1))) := by
    have h5 := HR1.out.more (by rw [List.length_take]; omega) x
    rw [← take_up HX.out, List.length_take, Nat.min_eq_left hk, show opK.vals x = [.int .i64 x.1, .int .i64 x.2.1, .int .i64 x.2.2.1, .string x.2.2.2] from rfl, show opK.n = 4 from rfl] at h5
    simp only [setAllW, Nat.add_assoc, Nat.reduceAdd] at h5
    exact h5
   clear hu hf hb1 HR HR1 c0 c1 c2 c3
   go_wp2
   go_roundw
   case rel => exact ⟨k + 1, by omega, by go_num, HS.out⟩
   case measure => simp [intOf]; omega
  ·have i1 : ¬ (k : Int) < (l.length : Int) := by omega
   have ek : k = l.length := by omega
   subst ek
   go_wp2
   go_ret
   have h6 := HR.out.done (by rw [List.length_take]; omega) (by unfold maxLen; omega)
   rw [List.take_length] at h6
   exact ⟨rfl, h6, HR.out.bel⟩
def EqSOp (w : World) (a a' : Option Addr) (l : List OpD) (x : OpD) (g g' k : Nat) (w' : World) : Prop := ((w'.cell? ⟨g, k * 4, none⟩ = some (.int .i64 x.1) ∧ w'.cell? ⟨g, k * 4 + 1, none⟩ = some (.int .i64 x.2.1) ∧ w'.cell? ⟨g, k * 4 + 2, none⟩ = some (.int .i64 x.2.2.1) ∧ w'.cell? ⟨g, k * 4 + 3, none⟩ = some (.string x.2.2.2)) ∧ (w'.cell? ⟨g', k * 4, none⟩ = some (.int .i64 x.1) ∧ w'.cell? ⟨g', k * 4 + 1, none⟩ = some (.int .i64 x.2.1) ∧ w'.cell? ⟨g', k * 4 + 2, none⟩ = some (.int .i64 x.2.2.1) ∧ w'.cell? ⟨g', k * 4 + 3, none⟩ = some (.string x.2.2.2))) ∧ Hid (opK.Lies w' a l ∧ opK.Lies w' a' l ∧ Below w.heap.size w w')
theorem eqSOp_of {w w' : World} {a a' : Option Addr} {l : List OpD} {x : OpD} {g g' k : Nat} (ha : a = some ⟨g, 0, none⟩) (ha' : a' = some ⟨g', 0, none⟩) (hx : l[k]? = some x) (h : opK.Lies w' a l ∧ opK.Lies w' a' l ∧ Below w.heap.size w w') : EqSOp w a a' l x g g' k w' := by
 obtain ⟨g1, e1, h1⟩ := h.1.at hx
 obtain ⟨g2, e2, h2⟩ := h.2.1.at hx
 rw [ha] at e1
 rw [ha'] at e2
 cases e1
 cases e2
 exact ⟨⟨⟨h1 0 _ rfl, h1 1 _ rfl, h1 2 _ rfl, h1 3 _ rfl⟩, ⟨h2 0 _ rfl, h2 1 _ rfl, h2 2 _ rfl, h2 3 _ rfl⟩⟩, h⟩
set_option maxRecDepth 100000 in
set_option maxHeartbeats 4000000 in
theorem eqSOp_l (a a' : Option Addr) (l : List OpD) (cap cap' : Nat) (w : World) (hl : l.length ≤ 1048576) (h : opK.Lies w a l) (h' : opK.Lies w a' l) :
  Calls Tryz.prog 63 #[.slice a l.length cap, .slice a' l.length cap'] w fun e w' => e = .returned (.bool true) ∧ Below w.heap.size w w' := by
 have HL : Hid (opK.Lies w a l ∧ opK.Lies w a' l) := ⟨h, h'⟩
 clear h h'
 go_enter Tryz.func63, Tryz.ntmps63
 go_wp2_with fail
 go_loopw [5] (fun i wr => ∃ k : Nat, k ≤ l.length ∧ i = .int .i64 k ∧ Hid (Below w.heap.size w wr)) (fun i _ => l.length - (intOf i).toNat)
 case atStart => exact ⟨0, Nat.zero_le _, rfl, Below.refl _ _⟩
 case round =>
  obtain ⟨k, hk, rfl, HB⟩ := hrel
  by_cases hlt : k < l.length
  ·have i0 : (0 : Int) ≤ (k : Int) := by omega
   have i1 : (k : Int) < (l.length : Int) := by omega
   obtain ⟨x, hx⟩ : ∃ x, l[k]? = some x := ⟨_, List.getElem?_eq_getElem hlt⟩
   obtain ⟨g, ha, -⟩ := HL.out.1.at hx
   obtain ⟨g', ha', -⟩ := HL.out.2.at hx
   have HX : Hid (a = some ⟨g, 0, none⟩ ∧ a' = some ⟨g', 0, none⟩ ∧ l[k]? = some x) := ⟨ha, ha', hx⟩
   have HS : Hid (EqSOp w a a' l x g g' k wr) := eqSOp_of ha ha' hx ⟨HL.out.1.below HB.out, HL.out.2.below HB.out, HB.out⟩
   clear hx
   rw [ha, ha']
   clear ha ha'
   go_wp2_with fail
   refine tame_region (EqSOp w a a' l x g g' k) (by kernel_rfl) (eqSOp_of HX.out.1 HX.out.2.1 HX.out.2.2 ⟨HS.out.2.out.1.below (Below.refl _ _).drew, HS.out.2.out.2.1.below (Below.refl _ _).drew, HS.out.2.out.2.2.drew⟩) ?_
   iterate 8 (refine yl (v := ?_) ?_ ?_; rotate_left; (intro w0 hS0; obtain ⟨⟨⟨q0, q1, q2, q3⟩, ⟨r0, r1, r2, r3⟩⟩, hH⟩ := hS0; go_simp; try with_reducible rfl); simp only [pt, sb, s0, s1])
   refine cl (.bool true) 127 #[.agg #[.int .i64 x.1, .int .i64 x.2.1, .int .i64 x.2.2.1, .string x.2.2.2], .agg #[.int .i64 x.1, .int .i64 x.2.1, .int .i64 x.2.2.1, .string x.2.2.2]] ?_ ?_ ?_
   ·intro w0 hS0
    obtain ⟨⟨⟨q0, q1, q2, q3⟩, ⟨r0, r1, r2, r3⟩⟩, hH⟩ := hS0
    go_simp
    try with_reducible rfl
   ·intro w0 hS0
    refine (eqOp_same x.1 x.2.1 x.2.2.1 x.2.2.2 w0).mono ?_
    rintro e w2 ⟨rfl, hb2⟩
    exact ⟨rfl, eqSOp_of HX.out.1 HX.out.2.1 HX.out.2.2 ⟨hS0.2.out.1.below hb2, hS0.2.out.2.1.below hb2, hS0.2.out.2.2.trans (hb2.mono hS0.2.out.2.2.size)⟩⟩
   simp only [pt, sb, s0, s1]
   (refine yl (v := ?_) ?_ ?_; rotate_left; (intro w0 hS0; obtain ⟨⟨⟨q0, q1, q2, q3⟩, ⟨r0, r1, r2, r3⟩⟩, hH⟩ := hS0; go_simp; try with_reducible rfl); simp only [pt, sb, s0, s1])
   refine tame_done (by kernel_rfl) ?_ _
   intro w1 hS1
   have HZ : Hid (Below w.heap.size w w1) := hS1.2.out.2.2
   clear hS1
   go_wp2
   go_roundw
   case rel => exact ⟨k + 1, by omega, by go_num, HZ.out⟩
   case measure => simp [intOf]; omega
  ·have i1 : ¬ (k : Int) < (l.length : Int) := by omega
   go_wp2
   go_ret
   exact ⟨rfl, HB.out⟩
end Go.Proofs.YtkbcplnlehdjfaaGreat

/- The laws' functions on things of the kind Sem: measured, copied, held against each other. (Made by mklw.py.) -/
namespace Go.Proofs.YtkbcplnlehdjfaaGreat
open Go.RowKit
attribute [local go_sem ↓] Go.wp_at_zero Go.wp_at_succ
set_option maxHeartbeats 2000000 in
theorem szSSem_l (a : Option Addr) (l : List SemD) (cap : Nat) (left : Int) (w : World) (hl : l.length ≤ maxLen) (h0 : 0 ≤ left) (h1 : left ≤ 1048576) :
  Calls Tryz.prog 108 #[.slice a l.length cap, .int .i64 left] w fun e w' => SzEnds w left (l.length) (l.length ≤ 1048576) e w' := by
 have hl' := hl
 unfold maxLen at hl'
 by_cases hn : left - (l.length : Int) < 0
 ·go_enter Tryz.func108, Tryz.ntmps108
  go_wp2
  go_ret
  exact szEnds_no (Below.refl _ _) h0
 go_enter Tryz.func108, Tryz.ntmps108
 go_wp2
 go_ret
 exact ⟨left - (l.length : Int), rfl, by omega, by omega, fun _ => ⟨by omega, by omega⟩, Below.refl _ _⟩
set_option maxRecDepth 100000 in
set_option maxHeartbeats 4000000 in
theorem toSem_l (x : SemD) (w : World) : Calls Tryz.prog 67 #[.agg #[.int .i64 x.id, .int .i64 x.n, .int .i64 x.max]] w fun e w' => e = .returned (.agg #[.int .i64 x.id, .int .i64 x.n, .int .i64 x.max]) ∧ Below w.heap.size w w' := by
 go_enter Tryz.func67, Tryz.ntmps67
 go_wp2
 exact bodyPost_ret (v := .agg #[.int .i64 x.id, .int .i64 x.n, .int .i64 x.max]) (by simp [results, Tryz.results67, go_sem]) rfl ⟨rfl, by go_grown⟩
theorem infoSem : (Tryz.prog.info? 49).map (fun i => (i.zero, i.size, decide (i.bytes ≤ 1000))) = some (some (.agg #[.int .i64 0, .int .i64 0, .int .i64 0]), 3, true) := by kernel_rfl
theorem makeSem (n : Nat) (hn : n ≤ 1048576) (w : World) :
  (Instr.makeSlice 26 (.int .i64 (n : Int)) (.int .i64 (n : Int))).run Tryz.prog w = .ok (.slice (some ⟨w.heap.size, 0, none⟩) n n) (w.alloc (.cells (madeCells #[.int .i64 0, .int .i64 0, .int .i64 0] (n * 3)) 49)) := by
 obtain ⟨i, hi, e⟩ := Option.map_eq_some_iff.1 infoSem
 simp only [Prod.mk.injEq, decide_eq_true_eq] at e
 obtain ⟨e1, e2, e3⟩ := e
 have hby : n * i.bytes ≤ 1048576 * 1000 := Nat.mul_le_mul hn e3
 have := run_make (P := Tryz.prog) w 26 49 i _ Tryz.underlying26 hi e1 .i64 .i64 n n (by omega) (by omega) (by rw [Nat.mul_comm] at hby; first | omega | (rw [Nat.mul_comm]; omega)) (by omega)
 rw [this, e2]
 simp [Value.cells]
set_option maxRecDepth 100000 in
set_option maxHeartbeats 4000000 in
theorem toSSem_l (a : Option Addr) (l : List SemD) (cap : Nat) (w : World) (hl : l.length ≤ 1048576) (hc : semK.Came w a l) :
  Calls Tryz.prog 114 #[.slice a l.length cap] w fun e w' => e = .returned (.slice (some ⟨w.heap.size, 0, none⟩) l.length l.length) ∧ w'.ownsRow w.heap.size 49 3 (.slice (some ⟨w.heap.size, 0, none⟩) l.length l.length) l.length (semK.flat l) ∧ Below w.heap.size w w' := by
 have hmk := makeSem l.length hl
 have HC : Hid (semK.Came w a l) := hc
 have HF : Hid (Fill semK 49 w (w.alloc (.cells (madeCells #[.int .i64 0, .int .i64 0, .int .i64 0] (l.length * 3)) 49)) l.length []) := Fill.start (by rw [size_madeCells]; rfl)
 clear hc
 go_enter Tryz.func114, Tryz.ntmps114
 go_wp2_with fail
 go_loopw [4] (fun i wr => ∃ k : Nat, k ≤ l.length ∧ i = .int .i64 k ∧ Hid (Fill semK 49 w wr l.length (l.take k))) (fun i _ => l.length - (intOf i).toNat)
 case atStart => exact ⟨0, Nat.zero_le _, rfl, HF.out⟩
 case round =>
  clear hmk HF
  obtain ⟨k, hk, rfl, HR⟩ := hrel
  by_cases hlt : k < l.length
  ·have i0 : (0 : Int) ≤ (k : Int) := by omega
   have i1 : (k : Int) < (l.length : Int) := by omega
   obtain ⟨x, hx⟩ : ∃ x, l[k]? = some x := ⟨_, List.getElem?_eq_getElem hlt⟩
   obtain ⟨b, off, rfl, hat⟩ := (HC.out.below HR.out.bel).at hx
   have c0 : wr.cell? ⟨b, off + k * 3, none⟩ = some (.int .i64 x.id) := hat 0 _ rfl
   have c1 : wr.cell? ⟨b, off + k * 3 + 1, none⟩ = some (.int .i64 x.n) := hat 1 _ rfl
   have c2 : wr.cell? ⟨b, off + k * 3 + 2, none⟩ = some (.int .i64 x.max) := hat 2 _ rfl
   have HX : Hid (l[k]? = some x) := hx
   have hfl := HR.out.lt
   clear hx hat
   go_wp2_with fail
   refine (toSem_l x wr).mono ?_
   rintro e w1 ⟨rfl, hb1⟩
   have HR1 : Hid (Fill semK 49 w w1 l.length (l.take k)) := HR.out.below hb1
   obtain ⟨⟨u, hu⟩, hf⟩ := HR1.out.at
   have d0 := hu (k * 3) (by show k * 3 < l.length * 3; omega)
   have f0 := hf (k * 3)
   have d1 := hu (k * 3 + 1) (by show k * 3 + 1 < l.length * 3; omega)
   have f1 := hf (k * 3 + 1)
   have d2 := hu (k * 3 + 2) (by show k * 3 + 2 < l.length * 3; omega)
   have f2 := hf (k * 3 + 2)
   have HS : Hid (Fill semK 49 w (((w1.setCell ⟨w.heap.size, k * 3, none⟩ (.int .i64 x.id)).setCell ⟨w.heap.size, k * 3 + 1, none⟩ (.int .i64 x.n)).setCell ⟨w.heap.size, k * 3 + 2, none⟩ (.int .i64 x.max)) l.length (l.take (k + 1))) := by
    have h5 := HR1.out.more (by rw [List.length_take]; omega) x
    rw [← take_up HX.out, List.length_take, Nat.min_eq_left hk, show semK.vals x = [.int .i64 x.id, .int .i64 x.n, .int .i64 x.max] from rfl, show semK.n = 3 from rfl] at h5
    simp only [setAllW, Nat.add_assoc, Nat.reduceAdd] at h5
    exact h5
   clear hu hf hb1 HR HR1 c0 c1 c2
   go_wp2
   go_roundw
   case rel => exact ⟨k + 1, by omega, by go_num, HS.out⟩
   case measure => simp [intOf]; omega
  ·have i1 : ¬ (k : Int) < (l.length : Int) := by omega
   have ek : k = l.length := by omega
   subst ek
   go_wp2
   go_ret
   have h6 := HR.out.done (by rw [List.length_take]; omega) (by unfold maxLen; omega)
   rw [List.take_length] at h6
   exact ⟨rfl, h6, HR.out.bel⟩
set_option maxRecDepth 100000 in
set_option maxHeartbeats 4000000 in
theorem eqSem_l (x : SemD) (w : World) : Calls Tryz.prog 196 #[.agg #[.int .i64 x.id, .int .i64 x.n, .int .i64 x.max], .agg #[.int .i64 x.id, .int .i64 x.n, .int .i64 x.max]] w fun e w' => e = .returned (.bool true) ∧ Below w.heap.size w w' := by
 go_enter Tryz.func196, Tryz.ntmps196
 go_wp2
 go_ret
 exact ⟨ret_bool (by simp), by go_grown⟩
def EqSSem (w : World) (a a' : Option Addr) (l : List SemD) (x : SemD) (g g' k : Nat) (w' : World) : Prop := ((w'.cell? ⟨g, k * 3, none⟩ = some (.int .i64 x.id) ∧ w'.cell? ⟨g, k * 3 + 1, none⟩ = some (.int .i64 x.n) ∧ w'.cell? ⟨g, k * 3 + 2, none⟩ = some (.int .i64 x.max)) ∧ (w'.cell? ⟨g', k * 3, none⟩ = some (.int .i64 x.id) ∧ w'.cell? ⟨g', k * 3 + 1, none⟩ = some (.int .i64 x.n) ∧ w'.cell? ⟨g', k * 3 + 2, none⟩ = some (.int .i64 x.max))) ∧ Hid (semK.Lies w' a l ∧ semK.Lies w' a' l ∧ Below w.heap.size w w')
theorem eqSSem_of {w w' : World} {a a' : Option Addr} {l : List SemD} {x : SemD} {g g' k : Nat} (ha : a = some ⟨g, 0, none⟩) (ha' : a' = some ⟨g', 0, none⟩) (hx : l[k]? = some x) (h : semK.Lies w' a l ∧ semK.Lies w' a' l ∧ Below w.heap.size w w') : EqSSem w a a' l x g g' k w' := by
 obtain ⟨g1, e1, h1⟩ := h.1.at hx
 obtain ⟨g2, e2, h2⟩ := h.2.1.at hx
 rw [ha] at e1
 rw [ha'] at e2
 cases e1
 cases e2
 exact ⟨⟨⟨h1 0 _ rfl, h1 1 _ rfl, h1 2 _ rfl⟩, ⟨h2 0 _ rfl, h2 1 _ rfl, h2 2 _ rfl⟩⟩, h⟩
set_option maxRecDepth 100000 in
set_option maxHeartbeats 4000000 in
theorem eqSSem_l (a a' : Option Addr) (l : List SemD) (cap cap' : Nat) (w : World) (hl : l.length ≤ 1048576) (h : semK.Lies w a l) (h' : semK.Lies w a' l) :
  Calls Tryz.prog 120 #[.slice a l.length cap, .slice a' l.length cap'] w fun e w' => e = .returned (.bool true) ∧ Below w.heap.size w w' := by
 have HL : Hid (semK.Lies w a l ∧ semK.Lies w a' l) := ⟨h, h'⟩
 clear h h'
 go_enter Tryz.func120, Tryz.ntmps120
 go_wp2_with fail
 go_loopw [5] (fun i wr => ∃ k : Nat, k ≤ l.length ∧ i = .int .i64 k ∧ Hid (Below w.heap.size w wr)) (fun i _ => l.length - (intOf i).toNat)
 case atStart => exact ⟨0, Nat.zero_le _, rfl, Below.refl _ _⟩
 case round =>
  obtain ⟨k, hk, rfl, HB⟩ := hrel
  by_cases hlt : k < l.length
  ·have i0 : (0 : Int) ≤ (k : Int) := by omega
   have i1 : (k : Int) < (l.length : Int) := by omega
   obtain ⟨x, hx⟩ : ∃ x, l[k]? = some x := ⟨_, List.getElem?_eq_getElem hlt⟩
   obtain ⟨g, ha, -⟩ := HL.out.1.at hx
   obtain ⟨g', ha', -⟩ := HL.out.2.at hx
   have HX : Hid (a = some ⟨g, 0, none⟩ ∧ a' = some ⟨g', 0, none⟩ ∧ l[k]? = some x) := ⟨ha, ha', hx⟩
   have HS : Hid (EqSSem w a a' l x g g' k wr) := eqSSem_of ha ha' hx ⟨HL.out.1.below HB.out, HL.out.2.below HB.out, HB.out⟩
   clear hx
   rw [ha, ha']
   clear ha ha'
   go_wp2_with fail
   refine tame_region (EqSSem w a a' l x g g' k) (by kernel_rfl) (eqSSem_of HX.out.1 HX.out.2.1 HX.out.2.2 ⟨HS.out.2.out.1.below (Below.refl _ _).drew, HS.out.2.out.2.1.below (Below.refl _ _).drew, HS.out.2.out.2.2.drew⟩) ?_
   iterate 8 (refine yl (v := ?_) ?_ ?_; rotate_left; (intro w0 hS0; obtain ⟨⟨⟨q0, q1, q2⟩, ⟨r0, r1, r2⟩⟩, hH⟩ := hS0; go_simp; try with_reducible rfl); simp only [pt, sb, s0, s1])
   refine cl (.bool true) 196 #[.agg #[.int .i64 x.id, .int .i64 x.n, .int .i64 x.max], .agg #[.int .i64 x.id, .int .i64 x.n, .int .i64 x.max]] ?_ ?_ ?_
   ·intro w0 hS0
    obtain ⟨⟨⟨q0, q1, q2⟩, ⟨r0, r1, r2⟩⟩, hH⟩ := hS0
    go_simp
    try with_reducible rfl
   ·intro w0 hS0
    refine (eqSem_l x w0).mono ?_
    rintro e w2 ⟨rfl, hb2⟩
    exact ⟨rfl, eqSSem_of HX.out.1 HX.out.2.1 HX.out.2.2 ⟨hS0.2.out.1.below hb2, hS0.2.out.2.1.below hb2, hS0.2.out.2.2.trans (hb2.mono hS0.2.out.2.2.size)⟩⟩
   simp only [pt, sb, s0, s1]
   (refine yl (v := ?_) ?_ ?_; rotate_left; (intro w0 hS0; obtain ⟨⟨⟨q0, q1, q2⟩, ⟨r0, r1, r2⟩⟩, hH⟩ := hS0; go_simp; try with_reducible rfl); simp only [pt, sb, s0, s1])
   refine tame_done (by kernel_rfl) ?_ _
   intro w1 hS1
   have HZ : Hid (Below w.heap.size w w1) := hS1.2.out.2.2
   clear hS1
   go_wp2
   go_roundw
   case rel => exact ⟨k + 1, by omega, by go_num, HZ.out⟩
   case measure => simp [intOf]; omega
  ·have i1 : ¬ (k : Int) < (l.length : Int) := by omega
   go_wp2
   go_ret
   exact ⟨rfl, HB.out⟩
end Go.Proofs.YtkbcplnlehdjfaaGreat

/- A partition in memory of its own. (Made by mklwp.py.) -/
namespace Go.Proofs.YtkbcplnlehdjfaaGreat
open Go.RowKit
def blk (a : Option Addr) : List Nat := (a.map (·.block)).toList
theorem mem_blk {a : Option Addr} {g : Nat} : g ∈ blk a ↔ a.map (·.block) = some g := by
 unfold blk
 cases a <;> simp [eq_comm]
/-- The blocks of a partition's lists. -/
def PartD.blocks (p : PartD) : List Nat := blk p.procA ++ (p.procs.filterMap procN.kid ++ (blk p.semA ++ (blk p.eventA ++ (blk p.boardA ++ (blk p.bufferA ++ (p.buffers.filterMap bufferN.kid ++ (blk p.portA ++ (p.ports.filterMap portN.kid))))))))
/-- All its lists are its own, no two of them in one block. -/
structure PartOwn (w : World) (base : Nat) (p : PartD) : Prop where
 procs : w.ownsRow base 43 12 (.slice p.procA p.procs.length p.procC) p.procs.length (procK.flat p.procs)
 sems : w.ownsRow base 49 3 (.slice p.semA p.sems.length p.semC) p.sems.length (semK.flat p.sems)
 events : w.ownsRow base 138 2 (.slice p.eventA p.events.length p.eventC) p.events.length (eventK.flat p.events)
 boards : w.ownsRow base 141 3 (.slice p.boardA p.boards.length p.boardC) p.boards.length (boardK.flat p.boards)
 buffers : w.ownsRow base 144 3 (.slice p.bufferA p.buffers.length p.bufferC) p.buffers.length (bufferK.flat p.buffers)
 ports : w.ownsRow base 61 5 (.slice p.portA p.ports.length p.portC) p.ports.length (portK.flat p.ports)
 mineP : ∀ x ∈ p.procs, procN.Mine w base x
 mineF : ∀ x ∈ p.buffers, bufferN.Mine w base x
 mineQ : ∀ x ∈ p.ports, portN.Mine w base x
 nodup : p.blocks.Nodup
theorem own_same {w w' : World} {base n size cap : Nat} {e : TypeId} {a : Option Addr} {xs : List Value} (h : w.ownsRow base e size (.slice a n cap) n xs) (hs : ∀ g, g ∈ blk a → w'.heap[g]? = w.heap[g]?) : w'.ownsRow base e size (.slice a n cap) n xs := by
 obtain ⟨hl, h2⟩ := h
 refine ⟨hl, ?_⟩
 rcases h2 with h2 | ⟨g, c, cur, hv, h1, hg, r⟩
 ·exact .inl h2
 ·simp only [Value.slice.injEq] at hv
  exact .inr ⟨g, c, cur, by rw [hv.1, hv.2.2], h1, (hs g (by rw [mem_blk, hv.1]; rfl)).trans hg, r⟩
theorem own_lt {w : World} {base n size cap : Nat} {e : TypeId} {a : Option Addr} {xs : List Value} (h : w.ownsRow base e size (.slice a n cap) n xs) {g : Nat} (hg : g ∈ blk a) : base ≤ g ∧ g < w.heap.size := by
 rcases h.2 with ⟨hv, -⟩ | ⟨g', c, cur, hv, h1, hg', r⟩
 ·simp only [Value.slice.injEq] at hv
  rw [hv.1] at hg
  simp [blk] at hg
 ·simp only [Value.slice.injEq] at hv
  rw [mem_blk, hv.1] at hg
  simp only [Option.map_some, Option.some.injEq] at hg
  subst hg
  exact ⟨h1, (Array.getElem?_eq_some_iff.1 hg').1⟩
theorem mem_kids {α : Type} {N : Nest α} {l : List α} {g : Nat} : g ∈ l.filterMap N.kid ↔ ∃ x ∈ l, N.kid x = some g := List.mem_filterMap
theorem PartOwn.lt {w : World} {base : Nat} {p : PartD} (h : PartOwn w base p) : ∀ g ∈ p.blocks, base ≤ g ∧ g < w.heap.size := fun g hg => by
 simp only [PartD.blocks, List.mem_append] at hg
 rcases hg with hg | hg | hg | hg | hg | hg | hg | hg | hg
 ·exact own_lt h.procs hg
 ·obtain ⟨x, hx, hk⟩ := mem_kids.1 hg
  exact (h.mineP x hx).lt hk
 ·exact own_lt h.sems hg
 ·exact own_lt h.events hg
 ·exact own_lt h.boards hg
 ·exact own_lt h.buffers hg
 ·obtain ⟨x, hx, hk⟩ := mem_kids.1 hg
  exact (h.mineF x hx).lt hk
 ·exact own_lt h.ports hg
 ·obtain ⟨x, hx, hk⟩ := mem_kids.1 hg
  exact (h.mineQ x hx).lt hk
theorem PartOwn.same {w w' : World} {base : Nat} {p : PartD} (h : PartOwn w base p) (hs : ∀ g ∈ p.blocks, w'.heap[g]? = w.heap[g]?) : PartOwn w' base p := by
 have hm : ∀ g, (g ∈ blk p.procA ∨ g ∈ p.procs.filterMap procN.kid ∨ g ∈ blk p.semA ∨ g ∈ blk p.eventA ∨ g ∈ blk p.boardA ∨ g ∈ blk p.bufferA ∨ g ∈ p.buffers.filterMap bufferN.kid ∨ g ∈ blk p.portA ∨ g ∈ p.ports.filterMap portN.kid) → g ∈ p.blocks := fun g hg => by
  simp only [PartD.blocks, List.mem_append]
  exact hg
 exact ⟨own_same h.procs fun g hg => hs g (hm g (.inl hg)), own_same h.sems fun g hg => hs g (hm g (.inr (.inr (.inl hg)))), own_same h.events fun g hg => hs g (hm g (.inr (.inr (.inr (.inl hg))))), own_same h.boards fun g hg => hs g (hm g (.inr (.inr (.inr (.inr (.inl hg)))))), own_same h.buffers fun g hg => hs g (hm g (.inr (.inr (.inr (.inr (.inr (.inl hg))))))), own_same h.ports fun g hg => hs g (hm g (.inr (.inr (.inr (.inr (.inr (.inr (.inr (.inl hg))))))))), fun x hx => (h.mineP x hx).same fun g hk => hs g (hm g (.inr (.inl ((mem_kids.2 ⟨x, hx, hk⟩))))), fun x hx => (h.mineF x hx).same fun g hk => hs g (hm g (.inr (.inr (.inr (.inr (.inr (.inr (.inl ((mem_kids.2 ⟨x, hx, hk⟩)))))))))), fun x hx => (h.mineQ x hx).same fun g hk => hs g (hm g (.inr (.inr (.inr (.inr (.inr (.inr (.inr (.inr ((mem_kids.2 ⟨x, hx, hk⟩))))))))))), h.nodup⟩
theorem PartOwn.below {w w' : World} {base : Nat} {p : PartD} (h : PartOwn w base p) (hb : Below w.heap.size w w') : PartOwn w' base p := h.same fun g hg => hb.block g (h.lt g hg).2
theorem PartOwn.lower {w : World} {base base' : Nat} {p : PartD} (h : PartOwn w base p) (hb : base' ≤ base) : PartOwn w base' p :=
 ⟨own_low h.procs hb, own_low h.sems hb, own_low h.events hb, own_low h.boards hb, own_low h.buffers hb, own_low h.ports hb, fun x hx => (h.mineP x hx).low hb, fun x hx => (h.mineF x hx).low hb, fun x hx => (h.mineQ x hx).low hb, h.nodup⟩
theorem PartOwn.at {w : World} {base : Nat} {p : PartD} (h : PartOwn w base p) : PartD.At w p := by
 refine ⟨⟨own_row h.procs, fun x hx r hr => ?_⟩, ⟨own_row h.sems, fun x hx r hr => ?_⟩, ⟨own_row h.events, fun x hx r hr => ?_⟩, ⟨own_row h.boards, fun x hx r hr => ?_⟩, ⟨own_row h.buffers, fun x hx r hr => ?_⟩, ⟨own_row h.ports, fun x hx r hr => ?_⟩⟩
 ·simp only [procK, List.mem_cons, List.not_mem_nil, or_false] at hr
  subst hr
  exact (h.mineP x hx).row
 ·simp [semK] at hr
 ·simp [eventK] at hr
 ·simp [boardK] at hr
 ·simp only [bufferK, List.mem_cons, List.not_mem_nil, or_false] at hr
  subst hr
  exact (h.mineF x hx).row
 ·simp only [portK, List.mem_cons, List.not_mem_nil, or_false] at hr
  subst hr
  exact (h.mineQ x hx).row
/-- Not too great for a machine. -/
structure PartP.Small (p : PartP) : Prop where
 nProc : p.procs.length ≤ 1048576
 nSem : p.sems.length ≤ 1048576
 nEvent : p.events.length ≤ 1048576
 nBoard : p.boards.length ≤ 1048576
 nBuffer : p.buffers.length ≤ 1048576
 nPort : p.ports.length ≤ 1048576
 procs : ∀ x ∈ p.procs, (x.prog.length ≤ 1048576 ∧ (∀ o ∈ x.prog, o.2.2.2.size ≤ 1048576) ∧ x.held.size ≤ 1048576 ∧ x.got.size ≤ 1048576) ∧ (Lit.int .i64 x.id).wf = true ∧ (Lit.int .i64 x.on).wf = true ∧ (Lit.int .i64 x.since).wf = true
 sems : ∀ x ∈ p.sems, (Lit.int .i64 x.id).wf = true
 events : ∀ x ∈ p.events, (Lit.int .i64 x.id).wf = true
 boards : ∀ x ∈ p.boards, (Lit.int .i64 x.id).wf = true ∧ x.text.size ≤ 1048576
 buffers : ∀ x ∈ p.buffers, (Lit.int .i64 x.id).wf = true ∧ x.items.length ≤ 1048576 ∧ ∀ s ∈ x.items, s.size ≤ 1048576
 ports : ∀ x ∈ p.ports, (Lit.int .i64 x.id).wf = true ∧ x.items.length ≤ 1048576 ∧ ∀ s ∈ x.items, s.size ≤ 1048576
section
variable {p : PartD}
theorem small_short (h : p.pure.Small) : p.Short := by
 have h1 := h.nProc
 have h2 := h.nBuffer
 have h3 := h.nPort
 simp only [PartD.pure, List.length_map] at h1 h2 h3
 exact ⟨h1, h.nSem, h.nEvent, h.nBoard, h2, h3⟩
theorem small_proc (h : p.pure.Small) {x : ProcD} (hx : x ∈ p.procs) : x.Short ∧ x.Wf := by
 have := h.procs x.toProcP (List.mem_map.2 ⟨x, hx, rfl⟩)
 exact ⟨⟨this.1.1, this.1.2.1, this.1.2.2.1, this.1.2.2.2⟩, ⟨this.2.1, this.2.2.1, this.2.2.2⟩⟩
theorem small_buffer (h : p.pure.Small) {x : BufferD} (hx : x ∈ p.buffers) : (Lit.int .i64 x.id).wf = true ∧ x.items.length ≤ 1048576 ∧ ∀ s ∈ x.items, s.size ≤ 1048576 := h.buffers x.toBufferP (List.mem_map.2 ⟨x, hx, rfl⟩)
theorem small_port (h : p.pure.Small) {x : PortD} (hx : x ∈ p.ports) : (Lit.int .i64 x.id).wf = true ∧ x.items.length ≤ 1048576 ∧ ∀ s ∈ x.items, s.size ≤ 1048576 := h.ports x.toPortP (List.mem_map.2 ⟨x, hx, rfl⟩)
theorem small_fit (h : p.pure.Small) : p.Fit := ⟨small_short h, fun b hb => (h.boards b hb).2, fun _ hb => (small_buffer h hb).2, fun _ hb => (small_port h hb).2⟩
theorem small_good (h : p.pure.Small) {w : World} {base : Nat} (ho : PartOwn w base p) : p.Good w :=
 ⟨ho.at, small_short h, fun _ hx => small_proc h hx, h.sems, h.events, h.boards, fun _ hx => small_buffer h hx, fun _ hx => small_port h hx, fun x hx _ hk => ((ho.mineP x hx).lt hk).2, fun x hx _ hk => ((ho.mineF x hx).lt hk).2, fun x hx _ hk => ((ho.mineQ x hx).lt hk).2⟩
end
/-- What holds in every world that keeps what was made from lo on. -/
def Keeps (lo : Nat) (F : World → Prop) (W : World) : Prop := ∀ W', (∀ g, lo ≤ g → g < W.heap.size → W'.heap[g]? = W.heap[g]?) → W.heap.size ≤ W'.heap.size → F W'
theorem Keeps.here {lo : Nat} {F : World → Prop} {W : World} (h : Keeps lo F W) : F W := h W (fun _ _ _ => rfl) (Nat.le_refl _)
theorem Keeps.step {lo : Nat} {F : World → Prop} {W W1 : World} (h : Keeps lo F W) (hs : ∀ g, lo ≤ g → g < W.heap.size → W1.heap[g]? = W.heap[g]?) (hz : W.heap.size ≤ W1.heap.size) : Keeps lo F W1 := fun W' h' hz' =>
 h W' (fun g h1 h2 => (h' g h1 (by omega)).trans (hs g h1 h2)) (by omega)
theorem keep_call {lo i : Nat} {F : World → Prop} {W w1 : World} {v : Value} (h : Keeps (lo + 1) F W) (hb : Below W.heap.size W w1) : Keeps (lo + 1) F (w1.setCell ⟨lo, i, none⟩ v) :=
 h.step (fun g h1 h2 => (Below.heap_setCell w1 _ v g (by show ¬ g = lo; omega)).trans (hb.block g h2)) (by have := hb.size; simp [World.setCell]; omega)
end Go.Proofs.YtkbcplnlehdjfaaGreat
