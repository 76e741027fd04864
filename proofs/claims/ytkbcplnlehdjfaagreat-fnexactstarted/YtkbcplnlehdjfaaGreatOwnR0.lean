/- What the proof leans on, part 0: Base, Plain, OpSpec, OpDt, Mem, MapIs, ProgRowB, OpsAt, PList, PD. -/
import Derived.Test.YtkbcplnlehdjfaaGreatProg
import Derived.WalkKit
import Derived.Handy
import Derived.Deep.OwnRows
import Derived.Deep.QuietTactic
import Derived.BigQuiet
import Derived.Maps.OwnSet
import Derived.Maps.RangeWalk

namespace Go.Proofs.YtkbcplnlehdjfaaGreat
open Go.RowKit
def inB (n lo hi : Int) : Bool := decide (lo ≤ n) && decide (n ≤ hi)
def szOf (left : Int) (len : Nat) : Int := if left < len then -1 else left - len
theorem szOf_neg {left : Int} {len : Nat} (h : left < len) : szOf left len = -1 := if_pos h
theorem szOf_pos {left : Int} {len : Nat} (h : (len : Int) ≤ left) : szOf left len = left - len := if_neg (by omega)
theorem inB_true {n lo hi : Int} (h1 : lo ≤ n) (h2 : n ≤ hi) : inB n lo hi = true := by simp [inB, h1, h2]
theorem inB_low {n lo hi : Int} (h : n < lo) : inB n lo hi = false := by simp [inB]; omega
theorem inB_high {n lo hi : Int} (h : hi < n) : inB n lo hi = false := by simp [inB]; omega
theorem ret_bool {a b : Bool} (h : a = b) : Ending.returned (.bool a) = .returned (.bool b) := by rw [h]
theorem ret_int {k : IntKind} {a b : Int} (h : a = b) : Ending.returned (.int k a) = .returned (.int k b) := by rw [h]
/-- The windows of a frame lie in block g: three numbers a window. -/
def WinsAt (w : World) (g len : Nat) (Z : Nat → Int) : Prop := g < w.heap.size ∧ ∀ j, j < len * 3 → w.cell? ⟨g, j, none⟩ = some (.int .i64 (Z j))
theorem WinsAt.lt {w : World} {g len : Nat} {Z : Nat → Int} (h : WinsAt w g len Z) : g < w.heap.size := h.1
theorem WinsAt.cell {w : World} {g len : Nat} {Z : Nat → Int} (h : WinsAt w g len Z) {i : Nat} (hi : i < len * 3) : w.cell? ⟨g, i, none⟩ = some (.int .i64 (Z i)) := h.2 i hi
theorem WinsAt.of_block {w w' : World} {g len : Nat} {Z : Nat → Int} (h : WinsAt w g len Z) (e : w'.heap[g]? = w.heap[g]?) : WinsAt w' g len Z := by
 refine ⟨?_, fun j hj => (World.cell?_of_block (w := w) e).trans (h.2 j hj)⟩
 have h1 := h.1
 rw [Array.getElem?_eq_getElem h1] at e
 exact (Array.getElem?_eq_some_iff.1 e).1
theorem WinsAt.alloc {w : World} {g len : Nat} {Z : Nat → Int} (h : WinsAt w g len Z) (o : Obj) : WinsAt (w.alloc o) g len Z := h.of_block (Below.heap_alloc w o g h.1)
set_option maxHeartbeats 400000 in
theorem l1In_any (n lo hi : Int) (w : World) :
  Calls Tryz.prog 78 #[.int .i64 n, .int .i64 lo, .int .i64 hi] w fun e w' => e = .returned (.bool (inB n lo hi)) ∧ w' = w := by
 by_cases h1 : lo ≤ n
 ·by_cases h2 : n ≤ hi
  ·go_enter Tryz.func78, Tryz.ntmps78
   go_wp2
   go_ret
   exact ⟨ret_bool (inB_true h1 h2).symm, rfl⟩
  ·go_enter Tryz.func78, Tryz.ntmps78
   go_wp2
   go_ret
   exact ⟨ret_bool (inB_high (by omega)).symm, rfl⟩
 ·go_enter Tryz.func78, Tryz.ntmps78
  go_wp2
  go_ret
  exact ⟨ret_bool (inB_low (by omega)).symm, rfl⟩
end Go.Proofs.YtkbcplnlehdjfaaGreat

/- Plain texts: at most twenty bytes 32 .. 126, but no semicolon: the specification's test and the program's. -/
namespace Go.Proofs.YtkbcplnlehdjfaaGreat
open Go.RowKit
def byteB (c : UInt8) : Bool := decide (32 ≤ (c.toNat : Int)) && decide ((c.toNat : Int) ≤ 126) && !decide ((c.toNat : Int) = 59)
def plainB (s : ByteArray) : Bool := decide (s.size ≤ 20) && s.data.toList.all byteB
theorem take_snoc (s : ByteArray) (k : Nat) (h : k < s.size) : s.data.toList.take (k + 1) = s.data.toList.take k ++ [s[k]] := by
 rw [List.take_succ_eq_append_getElem (by simpa using h)]; rfl
theorem all_snoc {s : ByteArray} {k : Nat} (h : k < s.size) (ha : (s.data.toList.take k).all byteB = true) (hb : byteB s[k] = true) : (s.data.toList.take (k + 1)).all byteB = true := by
 rw [take_snoc s k h, List.all_append, ha]; simp [hb]
theorem not_all {s : ByteArray} {k : Nat} (h : k < s.size) (hb : byteB s[k] = false) : s.data.toList.all byteB = false := by
 rw [List.all_eq_false]
 exact ⟨s[k], by rw [show s[k] = s.data.toList[k]'(by simpa using h) from rfl]; exact List.getElem_mem _, by simp [hb]⟩
theorem take_all (s : ByteArray) {k : Nat} (h : s.size ≤ k) : s.data.toList.take k = s.data.toList := List.take_of_length_le (by simpa using h)
theorem byteB_low {c : UInt8} (h : (c.toNat : Int) < 32) : byteB c = false := by simp [byteB]; omega
theorem byteB_high {c : UInt8} (h : 126 < (c.toNat : Int)) : byteB c = false := by simp [byteB]; omega
theorem byteB_semi {c : UInt8} (h : (c.toNat : Int) = 59) : byteB c = false := by simp [byteB]; omega
theorem byteB_yes {c : UInt8} (h1 : ¬ (c.toNat : Int) < 32) (h2 : ¬ 126 < (c.toNat : Int)) (h3 : ¬ (c.toNat : Int) = 59) : byteB c = true := by simp [byteB]; omega
set_option maxHeartbeats 1000000 in
theorem l2Plain_any (s : ByteArray) (w : World) (hs : s.size ≤ 1048576) :
  Calls Tryz.prog 181 #[.string s] w fun e w' => e = .returned (.bool (plainB s)) ∧ w' = w := by
 go_enter Tryz.func181, Tryz.ntmps181
 go_wp2
 go_loop [3] (fun i => ∃ k : Nat, k ≤ s.size ∧ i = .int .i64 k ∧ (s.data.toList.take k).all byteB = true) (fun i => s.size - (intOf i).toNat)
 case atStart => exact ⟨0, Nat.zero_le _, rfl, rfl⟩
 case round =>
  obtain ⟨k, hk, rfl, hall⟩ := hrel
  have HA : Hid ((s.data.toList.take k).all byteB = true) := hall
  clear hall
  by_cases hlt : k < s.size
  ·have HY : Hid (byteB s[k] = true → (s.data.toList.take (k + 1)).all byteB = true) := fun h => all_snoc hlt HA.out h
   have HX : Hid (byteB s[k] = false → plainB s = false) := fun h => by simp [plainB, not_all hlt h]
   by_cases h1 : (s[k].toNat : Int) < 32
   ·go_wp2
    go_ret
    exact ⟨ret_bool (HX.out (byteB_low h1)).symm, rfl⟩
   by_cases h2 : 126 < (s[k].toNat : Int)
   ·go_wp2
    go_ret
    exact ⟨ret_bool (HX.out (byteB_high h2)).symm, rfl⟩
   by_cases h3 : (s[k].toNat : Int) = 59
   ·have h3' : ((s[k].toNat : Int) == 59) = true := by simp [h3]
    go_wp2
    go_ret
    exact ⟨ret_bool (HX.out (byteB_semi h3)).symm, rfl⟩
   have h3' : ((s[k].toNat : Int) == 59) = false := by simp [h3]
   have HB : Hid (byteB s[k] = true) := byteB_yes h1 h2 h3
   go_wp2
   go_round
   case rel => exact ⟨k + 1, by omega, by go_num, HY.out HB.out⟩
   case measure => simp [intOf]; omega
  ·have HA' : Hid (s.data.toList.all byteB = true) := by have := HA.out; rwa [take_all s (by omega)] at this
   go_wp2
   go_ret
   exact ⟨ret_bool (by rw [Bool.eq_iff_iff]; simp [plainB, HA'.out]; omega), rfl⟩
set_option maxHeartbeats 1000000 in
theorem isPlain_any (s : ByteArray) (w : World) (hs : s.size ≤ 1048576) :
  Calls Tryz.prog 285 #[.string s] w fun e w' => e = .returned (.bool (plainB s)) ∧ w' = w := by
 by_cases hl : 20 < s.size
 ·have hl' : (20 : Int) < (s.size : Int) := by omega
  go_enter Tryz.func285, Tryz.ntmps285
  go_wp2
  go_ret
  exact ⟨ret_bool (by simp [plainB]; intro h; omega), rfl⟩
 ·have hl' : ¬ (20 : Int) < (s.size : Int) := by omega
  go_enter Tryz.func285, Tryz.ntmps285
  go_wp2
  go_loop [9] (fun i => ∃ k : Nat, k ≤ s.size ∧ i = .int .i64 k ∧ (s.data.toList.take k).all byteB = true) (fun i => s.size - (intOf i).toNat)
  case atStart => exact ⟨0, Nat.zero_le _, rfl, rfl⟩
  case round =>
   obtain ⟨k, hk, rfl, hall⟩ := hrel
   have HA : Hid ((s.data.toList.take k).all byteB = true) := hall
   clear hall
   by_cases hlt : k < s.size
   ·have HY : Hid (byteB s[k] = true → (s.data.toList.take (k + 1)).all byteB = true) := fun h => all_snoc hlt HA.out h
    have HX : Hid (byteB s[k] = false → plainB s = false) := fun h => by simp [plainB, not_all hlt h]
    by_cases h1 : (s[k].toNat : Int) < 32
    ·go_wp2
     go_ret
     exact ⟨ret_bool (HX.out (byteB_low h1)).symm, rfl⟩
    by_cases h2 : 126 < (s[k].toNat : Int)
    ·go_wp2
     go_ret
     exact ⟨ret_bool (HX.out (byteB_high h2)).symm, rfl⟩
    by_cases h3 : (s[k].toNat : Int) = 59
    ·have h3' : ((s[k].toNat : Int) == 59) = true := by simp [h3]
     go_wp2
     go_ret
     exact ⟨ret_bool (HX.out (byteB_semi h3)).symm, rfl⟩
    have h3' : ((s[k].toNat : Int) == 59) = false := by simp [h3]
    have HB : Hid (byteB s[k] = true) := byteB_yes h1 h2 h3
    go_wp2
    go_round
    case rel => exact ⟨k + 1, by omega, by go_num, HY.out HB.out⟩
    case measure => simp [intOf]; omega
   ·have HA' : Hid (s.data.toList.all byteB = true) := by have := HA.out; rwa [take_all s (by omega)] at this
    have hd : decide (s.size ≤ 20) = true := by simp; omega
    go_wp2
    go_ret
    exact ⟨ret_bool (by simp only [plainB, HA'.out, hd]; rfl), rfl⟩
end Go.Proofs.YtkbcplnlehdjfaaGreat

/- What OpOk answers, the specification's: by the kind. -/
namespace Go.Proofs.YtkbcplnlehdjfaaGreat
open Go.RowKit
def isNum (k : Int) : Prop := k = 1 ∨ k = 2 ∨ k = 4 ∨ k = 5 ∨ k = 6 ∨ k = 11 ∨ k = 14 ∨ k = 15 ∨ k = 16
def isWait (k : Int) : Prop := k = 3 ∨ k = 7 ∨ k = 9 ∨ k = 12
def isText (k : Int) : Prop := k = 10 ∨ k = 13
def emptyB (s : ByteArray) : Bool := s.toList.isEmpty
/-- Whether an op is right, by its kind. -/
def opB (k n m : Int) (s : ByteArray) : Bool :=
 if k = 1 ∨ k = 2 ∨ k = 4 ∨ k = 5 ∨ k = 6 ∨ k = 11 ∨ k = 14 ∨ k = 15 ∨ k = 16 then inB n 1 1000 && decide (m = 0) && emptyB s
 else if k = 3 ∨ k = 7 ∨ k = 9 ∨ k = 12 then inB n 1 1000 && inB m (-1) 1000 && emptyB s
 else if k = 8 then inB n 1 1000 && inB m (-1) 1000 && plainB s
 else if k = 10 ∨ k = 13 then inB n 1 1000 && decide (m = 0) && plainB s
 else if k = 17 then decide (n = 0) && decide (m = 0) && emptyB s
 else false
set_option maxHeartbeats 4000000 in
theorem specOp_num (k n m : Int) (s : ByteArray) (w : World) (hk : isNum k) :
  Calls Tryz.prog 213 #[.agg #[.int .i64 k, .int .i64 n, .int .i64 m, .string s]] w fun e w' => e = .returned (.bool (opB k n m s)) ∧ Below w.heap.size w w' := by
 rcases hk with rfl | rfl | rfl | rfl | rfl | rfl | rfl | rfl | rfl
 all_goals
  simp only [opB, Int.reduceEq, or_true, or_false, or_self, if_true, if_false]
  go_enter Tryz.func213, Tryz.ntmps213
  go_wp2_with (go_at_call 78; refine (l1In_any _ _ _ _).mono ?_; rintro e w' ⟨rfl, rfl⟩)
  all_goals go_ret
  all_goals exact ⟨ret_bool (by simp_all [emptyB]), by go_grown⟩
set_option maxHeartbeats 4000000 in
theorem specOp_wait (k n m : Int) (s : ByteArray) (w : World) (hk : isWait k) :
  Calls Tryz.prog 213 #[.agg #[.int .i64 k, .int .i64 n, .int .i64 m, .string s]] w fun e w' => e = .returned (.bool (opB k n m s)) ∧ Below w.heap.size w w' := by
 rcases hk with rfl | rfl | rfl | rfl
 all_goals
  simp only [opB, Int.reduceEq, or_true, or_false, or_self, if_true, if_false]
  go_enter Tryz.func213, Tryz.ntmps213
  go_wp2_with (go_at_call 78; refine (l1In_any _ _ _ _).mono ?_; rintro e w' ⟨rfl, rfl⟩)
  all_goals go_ret
  all_goals exact ⟨ret_bool (by simp_all [emptyB]), by go_grown⟩
set_option maxHeartbeats 4000000 in
theorem specOp_text (k n m : Int) (s : ByteArray) (w : World) (hs : s.size ≤ 1048576) (hk : isText k) :
  Calls Tryz.prog 213 #[.agg #[.int .i64 k, .int .i64 n, .int .i64 m, .string s]] w fun e w' => e = .returned (.bool (opB k n m s)) ∧ Below w.heap.size w w' := by
 rcases hk with rfl | rfl
 all_goals
  simp only [opB, Int.reduceEq, or_true, or_false, or_self, if_true, if_false]
  go_enter Tryz.func213, Tryz.ntmps213
  go_wp2_with (first | (go_at_call 78; refine (l1In_any _ _ _ _).mono ?_; rintro e w' ⟨rfl, rfl⟩) | (go_at_call 181; refine (l2Plain_any _ _ hs).mono ?_; rintro e w' ⟨rfl, rfl⟩))
  all_goals go_ret
  all_goals exact ⟨ret_bool (by simp_all), by go_grown⟩
set_option maxHeartbeats 4000000 in
theorem specOp_rest (k n m : Int) (s : ByteArray) (w : World) (hs : s.size ≤ 1048576) (hk : k = 8 ∨ k = 17) :
  Calls Tryz.prog 213 #[.agg #[.int .i64 k, .int .i64 n, .int .i64 m, .string s]] w fun e w' => e = .returned (.bool (opB k n m s)) ∧ Below w.heap.size w w' := by
 rcases hk with rfl | rfl
 all_goals
  simp only [opB, Int.reduceEq, or_self, if_true, if_false]
  go_enter Tryz.func213, Tryz.ntmps213
  go_wp2_with (first | (go_at_call 78; refine (l1In_any _ _ _ _).mono ?_; rintro e w' ⟨rfl, rfl⟩) | (go_at_call 181; refine (l2Plain_any _ _ hs).mono ?_; rintro e w' ⟨rfl, rfl⟩))
  all_goals go_ret
  all_goals exact ⟨ret_bool (by simp_all [emptyB]), by go_grown⟩
theorem opB_none {k n m : Int} {s : ByteArray} (h : ¬ (1 ≤ k ∧ k ≤ 17)) : opB k n m s = false := by
 unfold opB
 rw [if_neg (by omega), if_neg (by omega), if_neg (by omega), if_neg (by omega), if_neg (by omega)]
set_option maxHeartbeats 4000000 in
theorem specOp_none (k n m : Int) (s : ByteArray) (w : World) (hk : ¬ (1 ≤ k ∧ k ≤ 17)) :
  Calls Tryz.prog 213 #[.agg #[.int .i64 k, .int .i64 n, .int .i64 m, .string s]] w fun e w' => e = .returned (.bool (opB k n m s)) ∧ Below w.heap.size w w' := by
 rw [opB_none hk]
 have e1 : (k == 1) = false := by simp; omega
 have e2 : (k == 2) = false := by simp; omega
 have e3 : (k == 3) = false := by simp; omega
 have e4 : (k == 4) = false := by simp; omega
 have e5 : (k == 5) = false := by simp; omega
 have e6 : (k == 6) = false := by simp; omega
 have e7 : (k == 7) = false := by simp; omega
 have e8 : (k == 8) = false := by simp; omega
 have e9 : (k == 9) = false := by simp; omega
 have e10 : (k == 10) = false := by simp; omega
 have e11 : (k == 11) = false := by simp; omega
 have e12 : (k == 12) = false := by simp; omega
 have e13 : (k == 13) = false := by simp; omega
 have e14 : (k == 14) = false := by simp; omega
 have e15 : (k == 15) = false := by simp; omega
 have e16 : (k == 16) = false := by simp; omega
 have e17 : (k == 17) = false := by simp; omega
 go_enter Tryz.func213, Tryz.ntmps213
 go_wp2_with (go_at_call 78; refine (l1In_any _ _ _ _).mono ?_; rintro e w' ⟨rfl, rfl⟩)
 go_ret
 exact ⟨rfl, by go_grown⟩
theorem specOpOk_any (k n m : Int) (s : ByteArray) (w : World) (hs : s.size ≤ 1048576) :
  Calls Tryz.prog 213 #[.agg #[.int .i64 k, .int .i64 n, .int .i64 m, .string s]] w fun e w' => e = .returned (.bool (opB k n m s)) ∧ Below w.heap.size w w' := by
 by_cases h0 : 1 ≤ k ∧ k ≤ 17
 ·by_cases h1 : isNum k
  ·exact specOp_num k n m s w h1
  by_cases h2 : isWait k
  ·exact specOp_wait k n m s w h2
  by_cases h3 : isText k
  ·exact specOp_text k n m s w hs h3
  exact specOp_rest k n m s w hs (by unfold isNum at h1; unfold isWait at h2; unfold isText at h3; omega)
 ·exact specOp_none k n m s w h0
end Go.Proofs.YtkbcplnlehdjfaaGreat

/- An op as data. -/
namespace Go.Proofs.YtkbcplnlehdjfaaGreat
open Go.RowKit
/-- An op: kind, two numbers, a text. -/
abbrev OpD := Int × Int × Int × ByteArray
def opOk (o : OpD) : Bool := opB o.1 o.2.1 o.2.2.1 o.2.2.2
end Go.Proofs.YtkbcplnlehdjfaaGreat

/- Rows of values in memory, and kinds of things that lie in rows. -/
namespace Go.Proofs.YtkbcplnlehdjfaaGreat
open Go.RowKit
/-- Values lie one behind the other from an address on; none may lie nowhere. -/
def Row (w : World) (a : Option Addr) (xs : List Value) : Prop := ∀ (j : Nat) (u : Value), xs[j]? = some u → ∃ g, a = some ⟨g, 0, none⟩ ∧ w.cell? ⟨g, j, none⟩ = some u
section
variable {w w' : World} {a : Option Addr} {xs : List Value}
theorem Row.nothing (w : World) (a : Option Addr) : Row w a [] := fun j u h => by simp at h
theorem Row.same (h : Row w a xs) (hs : ∀ g, a = some ⟨g, 0, none⟩ → w'.heap[g]? = w.heap[g]?) : Row w' a xs := fun j u hu => by
 obtain ⟨g, e, hc⟩ := h j u hu
 exact ⟨g, e, (World.cell?_of_block (w := w) (a := ⟨g, j, none⟩) (hs g e)).trans hc⟩
theorem Row.below (h : Row w a xs) (hb : Below w.heap.size w w') : Row w' a xs := fun j u hu => by
 obtain ⟨g, e, hc⟩ := h j u hu
 exact ⟨g, e, (hb.cell (p := ⟨g, j, none⟩) (block_lt_of_cell hc)).trans hc⟩
theorem Row.low {base : Nat} (h : Row w a xs) (ha : ∀ q, a = some q → q.block < base) (hb : Below base w w') : Row w' a xs := h.same fun g e => hb.block g (ha _ e)
theorem Row.drew (h : Row w a xs) : Row w.drew a xs := h
end
/-- The same of a slice that came in, which may begin anywhere. -/
def Src (w : World) (a : Option Addr) (xs : List Value) : Prop := ∀ (j : Nat) (u : Value), xs[j]? = some u → ∃ b off, a = some ⟨b, off, none⟩ ∧ w.cell? ⟨b, off + j, none⟩ = some u
theorem Src.below {w w' : World} {a : Option Addr} {xs : List Value} (h : Src w a xs) (hb : Below w.heap.size w w') : Src w' a xs := fun j u hu => by
 obtain ⟨b, off, e, hc⟩ := h j u hu
 exact ⟨b, off, e, (hb.cell (p := ⟨b, off + j, none⟩) (block_lt_of_cell hc)).trans hc⟩
/-- A kind of things: the cells of each, and the rows that it names. -/
structure Kind (α : Type) where
 n : Nat
 vals : α → List Value
 kids : α → List (Option Addr × List Value)
 pos : 0 < n
 len : ∀ x, (vals x).length = n
section
variable {α : Type} (K : Kind α)
def Kind.flat (l : List α) : List Value := l.flatMap K.vals
theorem Kind.flat_length (l : List α) : (K.flat l).length = l.length * K.n := by
 induction l with
 | nil => simp [Kind.flat]
 | cons x r ih =>
  show (K.vals x ++ K.flat r).length = _
  rw [List.length_append, ih, K.len, List.length_cons, Nat.succ_mul]
  omega
theorem Kind.flat_get {l : List α} {i : Nat} {x : α} (hx : l[i]? = some x) {j : Nat} (hj : j < K.n) : (K.flat l)[i * K.n + j]? = (K.vals x)[j]? := by
 induction l generalizing i with
 | nil => simp at hx
 | cons y r ih =>
  show (K.vals y ++ K.flat r)[_]? = _
  cases i with
  | zero =>
   simp at hx
   subst hx
   rw [Nat.zero_mul, Nat.zero_add, List.getElem?_append_left (by rw [K.len]; exact hj)]
  | succ i =>
   have hx' : r[i]? = some x := by simpa using hx
   rw [List.getElem?_append_right (by rw [K.len, Nat.succ_mul]; omega), K.len, show (i + 1) * K.n + j - K.n = i * K.n + j by rw [Nat.succ_mul]; omega]
   exact ih hx'
theorem Kind.flat_append (l r : List α) : K.flat (l ++ r) = K.flat l ++ K.flat r := List.flatMap_append
theorem Kind.flat_one (x : α) : K.flat [x] = K.vals x := by simp [Kind.flat]
/-- A list of things lies from an address on, and each row that one of them names. -/
def Kind.Lies (w : World) (a : Option Addr) (l : List α) : Prop := Row w a (K.flat l) ∧ ∀ x ∈ l, ∀ r ∈ K.kids x, Row w r.1 r.2
variable {K}
theorem Kind.Lies.at {w : World} {a : Option Addr} {l : List α} (h : K.Lies w a l) {i : Nat} {x : α} (hx : l[i]? = some x) :
  ∃ g, a = some ⟨g, 0, none⟩ ∧ ∀ (j : Nat) (u : Value), (K.vals x)[j]? = some u → w.cell? ⟨g, i * K.n + j, none⟩ = some u := by
 have h0 : ∃ u, (K.vals x)[0]? = some u := ⟨_, List.getElem?_eq_getElem (by rw [K.len]; exact K.pos)⟩
 obtain ⟨u0, hu0⟩ := h0
 obtain ⟨g, e, _⟩ := h.1 (i * K.n + 0) u0 ((K.flat_get hx K.pos).trans hu0)
 refine ⟨g, e, fun j u hu => ?_⟩
 have hj : j < K.n := by
  rw [← K.len x]
  exact (List.getElem?_eq_some_iff.1 hu).1
 obtain ⟨g', e', hc⟩ := h.1 (i * K.n + j) u ((K.flat_get hx hj).trans hu)
 rw [e] at e'
 cases e'
 exact hc
theorem Kind.Lies.kid {w : World} {a : Option Addr} {l : List α} (h : K.Lies w a l) {i : Nat} {x : α} (hx : l[i]? = some x) {r : Option Addr × List Value} (hr : r ∈ K.kids x) : Row w r.1 r.2 := h.2 x (List.mem_of_getElem? hx) r hr
variable (K) in
def Kind.Came (w : World) (a : Option Addr) (l : List α) : Prop := Src w a (K.flat l) ∧ ∀ x ∈ l, ∀ r ∈ K.kids x, Src w r.1 r.2
theorem Kind.Came.at {w : World} {a : Option Addr} {l : List α} (h : K.Came w a l) {i : Nat} {x : α} (hx : l[i]? = some x) :
  ∃ b off, a = some ⟨b, off, none⟩ ∧ ∀ (j : Nat) (u : Value), (K.vals x)[j]? = some u → w.cell? ⟨b, off + i * K.n + j, none⟩ = some u := by
 have h0 : ∃ u, (K.vals x)[0]? = some u := ⟨_, List.getElem?_eq_getElem (by rw [K.len]; exact K.pos)⟩
 obtain ⟨u0, hu0⟩ := h0
 obtain ⟨b, off, e, _⟩ := h.1 (i * K.n + 0) u0 ((K.flat_get hx K.pos).trans hu0)
 refine ⟨b, off, e, fun j u hu => ?_⟩
 have hj : j < K.n := by
  rw [← K.len x]
  exact (List.getElem?_eq_some_iff.1 hu).1
 obtain ⟨b', off', e', hc⟩ := h.1 (i * K.n + j) u ((K.flat_get hx hj).trans hu)
 rw [e] at e'
 cases e'
 rw [Nat.add_assoc]
 exact hc
theorem Kind.Came.kid {w : World} {a : Option Addr} {l : List α} (h : K.Came w a l) {i : Nat} {x : α} (hx : l[i]? = some x) {r : Option Addr × List Value} (hr : r ∈ K.kids x) : Src w r.1 r.2 := h.2 x (List.mem_of_getElem? hx) r hr
theorem Kind.Came.below {w w' : World} {a : Option Addr} {l : List α} (h : K.Came w a l) (hb : Below w.heap.size w w') : K.Came w' a l := ⟨h.1.below hb, fun x hx r hr => (h.2 x hx r hr).below hb⟩
theorem Kind.Lies.below {w w' : World} {a : Option Addr} {l : List α} (h : K.Lies w a l) (hb : Below w.heap.size w w') : K.Lies w' a l := ⟨h.1.below hb, fun x hx r hr => (h.2 x hx r hr).below hb⟩
end
/-- Ops, four cells each. -/
def opVals (o : OpD) : List Value := [.int .i64 o.1, .int .i64 o.2.1, .int .i64 o.2.2.1, .string o.2.2.2]
def opK : Kind OpD := ⟨4, opVals, fun _ => [], by decide, fun _ => rfl⟩
/-- Texts, a cell each. -/
def strK : Kind ByteArray := ⟨1, fun s => [.string s], fun _ => [], by decide, fun _ => rfl⟩
end Go.Proofs.YtkbcplnlehdjfaaGreat

/- Maps from numbers to pointers. -/
namespace Go.Proofs.YtkbcplnlehdjfaaGreat
open Go.RowKit Go.Maps
/-- A pointer to a block's beginning reads as the block's number. -/
def ptrR (v : Value) : Option (DataW Unit × List MemPlace) := match v with
 | .pointer (some ⟨g, 0, none⟩) => some (.lit (.int .i64 g), [])
 | _ => none
def ptrV (g : Nat) : Value := .pointer (some ⟨g, 0, none⟩)
def ptrO : Option Nat → Value
 | none => .pointer none
 | some g => ptrV g
theorem ptrR_mk (g : Nat) : ptrR (ptrV g) = some (.lit (.int .i64 g), []) := rfl
theorem ptrR_inv {v : Value} {z : DataW Unit × List MemPlace} (h : ptrR v = some z) : ∃ g : Nat, v = ptrV g ∧ z = (.lit (.int .i64 g), []) := by
 unfold ptrR at h
 split at h
 ·rename_i g
  cases h
  exact ⟨g, rfl, rfl⟩
 ·cases h
/-- Keys and blocks, in the order of the keys. -/
abbrev MapL := List (Int × Nat)
def encP (p : Int × Nat) : Lit × DataW Unit := (.int .i64 p.1, .lit (.int .i64 p.2))
def mapD (m : MapL) : DataW Unit := .map (m.map encP)
def Rises (m : MapL) : Prop := m.Pairwise (fun p q => p.1 < q.1)
def lookM (m : MapL) (k : Int) : Option Nat := (m.find? (fun p => p.1 == k)).map (·.2)
def insM (p : Int × Nat) : MapL → MapL
 | [] => [p]
 | y :: r => if p.1 < y.1 then p :: y :: r else y :: insM p r
/-- Block b is that map. -/
def MapIs (w : World) (b : Nat) (m : MapL) : Prop := w.ownsMap Tryz.prog 2 ptrR b m.length (mapD m) ∧ Rises m
theorem keyed64 : Keyed Tryz.prog 2 := int_keyed Tryz.underlying2
theorem key64 {k : Int} (hk : (Lit.int .i64 k).wf = true) : keyOf Tryz.prog 2 (.int .i64 k) = some (.int .i64 k) := keyOf_int_mk Tryz.underlying2 hk
theorem sameKey_int (a b : Int) : (Lit.int .i64 a).sameKey (.int .i64 b) = (a == b) := by
 simp [Lit.sameKey]
 by_cases h : a = b <;> simp [h]
theorem find_enc (m : MapL) (k : Int) : (m.map encP).find? (fun p => p.1.sameKey (.int .i64 k)) = (m.find? (fun p => p.1 == k)).map encP := by
 induction m with
 | nil => rfl
 | cons p r ih =>
  simp only [List.map_cons, List.find?_cons]
  have e : (encP p).1.sameKey (.int .i64 k) = (p.1 == k) := sameKey_int _ _
  rw [e]
  cases (p.1 == k)
  ·exact ih
  ·rfl
theorem atKey_map (m : MapL) (k : Int) (z : DataW Unit) : (mapD m).atKey (.int .i64 k) z = match lookM m k with | some g => .lit (.int .i64 g) | none => z := by
 simp only [mapD, DataW.atKey, find_enc]
 unfold lookM
 cases m.find? (fun p => p.1 == k) <;> rfl
theorem size_map (m : MapL) : Maps.size (mapD m) = m.length := by simp [Maps.size, mapD]
section
variable {w w' : World} {b : Nat} {m : MapL}
theorem MapIs.lt (h : MapIs w b m) : b < w.heap.size := h.1.lt
theorem MapIs.same (h : MapIs w b m) (hs : w'.heap[b]? = w.heap[b]?) : MapIs w' b m := by
 obtain ⟨⟨es, clock, hb, r⟩, h2⟩ := h
 exact ⟨⟨es, clock, hs.trans hb, r⟩, h2⟩
theorem MapIs.below (h : MapIs w b m) (hb : Below w.heap.size w w') : MapIs w' b m := h.same (hb.block b h.lt)
theorem MapIs.made (w : World) : MapIs (w.alloc (.map #[] 0)) w.heap.size [] := ⟨World.ownsMap_made w Tryz.prog 2 ptrR, List.Pairwise.nil⟩
theorem MapIs.of_empty (hb : w.heap[b]? = some (.map #[] 0)) : MapIs w b [] := ⟨⟨#[], 0, hb, ⟨by simp, MapKept.stamped_empty 0, by simp⟩, by simp, rfl⟩, List.Pairwise.nil⟩
theorem MapIs.look (h : MapIs w b m) {t e : TypeId} (ht : Tryz.prog.underlying t = some (.map 2 e)) (hz : (zeroValue e).run Tryz.prog w = .ok (.pointer none) w) {k : Int} (hk : (Lit.int .i64 k).wf = true) (c : Bool) :
  (Instr.lookup t (.map (some b)) (.int .i64 k) c).run Tryz.prog w = .ok (if c then .tuple #[ptrO (lookM m k), .bool (lookM m k).isSome] else ptrO (lookM m k)) w := by
 obtain ⟨⟨es, clock, hb, F, _, hD⟩, _⟩ := h
 rcases Maps.fit_look c keyed64 ht hz hb F (key64 hk) with ⟨hrun, _, hat⟩ | ⟨e0, y, _, _, hrun, hRv, hat, _⟩
 ·have h1 := hat .nil
  rw [← hD, atKey_map] at h1
  have h2 := hat (.lit (.bool true))
  rw [← hD, atKey_map] at h2
  cases hl : lookM m k with
  | none => exact hrun
  | some g => rw [hl] at h1; cases h1
 ·obtain ⟨g, hv, rfl⟩ := ptrR_inv hRv
  have h1 := hat .nil
  rw [← hD, atKey_map] at h1
  cases hl : lookM m k with
  | none => rw [hl] at h1; cases h1
  | some g' =>
   rw [hl] at h1
   simp only [DataW.lit.injEq, Lit.int.injEq, Int.natCast_inj, true_and] at h1
   rw [hrun, hv, h1]
   cases c <;> rfl
theorem MapIs.len (h : MapIs w b m) {t e : TypeId} (ht : Tryz.prog.underlying t = some (.map 2 e)) (ty : TypeId) : (Builtin.len_ #[t] ty #[.map (some b)]).run Tryz.prog w = .ok (.int .i64 (m.length : Int)) w := by
 have := h.1.len ht ty
 rwa [size_map] at this
theorem insM_length (p : Int × Nat) (m : MapL) : (insM p m).length = m.length + 1 := by
 induction m with
 | nil => rfl
 | cons y r ih =>
  unfold insM
  split
  ·rfl
  ·simp [ih]
theorem insM_mem {p q : Int × Nat} {m : MapL} : q ∈ insM p m ↔ q = p ∨ q ∈ m := by
 induction m with
 | nil => simp [insM]
 | cons y r ih =>
  unfold insM
  split
  ·simp
  ·simp only [List.mem_cons, ih]
   constructor
   ·rintro (h | h | h)
    ·exact .inr (.inl h)
    ·exact .inl h
    ·exact .inr (.inr h)
   ·rintro (h | h | h)
    ·exact .inr (.inl h)
    ·exact .inl h
    ·exact .inr (.inr h)
theorem insM_rises {p : Int × Nat} {m : MapL} (h : Rises m) (hn : lookM m p.1 = none) : Rises (insM p m) := by
 induction m with
 | nil => exact List.pairwise_singleton _ _
 | cons y r ih =>
  obtain ⟨h1, h2⟩ := List.pairwise_cons.1 h
  have hy : ¬ y.1 = p.1 := by
   intro e
   simp [lookM, e] at hn
  have hn' : lookM r p.1 = none := by
   unfold lookM at hn ⊢
   rw [List.find?_cons] at hn
   have : (y.1 == p.1) = false := by simp [hy]
   rw [this] at hn
   exact hn
  unfold insM
  split
  ·rename_i hlt
   refine List.pairwise_cons.2 ⟨fun q hq => ?_, h⟩
   rcases List.mem_cons.1 hq with rfl | hq
   ·exact hlt
   ·exact Int.lt_trans hlt (h1 q hq)
  ·rename_i hge
   refine List.pairwise_cons.2 ⟨fun q hq => ?_, ih h2 hn'⟩
   rcases insM_mem.1 hq with rfl | hq
   ·omega
   ·exact h1 q hq
theorem put_map {m : MapL} {k : Int} {g : Nat} (hn : lookM m k = none) : (mapD m).put (.int .i64 k) (.lit (.int .i64 g)) = mapD (insM (k, g) m) := by
 have hf : (m.map encP).filter (fun p => !p.1.sameKey (.int .i64 k)) = m.map encP := by
  refine List.filter_eq_self.2 (fun p hp => ?_)
  obtain ⟨q, hq, rfl⟩ := List.mem_map.1 hp
  have e : (encP q).1.sameKey (.int .i64 k) = (q.1 == k) := sameKey_int _ _
  rw [e]
  have : m.find? (fun p => p.1 == k) = none := by simpa [lookM] using hn
  have := List.find?_eq_none.1 this q hq
  simpa using this
 show DataW.map (DataW.insert _ ((m.map encP).filter _)) = _
 rw [hf]
 show DataW.map (DataW.insert (encP (k, g)) (m.map encP)) = .map ((insM (k, g) m).map encP)
 congr 1
 induction m with
 | nil => rfl
 | cons y r ih =>
  unfold insM
  simp only [List.map_cons, DataW.insert]
  have e : (encP (k, g)).1.before (encP y).1 = decide (k < y.1) := rfl
  rw [e]
  by_cases hlt : k < y.1
  ·simp [hlt]
  ·have hn' : lookM r k = none := by
    unfold lookM at hn ⊢
    rw [List.find?_cons] at hn
    split at hn
    ·cases hn
    ·exact hn
   have hf' : (r.map encP).filter (fun p => !p.1.sameKey (.int .i64 k)) = r.map encP := by
    simp only [List.map_cons, List.filter_cons] at hf
    split at hf
    ·exact (List.cons.inj hf).2
    ·have := congrArg List.length hf
     have h2 := List.length_filter_le (fun p : Lit × DataW Unit => !p.1.sameKey (.int .i64 k)) (r.map encP)
     simp only [List.length_cons] at this
     omega
   simp only [hlt, decide_false, Bool.false_eq_true, if_false]
   rw [ih hn' hf']
   simp
theorem MapIs.put (h : MapIs w b m) {t e : TypeId} (ht : Tryz.prog.underlying t = some (.map 2 e)) {k : Int} (hk : (Lit.int .i64 k).wf = true) (g : Nat) (hn : lookM m k = none) (hm : m.length ≤ 1048576) :
  ∃ w', (Instr.mapUpdate t (.map (some b)) (.int .i64 k) (ptrV g)).run Tryz.prog w = .ok () w' ∧ MapIs w' b (insM (k, g) m) ∧ w.mapTurned w' b := by
 obtain ⟨w', hrun, ho, ht'⟩ := h.1.store keyed64 ht (Nat.lt_of_le_of_lt hm (by decide)) (key64 hk) (ptrR_mk g)
 refine ⟨w', hrun, ⟨?_, insM_rises h.2 hn⟩, ht'⟩
 rw [put_map hn] at ho
 rwa [insM_length]
end
theorem lookM_none {m : MapL} {k : Int} : lookM m k = none ↔ k ∉ m.map (·.1) := by
 unfold lookM
 rw [Option.map_eq_none_iff, List.find?_eq_none]
 constructor
 ·intro h hm
  obtain ⟨p, hp, e⟩ := List.mem_map.1 hm
  exact h p hp (by simp [e])
 ·intro h p hp e
  exact h (List.mem_map.2 ⟨p, hp, by simpa using e⟩)
theorem lookM_isSome (m : MapL) (k : Int) : (lookM m k).isSome = decide (k ∈ m.map (·.1)) := by
 by_cases h : k ∈ m.map (·.1)
 ·rw [decide_eq_true h]
  cases hl : lookM m k with
  | none => exact absurd h (lookM_none.1 hl)
  | some g => rfl
 ·rw [decide_eq_false h, lookM_none.2 h]
  rfl
theorem lookM_mem {m : MapL} (hr : Rises m) {p : Int × Nat} (hp : p ∈ m) : lookM m p.1 = some p.2 := by
 induction m with
 | nil => cases hp
 | cons y r ih =>
  obtain ⟨h1, h2⟩ := List.pairwise_cons.1 hr
  rcases List.mem_cons.1 hp with rfl | hp
  ·simp [lookM]
  ·have := h1 p hp
   have hne : (y.1 == p.1) = false := by
    have : ¬ y.1 = p.1 := by omega
    simp [this]
   have := ih h2 hp
   unfold lookM at this ⊢
   rw [List.find?_cons, hne]
   exact this
theorem mem_of_lookM {m : MapL} {k : Int} {g : Nat} (h : lookM m k = some g) : (k, g) ∈ m := by
 unfold lookM at h
 obtain ⟨p, hp, e⟩ := Option.map_eq_some_iff.1 h
 have h1 := List.mem_of_find?_eq_some hp
 have h2 := List.find?_some hp
 simp at h2
 rw [← h2, ← e]
 exact h1
end Go.Proofs.YtkbcplnlehdjfaaGreat

/- The cells of a program, four an op; a row of ops that is filled one by one. -/
namespace Go.Proofs.YtkbcplnlehdjfaaGreat
open Go.RowKit
/-- The cells of a program: four an op. -/
def opV (K N M : Nat → Int) (S : Nat → ByteArray) (j : Nat) : Value := if j % 4 = 0 then .int .i64 (K (j / 4)) else if j % 4 = 1 then .int .i64 (N (j / 4)) else if j % 4 = 2 then .int .i64 (M (j / 4)) else .string (S (j / 4))
def zeroV (j : Nat) : Value := if j % 4 = 3 then .string ⟨#[]⟩ else .int .i64 0
theorem opV_0 (K N M : Nat → Int) (S : Nat → ByteArray) (i : Nat) : opV K N M S (i * 4) = .int .i64 (K i) := by
 have e : i * 4 % 4 = 0 := by omega
 have d : i * 4 / 4 = i := by omega
 simp [opV, d]
theorem opV_1 (K N M : Nat → Int) (S : Nat → ByteArray) (i : Nat) : opV K N M S (i * 4 + 1) = .int .i64 (N i) := by
 have e : (i * 4 + 1) % 4 = 1 := by omega
 have d : (i * 4 + 1) / 4 = i := by omega
 simp [opV, e, d]
theorem opV_2 (K N M : Nat → Int) (S : Nat → ByteArray) (i : Nat) : opV K N M S (i * 4 + 2) = .int .i64 (M i) := by
 have e : (i * 4 + 2) % 4 = 2 := by omega
 have d : (i * 4 + 2) / 4 = i := by omega
 simp [opV, e, d]
theorem opV_3 (K N M : Nat → Int) (S : Nat → ByteArray) (i : Nat) : opV K N M S (i * 4 + 3) = .string (S i) := by
 have e : (i * 4 + 3) % 4 = 3 := by omega
 have d : (i * 4 + 3) / 4 = i := by omega
 simp [opV, e, d]
end Go.Proofs.YtkbcplnlehdjfaaGreat

/- The ops of a program in a block; whether a program is right. -/
namespace Go.Proofs.YtkbcplnlehdjfaaGreat
open Go.RowKit
/-- The ops of a program lie in block g. -/
def OpsAt (w : World) (g len : Nat) (K N M : Nat → Int) (S : Nat → ByteArray) : Prop := g < w.heap.size ∧ ∀ j, j < len * 4 → w.cell? ⟨g, j, none⟩ = some (opV K N M S j)
theorem OpsAt.of_block {w w' : World} {g len : Nat} {K N M : Nat → Int} {S : Nat → ByteArray} (h : OpsAt w g len K N M S) (e : w'.heap[g]? = w.heap[g]?) : OpsAt w' g len K N M S := by
 refine ⟨?_, fun j hj => (World.cell?_of_block (w := w) e).trans (h.2 j hj)⟩
 have h1 := h.1
 rw [Array.getElem?_eq_getElem h1] at e
 exact (Array.getElem?_eq_some_iff.1 e).1
theorem OpsAt.below {w w' : World} {g len : Nat} {K N M : Nat → Int} {S : Nat → ByteArray} (h : OpsAt w g len K N M S) (hb : Below w.heap.size w w') : OpsAt w' g len K N M S := h.of_block (hb.block g h.1)
theorem OpsAt.c0 {w : World} {g len : Nat} {K N M : Nat → Int} {S : Nat → ByteArray} (h : OpsAt w g len K N M S) {i : Nat} (hi : i < len) : w.cell? ⟨g, i * 4, none⟩ = some (.int .i64 (K i)) := by rw [← opV_0 K N M S]; exact h.2 _ (by omega)
theorem OpsAt.c1 {w : World} {g len : Nat} {K N M : Nat → Int} {S : Nat → ByteArray} (h : OpsAt w g len K N M S) {i : Nat} (hi : i < len) : w.cell? ⟨g, i * 4 + 1, none⟩ = some (.int .i64 (N i)) := by rw [← opV_1 K N M S]; exact h.2 _ (by omega)
theorem OpsAt.c2 {w : World} {g len : Nat} {K N M : Nat → Int} {S : Nat → ByteArray} (h : OpsAt w g len K N M S) {i : Nat} (hi : i < len) : w.cell? ⟨g, i * 4 + 2, none⟩ = some (.int .i64 (M i)) := by rw [← opV_2 K N M S]; exact h.2 _ (by omega)
theorem OpsAt.c3 {w : World} {g len : Nat} {K N M : Nat → Int} {S : Nat → ByteArray} (h : OpsAt w g len K N M S) {i : Nat} (hi : i < len) : w.cell? ⟨g, i * 4 + 3, none⟩ = some (.string (S i)) := by rw [← opV_3 K N M S]; exact h.2 _ (by omega)
def opAtB (K N M : Nat → Int) (S : Nat → ByteArray) (i : Nat) : Bool := opB (K i) (N i) (M i) (S i)
/-- Whether a program is right. -/
def progB (len : Nat) (K N M : Nat → Int) (S : Nat → ByteArray) : Bool := decide (1 ≤ len ∧ len ≤ 20 ∧ ∀ i, i < len → opAtB K N M S i = true)
theorem progB_true {len : Nat} {K N M : Nat → Int} {S : Nat → ByteArray} (h : 1 ≤ len ∧ len ≤ 20 ∧ ∀ i, i < len → opAtB K N M S i = true) : progB len K N M S = true := by simp only [progB]; exact decide_eq_true h
theorem progB_false {len : Nat} {K N M : Nat → Int} {S : Nat → ByteArray} (h : ¬ (1 ≤ len ∧ len ≤ 20 ∧ ∀ i, i < len → opAtB K N M S i = true)) : progB len K N M S = false := by simp only [progB]; exact decide_eq_false h
end Go.Proofs.YtkbcplnlehdjfaaGreat

/- Lists of ops in memory. -/
namespace Go.Proofs.YtkbcplnlehdjfaaGreat
open Go.RowKit
def kOf (os : List OpD) (i : Nat) : Int := (os[i]?.getD (0, 0, 0, ⟨#[]⟩)).1
def nOf (os : List OpD) (i : Nat) : Int := (os[i]?.getD (0, 0, 0, ⟨#[]⟩)).2.1
def mOf (os : List OpD) (i : Nat) : Int := (os[i]?.getD (0, 0, 0, ⟨#[]⟩)).2.2.1
def sOf (os : List OpD) (i : Nat) : ByteArray := (os[i]?.getD (0, 0, 0, ⟨#[]⟩)).2.2.2
/-- The ops of a list lie in block g. -/
def ListAt (w : World) (g : Nat) (os : List OpD) : Prop := OpsAt w g os.length (kOf os) (nOf os) (mOf os) (sOf os)
/-- A list of ops, wherever it lies; a list of none may lie nowhere. -/
def LiesO (w : World) (a : Option Addr) (os : List OpD) : Prop := 0 < os.length → ∃ g, a = some ⟨g, 0, none⟩ ∧ ListAt w g os
theorem LiesO.below {w w' : World} {a : Option Addr} {os : List OpD} (h : LiesO w a os) (hb : Below w.heap.size w w') : LiesO w' a os := fun hl => by
 obtain ⟨g, rfl, hw⟩ := h hl
 exact ⟨g, rfl, OpsAt.below hw hb⟩
theorem LiesO.low {w w' : World} {a : Option Addr} {base : Nat} {os : List OpD} (h : LiesO w a os) (ha : ∀ q, a = some q → q.block < base) (hb : Below base w w') : LiesO w' a os := fun hl => by
 obtain ⟨g, rfl, hw⟩ := h hl
 exact ⟨g, rfl, OpsAt.of_block hw (hb.block g (ha _ rfl))⟩
end Go.Proofs.YtkbcplnlehdjfaaGreat

/- The things of a partition as data, and where they lie. (Made by mkpd.py.) -/
namespace Go.Proofs.YtkbcplnlehdjfaaGreat
open Go.RowKit
structure SemD where
 id : Int
 n : Int
 max : Int
def semVals (x : SemD) : List Value := [.int .i64 x.id, .int .i64 x.n, .int .i64 x.max]
def semK : Kind SemD := ⟨3, semVals, fun _ => [], by decide, fun _ => rfl⟩
/-- It lies at the i-th place of block g. -/
def SemD.At (w : World) (g i : Nat) (x : SemD) : Prop := w.cell? ⟨g, i * 3, none⟩ = some (.int .i64 x.id) ∧ w.cell? ⟨g, i * 3 + 1, none⟩ = some (.int .i64 x.n) ∧ w.cell? ⟨g, i * 3 + 2, none⟩ = some (.int .i64 x.max)
theorem sem_at {w : World} {a : Option Addr} {l : List SemD} (h : semK.Lies w a l) {i : Nat} {x : SemD} (hx : l[i]? = some x) : ∃ g, a = some ⟨g, 0, none⟩ ∧ SemD.At w g i x := by
 obtain ⟨g, e, hc⟩ := h.at hx
 exact ⟨g, e, hc 0 _ rfl, hc 1 _ rfl, hc 2 _ rfl⟩
structure EventD where
 id : Int
 up : Bool
def eventVals (x : EventD) : List Value := [.int .i64 x.id, .bool x.up]
def eventK : Kind EventD := ⟨2, eventVals, fun _ => [], by decide, fun _ => rfl⟩
/-- It lies at the i-th place of block g. -/
def EventD.At (w : World) (g i : Nat) (x : EventD) : Prop := w.cell? ⟨g, i * 2, none⟩ = some (.int .i64 x.id) ∧ w.cell? ⟨g, i * 2 + 1, none⟩ = some (.bool x.up)
theorem event_at {w : World} {a : Option Addr} {l : List EventD} (h : eventK.Lies w a l) {i : Nat} {x : EventD} (hx : l[i]? = some x) : ∃ g, a = some ⟨g, 0, none⟩ ∧ EventD.At w g i x := by
 obtain ⟨g, e, hc⟩ := h.at hx
 exact ⟨g, e, hc 0 _ rfl, hc 1 _ rfl⟩
structure BoardD where
 id : Int
 shown : Bool
 text : ByteArray
def boardVals (x : BoardD) : List Value := [.int .i64 x.id, .bool x.shown, .string x.text]
def boardK : Kind BoardD := ⟨3, boardVals, fun _ => [], by decide, fun _ => rfl⟩
/-- It lies at the i-th place of block g. -/
def BoardD.At (w : World) (g i : Nat) (x : BoardD) : Prop := w.cell? ⟨g, i * 3, none⟩ = some (.int .i64 x.id) ∧ w.cell? ⟨g, i * 3 + 1, none⟩ = some (.bool x.shown) ∧ w.cell? ⟨g, i * 3 + 2, none⟩ = some (.string x.text)
theorem board_at {w : World} {a : Option Addr} {l : List BoardD} (h : boardK.Lies w a l) {i : Nat} {x : BoardD} (hx : l[i]? = some x) : ∃ g, a = some ⟨g, 0, none⟩ ∧ BoardD.At w g i x := by
 obtain ⟨g, e, hc⟩ := h.at hx
 exact ⟨g, e, hc 0 _ rfl, hc 1 _ rfl, hc 2 _ rfl⟩
structure BufferP where
 id : Int
 max : Int
 items : List ByteArray
structure BufferD extends BufferP where
 itemsA : Option Addr
 itemsC : Nat
def bufferVals (x : BufferD) : List Value := [.int .i64 x.id, .int .i64 x.max, .slice x.itemsA x.items.length x.itemsC]
def bufferK : Kind BufferD := ⟨3, bufferVals, fun x => [(x.itemsA, strK.flat x.items)], by decide, fun _ => rfl⟩
/-- It lies at the i-th place of block g. -/
def BufferD.At (w : World) (g i : Nat) (x : BufferD) : Prop := w.cell? ⟨g, i * 3, none⟩ = some (.int .i64 x.id) ∧ w.cell? ⟨g, i * 3 + 1, none⟩ = some (.int .i64 x.max) ∧ w.cell? ⟨g, i * 3 + 2, none⟩ = some (.slice x.itemsA x.items.length x.itemsC)
theorem buffer_at {w : World} {a : Option Addr} {l : List BufferD} (h : bufferK.Lies w a l) {i : Nat} {x : BufferD} (hx : l[i]? = some x) : ∃ g, a = some ⟨g, 0, none⟩ ∧ BufferD.At w g i x := by
 obtain ⟨g, e, hc⟩ := h.at hx
 exact ⟨g, e, hc 0 _ rfl, hc 1 _ rfl, hc 2 _ rfl⟩
theorem buffer_items {w : World} {a : Option Addr} {l : List BufferD} (h : bufferK.Lies w a l) {i : Nat} {x : BufferD} (hx : l[i]? = some x) : Row w x.itemsA (strK.flat x.items) := h.kid hx (r := (x.itemsA, strK.flat x.items)) (by simp [bufferK])
structure PortP where
 id : Int
 out : Bool
 queue : Bool
 max : Int
 items : List ByteArray
structure PortD extends PortP where
 itemsA : Option Addr
 itemsC : Nat
def portVals (x : PortD) : List Value := [.int .i64 x.id, .bool x.out, .bool x.queue, .int .i64 x.max, .slice x.itemsA x.items.length x.itemsC]
def portK : Kind PortD := ⟨5, portVals, fun x => [(x.itemsA, strK.flat x.items)], by decide, fun _ => rfl⟩
/-- It lies at the i-th place of block g. -/
def PortD.At (w : World) (g i : Nat) (x : PortD) : Prop := w.cell? ⟨g, i * 5, none⟩ = some (.int .i64 x.id) ∧ w.cell? ⟨g, i * 5 + 1, none⟩ = some (.bool x.out) ∧ w.cell? ⟨g, i * 5 + 2, none⟩ = some (.bool x.queue) ∧ w.cell? ⟨g, i * 5 + 3, none⟩ = some (.int .i64 x.max) ∧ w.cell? ⟨g, i * 5 + 4, none⟩ = some (.slice x.itemsA x.items.length x.itemsC)
theorem port_at {w : World} {a : Option Addr} {l : List PortD} (h : portK.Lies w a l) {i : Nat} {x : PortD} (hx : l[i]? = some x) : ∃ g, a = some ⟨g, 0, none⟩ ∧ PortD.At w g i x := by
 obtain ⟨g, e, hc⟩ := h.at hx
 exact ⟨g, e, hc 0 _ rfl, hc 1 _ rfl, hc 2 _ rfl, hc 3 _ rfl, hc 4 _ rfl⟩
theorem port_items {w : World} {a : Option Addr} {l : List PortD} (h : portK.Lies w a l) {i : Nat} {x : PortD} (hx : l[i]? = some x) : Row w x.itemsA (strK.flat x.items) := h.kid hx (r := (x.itemsA, strK.flat x.items)) (by simp [portK])
structure ProcP where
 id : Int
 prio : Int
 prog : List OpD
 state : Int
 pc : Int
 left : Int
 wake : Int
 on : Int
 held : ByteArray
 got : ByteArray
 code : Int
 since : Int
structure ProcD extends ProcP where
 progA : Option Addr
 progC : Nat
def procVals (x : ProcD) : List Value := [.int .i64 x.id, .int .i64 x.prio, .slice x.progA x.prog.length x.progC, .int .i64 x.state, .int .i64 x.pc, .int .i64 x.left, .int .i64 x.wake, .int .i64 x.on, .string x.held, .string x.got, .int .i64 x.code, .int .i64 x.since]
def procK : Kind ProcD := ⟨12, procVals, fun x => [(x.progA, opK.flat x.prog)], by decide, fun _ => rfl⟩
/-- It lies at the i-th place of block g. -/
def ProcD.At (w : World) (g i : Nat) (x : ProcD) : Prop := w.cell? ⟨g, i * 12, none⟩ = some (.int .i64 x.id) ∧ w.cell? ⟨g, i * 12 + 1, none⟩ = some (.int .i64 x.prio) ∧ w.cell? ⟨g, i * 12 + 2, none⟩ = some (.slice x.progA x.prog.length x.progC) ∧ w.cell? ⟨g, i * 12 + 3, none⟩ = some (.int .i64 x.state) ∧ w.cell? ⟨g, i * 12 + 4, none⟩ = some (.int .i64 x.pc) ∧ w.cell? ⟨g, i * 12 + 5, none⟩ = some (.int .i64 x.left) ∧ w.cell? ⟨g, i * 12 + 6, none⟩ = some (.int .i64 x.wake) ∧ w.cell? ⟨g, i * 12 + 7, none⟩ = some (.int .i64 x.on) ∧ w.cell? ⟨g, i * 12 + 8, none⟩ = some (.string x.held) ∧ w.cell? ⟨g, i * 12 + 9, none⟩ = some (.string x.got) ∧ w.cell? ⟨g, i * 12 + 10, none⟩ = some (.int .i64 x.code) ∧ w.cell? ⟨g, i * 12 + 11, none⟩ = some (.int .i64 x.since)
theorem proc_at {w : World} {a : Option Addr} {l : List ProcD} (h : procK.Lies w a l) {i : Nat} {x : ProcD} (hx : l[i]? = some x) : ∃ g, a = some ⟨g, 0, none⟩ ∧ ProcD.At w g i x := by
 obtain ⟨g, e, hc⟩ := h.at hx
 exact ⟨g, e, hc 0 _ rfl, hc 1 _ rfl, hc 2 _ rfl, hc 3 _ rfl, hc 4 _ rfl, hc 5 _ rfl, hc 6 _ rfl, hc 7 _ rfl, hc 8 _ rfl, hc 9 _ rfl, hc 10 _ rfl, hc 11 _ rfl⟩
theorem proc_prog {w : World} {a : Option Addr} {l : List ProcD} (h : procK.Lies w a l) {i : Nat} {x : ProcD} (hx : l[i]? = some x) : Row w x.progA (opK.flat x.prog) := h.kid hx (r := (x.progA, opK.flat x.prog)) (by simp [procK])
/-- A partition: its numbers, its lists, and where each lies. -/
structure PartD where
 id : Int
 next : Int
 procs : List ProcD
 procA : Option Addr
 procC : Nat
 sems : List SemD
 semA : Option Addr
 semC : Nat
 events : List EventD
 eventA : Option Addr
 eventC : Nat
 boards : List BoardD
 boardA : Option Addr
 boardC : Nat
 buffers : List BufferD
 bufferA : Option Addr
 bufferC : Nat
 ports : List PortD
 portA : Option Addr
 portC : Nat
def PartD.cells (p : PartD) : Array Value := #[.int .i64 p.id, .int .i64 p.next, .slice p.procA p.procs.length p.procC, .slice p.semA p.sems.length p.semC, .slice p.eventA p.events.length p.eventC, .slice p.boardA p.boards.length p.boardC, .slice p.bufferA p.buffers.length p.bufferC, .slice p.portA p.ports.length p.portC]
def PartD.At (w : World) (p : PartD) : Prop := procK.Lies w p.procA p.procs ∧ semK.Lies w p.semA p.sems ∧ eventK.Lies w p.eventA p.events ∧ boardK.Lies w p.boardA p.boards ∧ bufferK.Lies w p.bufferA p.buffers ∧ portK.Lies w p.portA p.ports
theorem PartD.At.below {w w' : World} {p : PartD} (h : PartD.At w p) (hb : Below w.heap.size w w') : PartD.At w' p := ⟨h.1.below hb, h.2.1.below hb, h.2.2.1.below hb, h.2.2.2.1.below hb, h.2.2.2.2.1.below hb, h.2.2.2.2.2.below hb⟩
/-- A partition, wherever it lies. -/
structure PartP where
 id : Int
 next : Int
 procs : List ProcP
 sems : List SemD
 events : List EventD
 boards : List BoardD
 buffers : List BufferP
 ports : List PortP
def PartD.pure (p : PartD) : PartP := ⟨p.id, p.next, p.procs.map (·.toProcP), p.sems, p.events, p.boards, p.buffers.map (·.toBufferP), p.ports.map (·.toPortP)⟩
/-- The place of the first that has that number; -1: there is none. -/
def place (l : List Int) (id : Int) (i : Nat) : Int := match l with
 | [] => -1
 | x :: r => if x = id then i else place r id (i + 1)
theorem place_ge : ∀ (l : List Int) (id : Int) (i : Nat), place l id i = -1 ∨ (i : Int) ≤ place l id i
 | [], _, _ => .inl rfl
 | y :: r, id, i => by
  simp only [place]
  split
  ·exact .inr (by omega)
  ·rcases place_ge r id (i + 1) with h | h
   ·exact .inl h
   ·exact .inr (by omega)
/-- Whether there is one with that number. -/
theorem place_none : ∀ {l : List Int} {id : Int} {i : Nat}, place l id i = -1 ↔ id ∉ l
 | [], id, i => by simp [place]
 | y :: r, id, i => by
  simp only [place, List.mem_cons, not_or]
  split
  ·rename_i h
   constructor
   ·intro h2; omega
   ·intro h2; exact absurd h.symm h2.1
  ·rename_i h
   rw [place_none (l := r)]
   exact ⟨fun h2 => ⟨fun e => h e.symm, h2⟩, fun h2 => h2.2⟩
theorem place_take {l : List Int} {id : Int} {k : Nat} (h : id ∉ l.take k) {x : Int} (hx : l[k]? = some x) (e : x = id) : place l id 0 = k := by
 have hk : k < l.length := (List.getElem?_eq_some_iff.1 hx).1
 have e1 : l = l.take k ++ x :: l.drop (k + 1) := by
  have := List.take_append_drop k l
  rw [List.drop_eq_getElem_cons hk] at this
  rw [← this]
  rw [List.getElem?_eq_getElem hk] at hx
  cases hx
  simp
 have key : ∀ (t : List Int) (i : Nat), id ∉ t → place (t ++ x :: l.drop (k + 1)) id i = ((i + t.length : Nat) : Int) := by
  intro t
  induction t with
  | nil => intro i _; simp [place, e]
  | cons y r ih =>
   intro i hn
   simp only [List.mem_cons, not_or] at hn
   simp only [List.cons_append, place]
   rw [if_neg (fun h => hn.1 h.symm), ih (i + 1) hn.2]
   simp only [List.length_cons]
   rw [show i + 1 + r.length = i + (r.length + 1) by omega]
 have := key (l.take k) 0 h
 rw [← e1] at this
 rw [this, List.length_take]
 congr 1
 omega
end Go.Proofs.YtkbcplnlehdjfaaGreat
