/- What the proof leans on, part 0: Base, Plain, OpSpec, OpDt, Mem, MapIs, ProgRowB, OpsAt, PList, PD, Place, PPure, PImplPure, OpImpl, Tame, ShBase, ShelfB, PartLay, KeysB, CopyB, OwnB, OpForms, OpOk, ProgSpec, ProgL. -/
import Derived.Test.YtkbcplnlehdjfaaGreatProg
import Derived.WalkKit
import Derived.Handy
import Derived.Deep.OwnRows
import Derived.Deep.QuietTactic
import Derived.BigQuiet
import Derived.Maps.OwnSet
import Derived.Maps.RangeWalk
import Derived.OrdersHeld
import Derived.Deep.RegionWith
import Derived.Deep.RegionHeld3
import Derived.Deep.DrawnRows
import Derived.Shelf.SlIterI.Nil
import Derived.Shelf.SortM.Plain
import Derived.Shelf.SortM.SortNone
import Derived.Ground.GgzProg
import Derived.Ground.SlgmProg
import Derived.Maps.AppendAt
import Derived.Deep.AppendLies
import Derived.Deep.AppendSrc

namespace Go.Proofs.YtkbcplnlehdjfaaGreat
open Go.RowKit

def inB (n lo hi : Int) : Bool := decide (lo ≤ n) && decide (n ≤ hi)

def szOf (left : Int) (len : Nat) : Int := if left < len then -1 else left - len
theorem szOf_neg {left : Int} {len : Nat} (h : left < len) : szOf left len = -1 := if_pos h
theorem szOf_pos {left : Int} {len : Nat} (h : (len : Int) ≤ left) : szOf left len = left - len := if_neg (by omega)

theorem inB_true {n lo hi : Int} (h1 : lo ≤ n) (h2 : n ≤ hi) : inB n lo hi = true := by simp [inB, h1, h2]
theorem inB_low {n lo hi : Int} (h : n < lo) : inB n lo hi = false := by simp [inB]; omega
theorem inB_high {n lo hi : Int} (h : hi < n) : inB n lo hi = false := by simp [inB]; omega
theorem ret_bool {a b : Bool} (h : a = b) : Ending.returned (.bool a) = .returned (.bool b) := by rw [h]
theorem ret_int {k : IntKind} {a b : Int} (h : a = b) : Ending.returned (.int k a) = .returned (.int k b) := by rw [h]

/-- The windows of a frame lie in block g: three numbers a window. -/
def WinsAt (w : World) (g len : Nat) (Z : Nat → Int) : Prop := g < w.heap.size ∧ ∀ j, j < len * 3 → w.cell? ⟨g, j, none⟩ = some (.int .i64 (Z j))
theorem WinsAt.lt {w : World} {g len : Nat} {Z : Nat → Int} (h : WinsAt w g len Z) : g < w.heap.size := h.1
theorem WinsAt.cell {w : World} {g len : Nat} {Z : Nat → Int} (h : WinsAt w g len Z) {i : Nat} (hi : i < len * 3) : w.cell? ⟨g, i, none⟩ = some (.int .i64 (Z i)) := h.2 i hi
theorem WinsAt.of_block {w w' : World} {g len : Nat} {Z : Nat → Int} (h : WinsAt w g len Z) (e : w'.heap[g]? = w.heap[g]?) : WinsAt w' g len Z := by
 refine ⟨?_, fun j hj => (World.cell?_of_block (w := w) e).trans (h.2 j hj)⟩
 have h1 := h.1
 rw [Array.getElem?_eq_getElem h1] at e
 exact (Array.getElem?_eq_some_iff.1 e).1
theorem WinsAt.alloc {w : World} {g len : Nat} {Z : Nat → Int} (h : WinsAt w g len Z) (o : Obj) : WinsAt (w.alloc o) g len Z := h.of_block (Below.heap_alloc w o g h.1)
theorem rowIs_wins {w : World} {g t len : Nat} {Z : Nat → Int} (h : w.rowIs g t (len * 3) (fun j => .int .i64 (Z j))) : WinsAt w g len Z := ⟨h.lt, fun _ hj => h.cell hj⟩

set_option maxHeartbeats 400000 in
theorem l1In_any (n lo hi : Int) (w : World) :
  Calls Tryz.prog 78 #[.int .i64 n, .int .i64 lo, .int .i64 hi] w fun e w' => e = .returned (.bool (inB n lo hi)) ∧ w' = w := by
 by_cases h1 : lo ≤ n
 ·by_cases h2 : n ≤ hi
  ·go_enter Tryz.func78, Tryz.ntmps78
   go_wp2
   go_ret
   exact ⟨ret_bool (inB_true h1 h2).symm, rfl⟩
  ·go_enter Tryz.func78, Tryz.ntmps78
   go_wp2
   go_ret
   exact ⟨ret_bool (inB_high (by omega)).symm, rfl⟩
 ·go_enter Tryz.func78, Tryz.ntmps78
  go_wp2
  go_ret
  exact ⟨ret_bool (inB_low (by omega)).symm, rfl⟩

end Go.Proofs.YtkbcplnlehdjfaaGreat

/- Plain texts: at most twenty bytes 32 .. 126, but no semicolon: the specification's test and the program's. -/
namespace Go.Proofs.YtkbcplnlehdjfaaGreat
open Go.RowKit

def byteB (c : UInt8) : Bool := decide (32 ≤ (c.toNat : Int)) && decide ((c.toNat : Int) ≤ 126) && !decide ((c.toNat : Int) = 59)
def plainB (s : ByteArray) : Bool := decide (s.size ≤ 20) && s.data.toList.all byteB
theorem take_snoc (s : ByteArray) (k : Nat) (h : k < s.size) : s.data.toList.take (k + 1) = s.data.toList.take k ++ [s[k]] := by
 rw [List.take_succ_eq_append_getElem (by simpa using h)]; rfl
theorem all_snoc {s : ByteArray} {k : Nat} (h : k < s.size) (ha : (s.data.toList.take k).all byteB = true) (hb : byteB s[k] = true) : (s.data.toList.take (k + 1)).all byteB = true := by
 rw [take_snoc s k h, List.all_append, ha]; simp [hb]
theorem not_all {s : ByteArray} {k : Nat} (h : k < s.size) (hb : byteB s[k] = false) : s.data.toList.all byteB = false := by
 rw [List.all_eq_false]
 exact ⟨s[k], by rw [show s[k] = s.data.toList[k]'(by simpa using h) from rfl]; exact List.getElem_mem _, by simp [hb]⟩
theorem take_all (s : ByteArray) {k : Nat} (h : s.size ≤ k) : s.data.toList.take k = s.data.toList := List.take_of_length_le (by simpa using h)

theorem byteB_low {c : UInt8} (h : (c.toNat : Int) < 32) : byteB c = false := by simp [byteB]; omega
theorem byteB_high {c : UInt8} (h : 126 < (c.toNat : Int)) : byteB c = false := by simp [byteB]; omega
theorem byteB_semi {c : UInt8} (h : (c.toNat : Int) = 59) : byteB c = false := by simp [byteB]; omega
theorem byteB_yes {c : UInt8} (h1 : ¬ (c.toNat : Int) < 32) (h2 : ¬ 126 < (c.toNat : Int)) (h3 : ¬ (c.toNat : Int) = 59) : byteB c = true := by simp [byteB]; omega

set_option maxHeartbeats 1000000 in
theorem l2Plain_any (s : ByteArray) (w : World) (hs : s.size ≤ 1048576) :
  Calls Tryz.prog 181 #[.string s] w fun e w' => e = .returned (.bool (plainB s)) ∧ w' = w := by
 go_enter Tryz.func181, Tryz.ntmps181
 go_wp2
 go_loop [3] (fun i => ∃ k : Nat, k ≤ s.size ∧ i = .int .i64 k ∧ (s.data.toList.take k).all byteB = true) (fun i => s.size - (intOf i).toNat)
 case atStart => exact ⟨0, Nat.zero_le _, rfl, rfl⟩
 case round =>
  obtain ⟨k, hk, rfl, hall⟩ := hrel
  have HA : Hid ((s.data.toList.take k).all byteB = true) := hall
  clear hall
  by_cases hlt : k < s.size
  ·have HY : Hid (byteB s[k] = true → (s.data.toList.take (k + 1)).all byteB = true) := fun h => all_snoc hlt HA.out h
   have HX : Hid (byteB s[k] = false → plainB s = false) := fun h => by simp [plainB, not_all hlt h]
   by_cases h1 : (s[k].toNat : Int) < 32
   ·go_wp2
    go_ret
    exact ⟨ret_bool (HX.out (byteB_low h1)).symm, rfl⟩
   by_cases h2 : 126 < (s[k].toNat : Int)
   ·go_wp2
    go_ret
    exact ⟨ret_bool (HX.out (byteB_high h2)).symm, rfl⟩
   by_cases h3 : (s[k].toNat : Int) = 59
   ·have h3' : ((s[k].toNat : Int) == 59) = true := by simp [h3]
    go_wp2
    go_ret
    exact ⟨ret_bool (HX.out (byteB_semi h3)).symm, rfl⟩
   have h3' : ((s[k].toNat : Int) == 59) = false := by simp [h3]
   have HB : Hid (byteB s[k] = true) := byteB_yes h1 h2 h3
   go_wp2
   go_round
   case rel => exact ⟨k + 1, by omega, by go_num, HY.out HB.out⟩
   case measure => simp [intOf]; omega
  ·have HA' : Hid (s.data.toList.all byteB = true) := by have := HA.out; rwa [take_all s (by omega)] at this
   go_wp2
   go_ret
   exact ⟨ret_bool (by rw [Bool.eq_iff_iff]; simp [plainB, HA'.out]; omega), rfl⟩

set_option maxHeartbeats 1000000 in
theorem isPlain_any (s : ByteArray) (w : World) (hs : s.size ≤ 1048576) :
  Calls Tryz.prog 285 #[.string s] w fun e w' => e = .returned (.bool (plainB s)) ∧ w' = w := by
 by_cases hl : 20 < s.size
 ·have hl' : (20 : Int) < (s.size : Int) := by omega
  go_enter Tryz.func285, Tryz.ntmps285
  go_wp2
  go_ret
  exact ⟨ret_bool (by simp [plainB]; intro h; omega), rfl⟩
 ·have hl' : ¬ (20 : Int) < (s.size : Int) := by omega
  go_enter Tryz.func285, Tryz.ntmps285
  go_wp2
  go_loop [9] (fun i => ∃ k : Nat, k ≤ s.size ∧ i = .int .i64 k ∧ (s.data.toList.take k).all byteB = true) (fun i => s.size - (intOf i).toNat)
  case atStart => exact ⟨0, Nat.zero_le _, rfl, rfl⟩
  case round =>
   obtain ⟨k, hk, rfl, hall⟩ := hrel
   have HA : Hid ((s.data.toList.take k).all byteB = true) := hall
   clear hall
   by_cases hlt : k < s.size
   ·have HY : Hid (byteB s[k] = true → (s.data.toList.take (k + 1)).all byteB = true) := fun h => all_snoc hlt HA.out h
    have HX : Hid (byteB s[k] = false → plainB s = false) := fun h => by simp [plainB, not_all hlt h]
    by_cases h1 : (s[k].toNat : Int) < 32
    ·go_wp2
     go_ret
     exact ⟨ret_bool (HX.out (byteB_low h1)).symm, rfl⟩
    by_cases h2 : 126 < (s[k].toNat : Int)
    ·go_wp2
     go_ret
     exact ⟨ret_bool (HX.out (byteB_high h2)).symm, rfl⟩
    by_cases h3 : (s[k].toNat : Int) = 59
    ·have h3' : ((s[k].toNat : Int) == 59) = true := by simp [h3]
     go_wp2
     go_ret
     exact ⟨ret_bool (HX.out (byteB_semi h3)).symm, rfl⟩
    have h3' : ((s[k].toNat : Int) == 59) = false := by simp [h3]
    have HB : Hid (byteB s[k] = true) := byteB_yes h1 h2 h3
    go_wp2
    go_round
    case rel => exact ⟨k + 1, by omega, by go_num, HY.out HB.out⟩
    case measure => simp [intOf]; omega
   ·have HA' : Hid (s.data.toList.all byteB = true) := by have := HA.out; rwa [take_all s (by omega)] at this
    have hd : decide (s.size ≤ 20) = true := by simp; omega
    go_wp2
    go_ret
    exact ⟨ret_bool (by simp only [plainB, HA'.out, hd]; rfl), rfl⟩

end Go.Proofs.YtkbcplnlehdjfaaGreat

/- What OpOk answers, the specification's: by the kind. -/
namespace Go.Proofs.YtkbcplnlehdjfaaGreat
open Go.RowKit

def isNum (k : Int) : Prop := k = 1 ∨ k = 2 ∨ k = 4 ∨ k = 5 ∨ k = 6 ∨ k = 11 ∨ k = 14 ∨ k = 15 ∨ k = 16
def isWait (k : Int) : Prop := k = 3 ∨ k = 7 ∨ k = 9 ∨ k = 12
def isText (k : Int) : Prop := k = 10 ∨ k = 13
def emptyB (s : ByteArray) : Bool := s.toList.isEmpty
/-- Whether an op is right, by its kind. -/
def opB (k n m : Int) (s : ByteArray) : Bool :=
 if k = 1 ∨ k = 2 ∨ k = 4 ∨ k = 5 ∨ k = 6 ∨ k = 11 ∨ k = 14 ∨ k = 15 ∨ k = 16 then inB n 1 1000 && decide (m = 0) && emptyB s
 else if k = 3 ∨ k = 7 ∨ k = 9 ∨ k = 12 then inB n 1 1000 && inB m (-1) 1000 && emptyB s
 else if k = 8 then inB n 1 1000 && inB m (-1) 1000 && plainB s
 else if k = 10 ∨ k = 13 then inB n 1 1000 && decide (m = 0) && plainB s
 else if k = 17 then decide (n = 0) && decide (m = 0) && emptyB s
 else false

set_option maxHeartbeats 4000000 in
theorem specOp_num (k n m : Int) (s : ByteArray) (w : World) (hk : isNum k) :
  Calls Tryz.prog 213 #[.agg #[.int .i64 k, .int .i64 n, .int .i64 m, .string s]] w fun e w' => e = .returned (.bool (opB k n m s)) ∧ Below w.heap.size w w' := by
 rcases hk with rfl | rfl | rfl | rfl | rfl | rfl | rfl | rfl | rfl
 all_goals
  simp only [opB, Int.reduceEq, or_true, or_false, or_self, if_true, if_false]
  go_enter Tryz.func213, Tryz.ntmps213
  go_wp2_with (go_at_call 78; refine (l1In_any _ _ _ _).mono ?_; rintro e w' ⟨rfl, rfl⟩)
  all_goals go_ret
  all_goals exact ⟨ret_bool (by simp_all [emptyB]), by go_grown⟩

set_option maxHeartbeats 4000000 in
theorem specOp_wait (k n m : Int) (s : ByteArray) (w : World) (hk : isWait k) :
  Calls Tryz.prog 213 #[.agg #[.int .i64 k, .int .i64 n, .int .i64 m, .string s]] w fun e w' => e = .returned (.bool (opB k n m s)) ∧ Below w.heap.size w w' := by
 rcases hk with rfl | rfl | rfl | rfl
 all_goals
  simp only [opB, Int.reduceEq, or_true, or_false, or_self, if_true, if_false]
  go_enter Tryz.func213, Tryz.ntmps213
  go_wp2_with (go_at_call 78; refine (l1In_any _ _ _ _).mono ?_; rintro e w' ⟨rfl, rfl⟩)
  all_goals go_ret
  all_goals exact ⟨ret_bool (by simp_all [emptyB]), by go_grown⟩

set_option maxHeartbeats 4000000 in
theorem specOp_text (k n m : Int) (s : ByteArray) (w : World) (hs : s.size ≤ 1048576) (hk : isText k) :
  Calls Tryz.prog 213 #[.agg #[.int .i64 k, .int .i64 n, .int .i64 m, .string s]] w fun e w' => e = .returned (.bool (opB k n m s)) ∧ Below w.heap.size w w' := by
 rcases hk with rfl | rfl
 all_goals
  simp only [opB, Int.reduceEq, or_true, or_false, or_self, if_true, if_false]
  go_enter Tryz.func213, Tryz.ntmps213
  go_wp2_with (first | (go_at_call 78; refine (l1In_any _ _ _ _).mono ?_; rintro e w' ⟨rfl, rfl⟩) | (go_at_call 181; refine (l2Plain_any _ _ hs).mono ?_; rintro e w' ⟨rfl, rfl⟩))
  all_goals go_ret
  all_goals exact ⟨ret_bool (by simp_all), by go_grown⟩

set_option maxHeartbeats 4000000 in
theorem specOp_rest (k n m : Int) (s : ByteArray) (w : World) (hs : s.size ≤ 1048576) (hk : k = 8 ∨ k = 17) :
  Calls Tryz.prog 213 #[.agg #[.int .i64 k, .int .i64 n, .int .i64 m, .string s]] w fun e w' => e = .returned (.bool (opB k n m s)) ∧ Below w.heap.size w w' := by
 rcases hk with rfl | rfl
 all_goals
  simp only [opB, Int.reduceEq, or_self, if_true, if_false]
  go_enter Tryz.func213, Tryz.ntmps213
  go_wp2_with (first | (go_at_call 78; refine (l1In_any _ _ _ _).mono ?_; rintro e w' ⟨rfl, rfl⟩) | (go_at_call 181; refine (l2Plain_any _ _ hs).mono ?_; rintro e w' ⟨rfl, rfl⟩))
  all_goals go_ret
  all_goals exact ⟨ret_bool (by simp_all [emptyB]), by go_grown⟩

theorem opB_none {k n m : Int} {s : ByteArray} (h : ¬ (1 ≤ k ∧ k ≤ 17)) : opB k n m s = false := by
 unfold opB
 rw [if_neg (by omega), if_neg (by omega), if_neg (by omega), if_neg (by omega), if_neg (by omega)]

set_option maxHeartbeats 4000000 in
theorem specOp_none (k n m : Int) (s : ByteArray) (w : World) (hk : ¬ (1 ≤ k ∧ k ≤ 17)) :
  Calls Tryz.prog 213 #[.agg #[.int .i64 k, .int .i64 n, .int .i64 m, .string s]] w fun e w' => e = .returned (.bool (opB k n m s)) ∧ Below w.heap.size w w' := by
 rw [opB_none hk]
 have e1 : (k == 1) = false := by simp; omega
 have e2 : (k == 2) = false := by simp; omega
 have e3 : (k == 3) = false := by simp; omega
 have e4 : (k == 4) = false := by simp; omega
 have e5 : (k == 5) = false := by simp; omega
 have e6 : (k == 6) = false := by simp; omega
 have e7 : (k == 7) = false := by simp; omega
 have e8 : (k == 8) = false := by simp; omega
 have e9 : (k == 9) = false := by simp; omega
 have e10 : (k == 10) = false := by simp; omega
 have e11 : (k == 11) = false := by simp; omega
 have e12 : (k == 12) = false := by simp; omega
 have e13 : (k == 13) = false := by simp; omega
 have e14 : (k == 14) = false := by simp; omega
 have e15 : (k == 15) = false := by simp; omega
 have e16 : (k == 16) = false := by simp; omega
 have e17 : (k == 17) = false := by simp; omega
 go_enter Tryz.func213, Tryz.ntmps213
 go_wp2_with (go_at_call 78; refine (l1In_any _ _ _ _).mono ?_; rintro e w' ⟨rfl, rfl⟩)
 go_ret
 exact ⟨rfl, by go_grown⟩

theorem specOpOk_any (k n m : Int) (s : ByteArray) (w : World) (hs : s.size ≤ 1048576) :
  Calls Tryz.prog 213 #[.agg #[.int .i64 k, .int .i64 n, .int .i64 m, .string s]] w fun e w' => e = .returned (.bool (opB k n m s)) ∧ Below w.heap.size w w' := by
 by_cases h0 : 1 ≤ k ∧ k ≤ 17
 ·by_cases h1 : isNum k
  ·exact specOp_num k n m s w h1
  by_cases h2 : isWait k
  ·exact specOp_wait k n m s w h2
  by_cases h3 : isText k
  ·exact specOp_text k n m s w hs h3
  exact specOp_rest k n m s w hs (by unfold isNum at h1; unfold isWait at h2; unfold isText at h3; omega)
 ·exact specOp_none k n m s w h0

end Go.Proofs.YtkbcplnlehdjfaaGreat

/- An op as data. -/
namespace Go.Proofs.YtkbcplnlehdjfaaGreat
open Go.RowKit

/-- An op: kind, two numbers, a text. -/
abbrev OpD := Int × Int × Int × ByteArray
def opOk (o : OpD) : Bool := opB o.1 o.2.1 o.2.2.1 o.2.2.2

end Go.Proofs.YtkbcplnlehdjfaaGreat

/- Rows of values in memory, and kinds of things that lie in rows. -/
namespace Go.Proofs.YtkbcplnlehdjfaaGreat
open Go.RowKit

/-- Values lie one behind the other from an address on; none may lie nowhere. -/
def Row (w : World) (a : Option Addr) (xs : List Value) : Prop := ∀ (j : Nat) (u : Value), xs[j]? = some u → ∃ g, a = some ⟨g, 0, none⟩ ∧ w.cell? ⟨g, j, none⟩ = some u

section
variable {w w' : World} {a : Option Addr} {xs : List Value}
theorem Row.nothing (w : World) (a : Option Addr) : Row w a [] := fun j u h => by simp at h
theorem Row.same (h : Row w a xs) (hs : ∀ g, a = some ⟨g, 0, none⟩ → w'.heap[g]? = w.heap[g]?) : Row w' a xs := fun j u hu => by
 obtain ⟨g, e, hc⟩ := h j u hu
 exact ⟨g, e, (World.cell?_of_block (w := w) (a := ⟨g, j, none⟩) (hs g e)).trans hc⟩
theorem Row.below (h : Row w a xs) (hb : Below w.heap.size w w') : Row w' a xs := fun j u hu => by
 obtain ⟨g, e, hc⟩ := h j u hu
 exact ⟨g, e, (hb.cell (p := ⟨g, j, none⟩) (block_lt_of_cell hc)).trans hc⟩
theorem Row.low {base : Nat} (h : Row w a xs) (ha : ∀ q, a = some q → q.block < base) (hb : Below base w w') : Row w' a xs := h.same fun g e => hb.block g (ha _ e)
theorem Row.drew (h : Row w a xs) : Row w.drew a xs := h
end

/-- The same of a slice that came in, which may begin anywhere. -/
def Src (w : World) (a : Option Addr) (xs : List Value) : Prop := ∀ (j : Nat) (u : Value), xs[j]? = some u → ∃ b off, a = some ⟨b, off, none⟩ ∧ w.cell? ⟨b, off + j, none⟩ = some u
theorem Src.below {w w' : World} {a : Option Addr} {xs : List Value} (h : Src w a xs) (hb : Below w.heap.size w w') : Src w' a xs := fun j u hu => by
 obtain ⟨b, off, e, hc⟩ := h j u hu
 exact ⟨b, off, e, (hb.cell (p := ⟨b, off + j, none⟩) (block_lt_of_cell hc)).trans hc⟩

/-- A kind of things: the cells of each, and the rows that it names. -/
structure Kind (α : Type) where
 n : Nat
 vals : α → List Value
 kids : α → List (Option Addr × List Value)
 pos : 0 < n
 len : ∀ x, (vals x).length = n

section
variable {α : Type} (K : Kind α)
def Kind.flat (l : List α) : List Value := l.flatMap K.vals
theorem Kind.flat_length (l : List α) : (K.flat l).length = l.length * K.n := by
 induction l with
 | nil => simp [Kind.flat]
 | cons x r ih =>
  show (K.vals x ++ K.flat r).length = _
  rw [List.length_append, ih, K.len, List.length_cons, Nat.succ_mul]
  omega
theorem Kind.flat_get {l : List α} {i : Nat} {x : α} (hx : l[i]? = some x) {j : Nat} (hj : j < K.n) : (K.flat l)[i * K.n + j]? = (K.vals x)[j]? := by
 induction l generalizing i with
 | nil => simp at hx
 | cons y r ih =>
  show (K.vals y ++ K.flat r)[_]? = _
  cases i with
  | zero =>
   simp at hx
   subst hx
   rw [Nat.zero_mul, Nat.zero_add, List.getElem?_append_left (by rw [K.len]; exact hj)]
  | succ i =>
   have hx' : r[i]? = some x := by simpa using hx
   rw [List.getElem?_append_right (by rw [K.len, Nat.succ_mul]; omega), K.len, show (i + 1) * K.n + j - K.n = i * K.n + j by rw [Nat.succ_mul]; omega]
   exact ih hx'
theorem Kind.flat_append (l r : List α) : K.flat (l ++ r) = K.flat l ++ K.flat r := List.flatMap_append
theorem Kind.flat_one (x : α) : K.flat [x] = K.vals x := by simp [Kind.flat]
theorem Kind.flat_take (l : List α) (k : Nat) (hk : k ≤ l.length) : (K.flat l).take (k * K.n) = K.flat (l.take k) := by
 have e : K.flat l = K.flat (l.take k) ++ K.flat (l.drop k) := by rw [← K.flat_append, List.take_append_drop]
 have hl : (K.flat (l.take k)).length = k * K.n := by rw [K.flat_length, List.length_take, Nat.min_eq_left hk]
 rw [e, List.take_append_of_le_length (by omega), ← hl, List.take_length]

/-- A list of things lies from an address on, and each row that one of them names. -/
def Kind.Lies (w : World) (a : Option Addr) (l : List α) : Prop := Row w a (K.flat l) ∧ ∀ x ∈ l, ∀ r ∈ K.kids x, Row w r.1 r.2
variable {K}
theorem Kind.Lies.at {w : World} {a : Option Addr} {l : List α} (h : K.Lies w a l) {i : Nat} {x : α} (hx : l[i]? = some x) :
  ∃ g, a = some ⟨g, 0, none⟩ ∧ ∀ (j : Nat) (u : Value), (K.vals x)[j]? = some u → w.cell? ⟨g, i * K.n + j, none⟩ = some u := by
 have h0 : ∃ u, (K.vals x)[0]? = some u := ⟨_, List.getElem?_eq_getElem (by rw [K.len]; exact K.pos)⟩
 obtain ⟨u0, hu0⟩ := h0
 obtain ⟨g, e, _⟩ := h.1 (i * K.n + 0) u0 ((K.flat_get hx K.pos).trans hu0)
 refine ⟨g, e, fun j u hu => ?_⟩
 have hj : j < K.n := by
  rw [← K.len x]
  exact (List.getElem?_eq_some_iff.1 hu).1
 obtain ⟨g', e', hc⟩ := h.1 (i * K.n + j) u ((K.flat_get hx hj).trans hu)
 rw [e] at e'
 cases e'
 exact hc
theorem Kind.Lies.kid {w : World} {a : Option Addr} {l : List α} (h : K.Lies w a l) {i : Nat} {x : α} (hx : l[i]? = some x) {r : Option Addr × List Value} (hr : r ∈ K.kids x) : Row w r.1 r.2 := h.2 x (List.mem_of_getElem? hx) r hr
variable (K) in
def Kind.Came (w : World) (a : Option Addr) (l : List α) : Prop := Src w a (K.flat l) ∧ ∀ x ∈ l, ∀ r ∈ K.kids x, Src w r.1 r.2
theorem Kind.Came.at {w : World} {a : Option Addr} {l : List α} (h : K.Came w a l) {i : Nat} {x : α} (hx : l[i]? = some x) :
  ∃ b off, a = some ⟨b, off, none⟩ ∧ ∀ (j : Nat) (u : Value), (K.vals x)[j]? = some u → w.cell? ⟨b, off + i * K.n + j, none⟩ = some u := by
 have h0 : ∃ u, (K.vals x)[0]? = some u := ⟨_, List.getElem?_eq_getElem (by rw [K.len]; exact K.pos)⟩
 obtain ⟨u0, hu0⟩ := h0
 obtain ⟨b, off, e, _⟩ := h.1 (i * K.n + 0) u0 ((K.flat_get hx K.pos).trans hu0)
 refine ⟨b, off, e, fun j u hu => ?_⟩
 have hj : j < K.n := by
  rw [← K.len x]
  exact (List.getElem?_eq_some_iff.1 hu).1
 obtain ⟨b', off', e', hc⟩ := h.1 (i * K.n + j) u ((K.flat_get hx hj).trans hu)
 rw [e] at e'
 cases e'
 rw [Nat.add_assoc]
 exact hc
theorem Kind.Came.kid {w : World} {a : Option Addr} {l : List α} (h : K.Came w a l) {i : Nat} {x : α} (hx : l[i]? = some x) {r : Option Addr × List Value} (hr : r ∈ K.kids x) : Src w r.1 r.2 := h.2 x (List.mem_of_getElem? hx) r hr
theorem Kind.Came.below {w w' : World} {a : Option Addr} {l : List α} (h : K.Came w a l) (hb : Below w.heap.size w w') : K.Came w' a l := ⟨h.1.below hb, fun x hx r hr => (h.2 x hx r hr).below hb⟩
theorem Kind.Lies.below {w w' : World} {a : Option Addr} {l : List α} (h : K.Lies w a l) (hb : Below w.heap.size w w') : K.Lies w' a l := ⟨h.1.below hb, fun x hx r hr => (h.2 x hx r hr).below hb⟩
end

/-- Ops, four cells each. -/
def opVals (o : OpD) : List Value := [.int .i64 o.1, .int .i64 o.2.1, .int .i64 o.2.2.1, .string o.2.2.2]
def opK : Kind OpD := ⟨4, opVals, fun _ => [], by decide, fun _ => rfl⟩
/-- Texts, a cell each. -/
def strK : Kind ByteArray := ⟨1, fun s => [.string s], fun _ => [], by decide, fun _ => rfl⟩

end Go.Proofs.YtkbcplnlehdjfaaGreat

/- Maps from numbers to pointers. -/
namespace Go.Proofs.YtkbcplnlehdjfaaGreat
open Go.RowKit Go.Maps

/-- A pointer to a block's beginning reads as the block's number. -/
def ptrR (v : Value) : Option (DataW Unit × List MemPlace) := match v with
 | .pointer (some ⟨g, 0, none⟩) => some (.lit (.int .i64 g), [])
 | _ => none
def ptrV (g : Nat) : Value := .pointer (some ⟨g, 0, none⟩)
def ptrO : Option Nat → Value
 | none => .pointer none
 | some g => ptrV g
theorem ptrR_mk (g : Nat) : ptrR (ptrV g) = some (.lit (.int .i64 g), []) := rfl
theorem ptrR_inv {v : Value} {z : DataW Unit × List MemPlace} (h : ptrR v = some z) : ∃ g : Nat, v = ptrV g ∧ z = (.lit (.int .i64 g), []) := by
 unfold ptrR at h
 split at h
 ·rename_i g
  cases h
  exact ⟨g, rfl, rfl⟩
 ·cases h

/-- Keys and blocks, in the order of the keys. -/
abbrev MapL := List (Int × Nat)
def encP (p : Int × Nat) : Lit × DataW Unit := (.int .i64 p.1, .lit (.int .i64 p.2))
def mapD (m : MapL) : DataW Unit := .map (m.map encP)
def Rises (m : MapL) : Prop := m.Pairwise (fun p q => p.1 < q.1)
def lookM (m : MapL) (k : Int) : Option Nat := (m.find? (fun p => p.1 == k)).map (·.2)
def insM (p : Int × Nat) : MapL → MapL
 | [] => [p]
 | y :: r => if p.1 < y.1 then p :: y :: r else y :: insM p r
/-- Block b is that map. -/
def MapIs (w : World) (b : Nat) (m : MapL) : Prop := w.ownsMap Tryz.prog 2 ptrR b m.length (mapD m) ∧ Rises m

theorem keyed64 : Keyed Tryz.prog 2 := int_keyed Tryz.underlying2
theorem key64 {k : Int} (hk : (Lit.int .i64 k).wf = true) : keyOf Tryz.prog 2 (.int .i64 k) = some (.int .i64 k) := keyOf_int_mk Tryz.underlying2 hk

theorem sameKey_int (a b : Int) : (Lit.int .i64 a).sameKey (.int .i64 b) = (a == b) := by
 simp [Lit.sameKey]
 by_cases h : a = b <;> simp [h]
theorem find_enc (m : MapL) (k : Int) : (m.map encP).find? (fun p => p.1.sameKey (.int .i64 k)) = (m.find? (fun p => p.1 == k)).map encP := by
 induction m with
 | nil => rfl
 | cons p r ih =>
  simp only [List.map_cons, List.find?_cons]
  have e : (encP p).1.sameKey (.int .i64 k) = (p.1 == k) := sameKey_int _ _
  rw [e]
  cases (p.1 == k)
  ·exact ih
  ·rfl
theorem atKey_map (m : MapL) (k : Int) (z : DataW Unit) : (mapD m).atKey (.int .i64 k) z = match lookM m k with | some g => .lit (.int .i64 g) | none => z := by
 simp only [mapD, DataW.atKey, find_enc]
 unfold lookM
 cases m.find? (fun p => p.1 == k) <;> rfl
theorem size_map (m : MapL) : Maps.size (mapD m) = m.length := by simp [Maps.size, mapD]

section
variable {w w' : World} {b : Nat} {m : MapL}
theorem MapIs.lt (h : MapIs w b m) : b < w.heap.size := h.1.lt
theorem MapIs.same (h : MapIs w b m) (hs : w'.heap[b]? = w.heap[b]?) : MapIs w' b m := by
 obtain ⟨⟨es, clock, hb, r⟩, h2⟩ := h
 exact ⟨⟨es, clock, hs.trans hb, r⟩, h2⟩
theorem MapIs.below (h : MapIs w b m) (hb : Below w.heap.size w w') : MapIs w' b m := h.same (hb.block b h.lt)
theorem MapIs.made (w : World) : MapIs (w.alloc (.map #[] 0)) w.heap.size [] := ⟨World.ownsMap_made w Tryz.prog 2 ptrR, List.Pairwise.nil⟩
theorem MapIs.of_empty (hb : w.heap[b]? = some (.map #[] 0)) : MapIs w b [] := ⟨⟨#[], 0, hb, ⟨by simp, MapKept.stamped_empty 0, by simp⟩, by simp, rfl⟩, List.Pairwise.nil⟩

theorem MapIs.look (h : MapIs w b m) {t e : TypeId} (ht : Tryz.prog.underlying t = some (.map 2 e)) (hz : (zeroValue e).run Tryz.prog w = .ok (.pointer none) w) {k : Int} (hk : (Lit.int .i64 k).wf = true) (c : Bool) :
  (Instr.lookup t (.map (some b)) (.int .i64 k) c).run Tryz.prog w = .ok (if c then .tuple #[ptrO (lookM m k), .bool (lookM m k).isSome] else ptrO (lookM m k)) w := by
 obtain ⟨⟨es, clock, hb, F, _, hD⟩, _⟩ := h
 rcases Maps.fit_look c keyed64 ht hz hb F (key64 hk) with ⟨hrun, _, hat⟩ | ⟨e0, y, _, _, hrun, hRv, hat, _⟩
 ·have h1 := hat .nil
  rw [← hD, atKey_map] at h1
  have h2 := hat (.lit (.bool true))
  rw [← hD, atKey_map] at h2
  cases hl : lookM m k with
  | none => exact hrun
  | some g => rw [hl] at h1; cases h1
 ·obtain ⟨g, hv, rfl⟩ := ptrR_inv hRv
  have h1 := hat .nil
  rw [← hD, atKey_map] at h1
  cases hl : lookM m k with
  | none => rw [hl] at h1; cases h1
  | some g' =>
   rw [hl] at h1
   simp only [DataW.lit.injEq, Lit.int.injEq, Int.natCast_inj, true_and] at h1
   rw [hrun, hv, h1]
   cases c <;> rfl

theorem MapIs.len (h : MapIs w b m) {t e : TypeId} (ht : Tryz.prog.underlying t = some (.map 2 e)) (ty : TypeId) : (Builtin.len_ #[t] ty #[.map (some b)]).run Tryz.prog w = .ok (.int .i64 (m.length : Int)) w := by
 have := h.1.len ht ty
 rwa [size_map] at this

theorem insM_length (p : Int × Nat) (m : MapL) : (insM p m).length = m.length + 1 := by
 induction m with
 | nil => rfl
 | cons y r ih =>
  unfold insM
  split
  ·rfl
  ·simp [ih]
theorem insM_mem {p q : Int × Nat} {m : MapL} : q ∈ insM p m ↔ q = p ∨ q ∈ m := by
 induction m with
 | nil => simp [insM]
 | cons y r ih =>
  unfold insM
  split
  ·simp
  ·simp only [List.mem_cons, ih]
   constructor
   ·rintro (h | h | h)
    ·exact .inr (.inl h)
    ·exact .inl h
    ·exact .inr (.inr h)
   ·rintro (h | h | h)
    ·exact .inr (.inl h)
    ·exact .inl h
    ·exact .inr (.inr h)
theorem insM_last {p : Int × Nat} {m : MapL} (h : ∀ q ∈ m, q.1 < p.1) : insM p m = m ++ [p] := by
 induction m with
 | nil => rfl
 | cons y r ih =>
  have := h y (by simp)
  unfold insM
  rw [if_neg (by omega), ih (fun q hq => h q (by simp [hq]))]
  rfl
theorem insM_rises {p : Int × Nat} {m : MapL} (h : Rises m) (hn : lookM m p.1 = none) : Rises (insM p m) := by
 induction m with
 | nil => exact List.pairwise_singleton _ _
 | cons y r ih =>
  obtain ⟨h1, h2⟩ := List.pairwise_cons.1 h
  have hy : ¬ y.1 = p.1 := by
   intro e
   simp [lookM, e] at hn
  have hn' : lookM r p.1 = none := by
   unfold lookM at hn ⊢
   rw [List.find?_cons] at hn
   have : (y.1 == p.1) = false := by simp [hy]
   rw [this] at hn
   exact hn
  unfold insM
  split
  ·rename_i hlt
   refine List.pairwise_cons.2 ⟨fun q hq => ?_, h⟩
   rcases List.mem_cons.1 hq with rfl | hq
   ·exact hlt
   ·exact Int.lt_trans hlt (h1 q hq)
  ·rename_i hge
   refine List.pairwise_cons.2 ⟨fun q hq => ?_, ih h2 hn'⟩
   rcases insM_mem.1 hq with rfl | hq
   ·omega
   ·exact h1 q hq
theorem put_map {m : MapL} {k : Int} {g : Nat} (hn : lookM m k = none) : (mapD m).put (.int .i64 k) (.lit (.int .i64 g)) = mapD (insM (k, g) m) := by
 have hf : (m.map encP).filter (fun p => !p.1.sameKey (.int .i64 k)) = m.map encP := by
  refine List.filter_eq_self.2 (fun p hp => ?_)
  obtain ⟨q, hq, rfl⟩ := List.mem_map.1 hp
  have e : (encP q).1.sameKey (.int .i64 k) = (q.1 == k) := sameKey_int _ _
  rw [e]
  have : m.find? (fun p => p.1 == k) = none := by simpa [lookM] using hn
  have := List.find?_eq_none.1 this q hq
  simpa using this
 show DataW.map (DataW.insert _ ((m.map encP).filter _)) = _
 rw [hf]
 show DataW.map (DataW.insert (encP (k, g)) (m.map encP)) = .map ((insM (k, g) m).map encP)
 congr 1
 induction m with
 | nil => rfl
 | cons y r ih =>
  unfold insM
  simp only [List.map_cons, DataW.insert]
  have e : (encP (k, g)).1.before (encP y).1 = decide (k < y.1) := rfl
  rw [e]
  by_cases hlt : k < y.1
  ·simp [hlt]
  ·have hn' : lookM r k = none := by
    unfold lookM at hn ⊢
    rw [List.find?_cons] at hn
    split at hn
    ·cases hn
    ·exact hn
   have hf' : (r.map encP).filter (fun p => !p.1.sameKey (.int .i64 k)) = r.map encP := by
    simp only [List.map_cons, List.filter_cons] at hf
    split at hf
    ·exact (List.cons.inj hf).2
    ·have := congrArg List.length hf
     have h2 := List.length_filter_le (fun p : Lit × DataW Unit => !p.1.sameKey (.int .i64 k)) (r.map encP)
     simp only [List.length_cons] at this
     omega
   simp only [hlt, decide_false, Bool.false_eq_true, if_false]
   rw [ih hn' hf']
   simp

theorem MapIs.put (h : MapIs w b m) {t e : TypeId} (ht : Tryz.prog.underlying t = some (.map 2 e)) {k : Int} (hk : (Lit.int .i64 k).wf = true) (g : Nat) (hn : lookM m k = none) (hm : m.length ≤ 1048576) :
  ∃ w', (Instr.mapUpdate t (.map (some b)) (.int .i64 k) (ptrV g)).run Tryz.prog w = .ok () w' ∧ MapIs w' b (insM (k, g) m) ∧ w.mapTurned w' b := by
 obtain ⟨w', hrun, ho, ht'⟩ := h.1.store keyed64 ht (Nat.lt_of_le_of_lt hm (by decide)) (key64 hk) (ptrR_mk g)
 refine ⟨w', hrun, ⟨?_, insM_rises h.2 hn⟩, ht'⟩
 rw [put_map hn] at ho
 rwa [insM_length]
end

theorem lookM_none {m : MapL} {k : Int} : lookM m k = none ↔ k ∉ m.map (·.1) := by
 unfold lookM
 rw [Option.map_eq_none_iff, List.find?_eq_none]
 constructor
 ·intro h hm
  obtain ⟨p, hp, e⟩ := List.mem_map.1 hm
  exact h p hp (by simp [e])
 ·intro h p hp e
  exact h (List.mem_map.2 ⟨p, hp, by simpa using e⟩)
theorem lookM_isSome (m : MapL) (k : Int) : (lookM m k).isSome = decide (k ∈ m.map (·.1)) := by
 by_cases h : k ∈ m.map (·.1)
 ·rw [decide_eq_true h]
  cases hl : lookM m k with
  | none => exact absurd h (lookM_none.1 hl)
  | some g => rfl
 ·rw [decide_eq_false h, lookM_none.2 h]
  rfl
theorem lookM_mem {m : MapL} (hr : Rises m) {p : Int × Nat} (hp : p ∈ m) : lookM m p.1 = some p.2 := by
 induction m with
 | nil => cases hp
 | cons y r ih =>
  obtain ⟨h1, h2⟩ := List.pairwise_cons.1 hr
  rcases List.mem_cons.1 hp with rfl | hp
  ·simp [lookM]
  ·have := h1 p hp
   have hne : (y.1 == p.1) = false := by
    have : ¬ y.1 = p.1 := by omega
    simp [this]
   have := ih h2 hp
   unfold lookM at this ⊢
   rw [List.find?_cons, hne]
   exact this
theorem mem_of_lookM {m : MapL} {k : Int} {g : Nat} (h : lookM m k = some g) : (k, g) ∈ m := by
 unfold lookM at h
 obtain ⟨p, hp, e⟩ := Option.map_eq_some_iff.1 h
 have h1 := List.mem_of_find?_eq_some hp
 have h2 := List.find?_some hp
 simp at h2
 rw [← h2, ← e]
 exact h1

end Go.Proofs.YtkbcplnlehdjfaaGreat

/- The cells of a program, four an op; a row of ops that is filled one by one. -/
namespace Go.Proofs.YtkbcplnlehdjfaaGreat
open Go.RowKit

/-- The cells of a program: four an op. -/
def opV (K N M : Nat → Int) (S : Nat → ByteArray) (j : Nat) : Value := if j % 4 = 0 then .int .i64 (K (j / 4)) else if j % 4 = 1 then .int .i64 (N (j / 4)) else if j % 4 = 2 then .int .i64 (M (j / 4)) else .string (S (j / 4))
def zeroV (j : Nat) : Value := if j % 4 = 3 then .string ⟨#[]⟩ else .int .i64 0
theorem opV_0 (K N M : Nat → Int) (S : Nat → ByteArray) (i : Nat) : opV K N M S (i * 4) = .int .i64 (K i) := by
 have e : i * 4 % 4 = 0 := by omega
 have d : i * 4 / 4 = i := by omega
 simp [opV, d]
theorem opV_1 (K N M : Nat → Int) (S : Nat → ByteArray) (i : Nat) : opV K N M S (i * 4 + 1) = .int .i64 (N i) := by
 have e : (i * 4 + 1) % 4 = 1 := by omega
 have d : (i * 4 + 1) / 4 = i := by omega
 simp [opV, e, d]
theorem opV_2 (K N M : Nat → Int) (S : Nat → ByteArray) (i : Nat) : opV K N M S (i * 4 + 2) = .int .i64 (M i) := by
 have e : (i * 4 + 2) % 4 = 2 := by omega
 have d : (i * 4 + 2) / 4 = i := by omega
 simp [opV, e, d]
theorem opV_3 (K N M : Nat → Int) (S : Nat → ByteArray) (i : Nat) : opV K N M S (i * 4 + 3) = .string (S i) := by
 have e : (i * 4 + 3) % 4 = 3 := by omega
 have d : (i * 4 + 3) / 4 = i := by omega
 simp [opV, e, d]

theorem opInfo : (Tryz.prog.info? 134).map (fun i => (i.zero, i.size, i.bytes)) = some (some (.agg #[.int .i64 0, .int .i64 0, .int .i64 0, .string ⟨#[]⟩]), 4, 40) := by kernel_rfl
theorem make_ops (n : Nat) (hn : n ≤ 1048576) (w : World) :
  (Instr.makeSlice 37 (.int .i64 (n : Int)) (.int .i64 (n : Int))).run Tryz.prog w = .ok (.slice (some ⟨w.heap.size, 0, none⟩) n n) (w.alloc (.cells (madeCells #[.int .i64 0, .int .i64 0, .int .i64 0, .string ⟨#[]⟩] (n * 4)) 134)) := by
 have h := opInfo
 obtain ⟨i, hi, e⟩ := Option.map_eq_some_iff.1 h
 simp only [Prod.mk.injEq] at e
 obtain ⟨e1, e2, e3⟩ := e
 have := run_make (P := Tryz.prog) w 37 134 i _ Tryz.underlying37 hi e1 .i64 .i64 n n (by omega) (by omega) (by rw [e3]; omega) (by omega)
 rw [this, e2]
 simp [Value.cells]
theorem rowIs_below {w w' : World} {b t n : Nat} {f : Nat → Value} (h : w.rowIs b t n f) (hb : Below w.heap.size w w') : w'.rowIs b t n f := h.of_block (hb.block b h.lt)
theorem row_zero (w : World) (n : Nat) : (w.alloc (.cells (madeCells #[.int .i64 0, .int .i64 0, .int .i64 0, .string ⟨#[]⟩] (n * 4)) 134)).rowIs w.heap.size 134 (n * 4) zeroV := by
 have h := World.rowIs_alloc w (madeCells #[.int .i64 0, .int .i64 0, .int .i64 0, .string ⟨#[]⟩] (n * 4)) 134 zeroV (fun i hi => by
  rw [size_madeCells] at hi
  have h3 : i % 4 = 0 ∨ i % 4 = 1 ∨ i % 4 = 2 ∨ i % 4 = 3 := by omega
  simp only [madeCells, Array.getElem?_map]
  rw [Array.getElem?_eq_getElem (by simpa using hi)]
  rcases h3 with e | e | e | e <;> simp [e, zeroV])
 rwa [size_madeCells] at h
/-- One op more is stored. -/
theorem row_step {wr : World} {g n k : Nat} {f : Nat → Value} (h : wr.rowIs g 134 (n * 4) (fun j => if j < k * 4 then f j else zeroV j)) :
  ((((wr.setCell ⟨g, k * 4, none⟩ (f (k * 4))).setCell ⟨g, k * 4 + 1, none⟩ (f (k * 4 + 1))).setCell ⟨g, k * 4 + 2, none⟩ (f (k * 4 + 2))).setCell ⟨g, k * 4 + 3, none⟩ (f (k * 4 + 3))).rowIs g 134 (n * 4) (fun j => if j < (k + 1) * 4 then f j else zeroV j) := by
 refine ((((h.set (k * 4) _).set (k * 4 + 1) _).set (k * 4 + 2) _).set (k * 4 + 3) _).congr ?_
 intro j _
 by_cases e3 : j = k * 4 + 3
 ·subst e3; rw [if_pos rfl, if_pos (by omega)]
 by_cases e2 : j = k * 4 + 2
 ·subst e2; rw [if_neg (by omega), if_pos rfl, if_pos (by omega)]
 by_cases e1 : j = k * 4 + 1
 ·subst e1; rw [if_neg (by omega), if_neg (by omega), if_pos rfl, if_pos (by omega)]
 by_cases e0 : j = k * 4
 ·subst e0; rw [if_neg (by omega), if_neg (by omega), if_neg (by omega), if_pos rfl, if_pos (by omega)]
 simp only [e0, e1, e2, e3, if_false]
 by_cases hj : j < k * 4
 ·rw [if_pos hj, if_pos (by omega)]
 ·rw [if_neg hj, if_neg (by omega)]

end Go.Proofs.YtkbcplnlehdjfaaGreat

/- The ops of a program in a block; whether a program is right. -/
namespace Go.Proofs.YtkbcplnlehdjfaaGreat
open Go.RowKit

/-- The ops of a program lie in block g. -/
def OpsAt (w : World) (g len : Nat) (K N M : Nat → Int) (S : Nat → ByteArray) : Prop := g < w.heap.size ∧ ∀ j, j < len * 4 → w.cell? ⟨g, j, none⟩ = some (opV K N M S j)
theorem OpsAt.of_block {w w' : World} {g len : Nat} {K N M : Nat → Int} {S : Nat → ByteArray} (h : OpsAt w g len K N M S) (e : w'.heap[g]? = w.heap[g]?) : OpsAt w' g len K N M S := by
 refine ⟨?_, fun j hj => (World.cell?_of_block (w := w) e).trans (h.2 j hj)⟩
 have h1 := h.1
 rw [Array.getElem?_eq_getElem h1] at e
 exact (Array.getElem?_eq_some_iff.1 e).1
theorem OpsAt.below {w w' : World} {g len : Nat} {K N M : Nat → Int} {S : Nat → ByteArray} (h : OpsAt w g len K N M S) (hb : Below w.heap.size w w') : OpsAt w' g len K N M S := h.of_block (hb.block g h.1)
theorem OpsAt.c0 {w : World} {g len : Nat} {K N M : Nat → Int} {S : Nat → ByteArray} (h : OpsAt w g len K N M S) {i : Nat} (hi : i < len) : w.cell? ⟨g, i * 4, none⟩ = some (.int .i64 (K i)) := by rw [← opV_0 K N M S]; exact h.2 _ (by omega)
theorem OpsAt.c1 {w : World} {g len : Nat} {K N M : Nat → Int} {S : Nat → ByteArray} (h : OpsAt w g len K N M S) {i : Nat} (hi : i < len) : w.cell? ⟨g, i * 4 + 1, none⟩ = some (.int .i64 (N i)) := by rw [← opV_1 K N M S]; exact h.2 _ (by omega)
theorem OpsAt.c2 {w : World} {g len : Nat} {K N M : Nat → Int} {S : Nat → ByteArray} (h : OpsAt w g len K N M S) {i : Nat} (hi : i < len) : w.cell? ⟨g, i * 4 + 2, none⟩ = some (.int .i64 (M i)) := by rw [← opV_2 K N M S]; exact h.2 _ (by omega)
theorem OpsAt.c3 {w : World} {g len : Nat} {K N M : Nat → Int} {S : Nat → ByteArray} (h : OpsAt w g len K N M S) {i : Nat} (hi : i < len) : w.cell? ⟨g, i * 4 + 3, none⟩ = some (.string (S i)) := by rw [← opV_3 K N M S]; exact h.2 _ (by omega)
theorem rowIs_ops {w : World} {g t len : Nat} {K N M : Nat → Int} {S : Nat → ByteArray} (h : w.rowIs g t (len * 4) (opV K N M S)) : OpsAt w g len K N M S := ⟨h.lt, fun _ hj => h.cell hj⟩

def opAtB (K N M : Nat → Int) (S : Nat → ByteArray) (i : Nat) : Bool := opB (K i) (N i) (M i) (S i)
/-- Whether a program is right. -/
def progB (len : Nat) (K N M : Nat → Int) (S : Nat → ByteArray) : Bool := decide (1 ≤ len ∧ len ≤ 20 ∧ ∀ i, i < len → opAtB K N M S i = true)
theorem progB_true {len : Nat} {K N M : Nat → Int} {S : Nat → ByteArray} (h : 1 ≤ len ∧ len ≤ 20 ∧ ∀ i, i < len → opAtB K N M S i = true) : progB len K N M S = true := by simp only [progB]; exact decide_eq_true h
theorem progB_false {len : Nat} {K N M : Nat → Int} {S : Nat → ByteArray} (h : ¬ (1 ≤ len ∧ len ≤ 20 ∧ ∀ i, i < len → opAtB K N M S i = true)) : progB len K N M S = false := by simp only [progB]; exact decide_eq_false h

end Go.Proofs.YtkbcplnlehdjfaaGreat

/- Lists of ops in memory. -/
namespace Go.Proofs.YtkbcplnlehdjfaaGreat
open Go.RowKit

def kOf (os : List OpD) (i : Nat) : Int := (os[i]?.getD (0, 0, 0, ⟨#[]⟩)).1
def nOf (os : List OpD) (i : Nat) : Int := (os[i]?.getD (0, 0, 0, ⟨#[]⟩)).2.1
def mOf (os : List OpD) (i : Nat) : Int := (os[i]?.getD (0, 0, 0, ⟨#[]⟩)).2.2.1
def sOf (os : List OpD) (i : Nat) : ByteArray := (os[i]?.getD (0, 0, 0, ⟨#[]⟩)).2.2.2
/-- The ops of a list lie in block g. -/
def ListAt (w : World) (g : Nat) (os : List OpD) : Prop := OpsAt w g os.length (kOf os) (nOf os) (mOf os) (sOf os)
/-- A list of ops, wherever it lies; a list of none may lie nowhere. -/
def LiesO (w : World) (a : Option Addr) (os : List OpD) : Prop := 0 < os.length → ∃ g, a = some ⟨g, 0, none⟩ ∧ ListAt w g os
theorem LiesO.below {w w' : World} {a : Option Addr} {os : List OpD} (h : LiesO w a os) (hb : Below w.heap.size w w') : LiesO w' a os := fun hl => by
 obtain ⟨g, rfl, hw⟩ := h hl
 exact ⟨g, rfl, OpsAt.below hw hb⟩
theorem LiesO.low {w w' : World} {a : Option Addr} {base : Nat} {os : List OpD} (h : LiesO w a os) (ha : ∀ q, a = some q → q.block < base) (hb : Below base w w') : LiesO w' a os := fun hl => by
 obtain ⟨g, rfl, hw⟩ := h hl
 exact ⟨g, rfl, OpsAt.of_block hw (hb.block g (ha _ rfl))⟩

end Go.Proofs.YtkbcplnlehdjfaaGreat

/- The things of a partition as data, and where they lie. (Made by mkpd.py.) -/
namespace Go.Proofs.YtkbcplnlehdjfaaGreat
open Go.RowKit

structure SemD where
 id : Int
 n : Int
 max : Int
def semVals (x : SemD) : List Value := [.int .i64 x.id, .int .i64 x.n, .int .i64 x.max]
def semK : Kind SemD := ⟨3, semVals, fun _ => [], by decide, fun _ => rfl⟩
/-- It lies at the i-th place of block g. -/
def SemD.At (w : World) (g i : Nat) (x : SemD) : Prop := w.cell? ⟨g, i * 3, none⟩ = some (.int .i64 x.id) ∧ w.cell? ⟨g, i * 3 + 1, none⟩ = some (.int .i64 x.n) ∧ w.cell? ⟨g, i * 3 + 2, none⟩ = some (.int .i64 x.max)
theorem sem_at {w : World} {a : Option Addr} {l : List SemD} (h : semK.Lies w a l) {i : Nat} {x : SemD} (hx : l[i]? = some x) : ∃ g, a = some ⟨g, 0, none⟩ ∧ SemD.At w g i x := by
 obtain ⟨g, e, hc⟩ := h.at hx
 exact ⟨g, e, hc 0 _ rfl, hc 1 _ rfl, hc 2 _ rfl⟩

structure EventD where
 id : Int
 up : Bool
def eventVals (x : EventD) : List Value := [.int .i64 x.id, .bool x.up]
def eventK : Kind EventD := ⟨2, eventVals, fun _ => [], by decide, fun _ => rfl⟩
/-- It lies at the i-th place of block g. -/
def EventD.At (w : World) (g i : Nat) (x : EventD) : Prop := w.cell? ⟨g, i * 2, none⟩ = some (.int .i64 x.id) ∧ w.cell? ⟨g, i * 2 + 1, none⟩ = some (.bool x.up)
theorem event_at {w : World} {a : Option Addr} {l : List EventD} (h : eventK.Lies w a l) {i : Nat} {x : EventD} (hx : l[i]? = some x) : ∃ g, a = some ⟨g, 0, none⟩ ∧ EventD.At w g i x := by
 obtain ⟨g, e, hc⟩ := h.at hx
 exact ⟨g, e, hc 0 _ rfl, hc 1 _ rfl⟩

structure BoardD where
 id : Int
 shown : Bool
 text : ByteArray
def boardVals (x : BoardD) : List Value := [.int .i64 x.id, .bool x.shown, .string x.text]
def boardK : Kind BoardD := ⟨3, boardVals, fun _ => [], by decide, fun _ => rfl⟩
/-- It lies at the i-th place of block g. -/
def BoardD.At (w : World) (g i : Nat) (x : BoardD) : Prop := w.cell? ⟨g, i * 3, none⟩ = some (.int .i64 x.id) ∧ w.cell? ⟨g, i * 3 + 1, none⟩ = some (.bool x.shown) ∧ w.cell? ⟨g, i * 3 + 2, none⟩ = some (.string x.text)
theorem board_at {w : World} {a : Option Addr} {l : List BoardD} (h : boardK.Lies w a l) {i : Nat} {x : BoardD} (hx : l[i]? = some x) : ∃ g, a = some ⟨g, 0, none⟩ ∧ BoardD.At w g i x := by
 obtain ⟨g, e, hc⟩ := h.at hx
 exact ⟨g, e, hc 0 _ rfl, hc 1 _ rfl, hc 2 _ rfl⟩

structure BufferP where
 id : Int
 max : Int
 items : List ByteArray
structure BufferD extends BufferP where
 itemsA : Option Addr
 itemsC : Nat
def bufferVals (x : BufferD) : List Value := [.int .i64 x.id, .int .i64 x.max, .slice x.itemsA x.items.length x.itemsC]
def bufferK : Kind BufferD := ⟨3, bufferVals, fun x => [(x.itemsA, strK.flat x.items)], by decide, fun _ => rfl⟩
/-- It lies at the i-th place of block g. -/
def BufferD.At (w : World) (g i : Nat) (x : BufferD) : Prop := w.cell? ⟨g, i * 3, none⟩ = some (.int .i64 x.id) ∧ w.cell? ⟨g, i * 3 + 1, none⟩ = some (.int .i64 x.max) ∧ w.cell? ⟨g, i * 3 + 2, none⟩ = some (.slice x.itemsA x.items.length x.itemsC)
theorem buffer_at {w : World} {a : Option Addr} {l : List BufferD} (h : bufferK.Lies w a l) {i : Nat} {x : BufferD} (hx : l[i]? = some x) : ∃ g, a = some ⟨g, 0, none⟩ ∧ BufferD.At w g i x := by
 obtain ⟨g, e, hc⟩ := h.at hx
 exact ⟨g, e, hc 0 _ rfl, hc 1 _ rfl, hc 2 _ rfl⟩
theorem buffer_items {w : World} {a : Option Addr} {l : List BufferD} (h : bufferK.Lies w a l) {i : Nat} {x : BufferD} (hx : l[i]? = some x) : Row w x.itemsA (strK.flat x.items) := h.kid hx (r := (x.itemsA, strK.flat x.items)) (by simp [bufferK])

structure PortP where
 id : Int
 out : Bool
 queue : Bool
 max : Int
 items : List ByteArray
structure PortD extends PortP where
 itemsA : Option Addr
 itemsC : Nat
def portVals (x : PortD) : List Value := [.int .i64 x.id, .bool x.out, .bool x.queue, .int .i64 x.max, .slice x.itemsA x.items.length x.itemsC]
def portK : Kind PortD := ⟨5, portVals, fun x => [(x.itemsA, strK.flat x.items)], by decide, fun _ => rfl⟩
/-- It lies at the i-th place of block g. -/
def PortD.At (w : World) (g i : Nat) (x : PortD) : Prop := w.cell? ⟨g, i * 5, none⟩ = some (.int .i64 x.id) ∧ w.cell? ⟨g, i * 5 + 1, none⟩ = some (.bool x.out) ∧ w.cell? ⟨g, i * 5 + 2, none⟩ = some (.bool x.queue) ∧ w.cell? ⟨g, i * 5 + 3, none⟩ = some (.int .i64 x.max) ∧ w.cell? ⟨g, i * 5 + 4, none⟩ = some (.slice x.itemsA x.items.length x.itemsC)
theorem port_at {w : World} {a : Option Addr} {l : List PortD} (h : portK.Lies w a l) {i : Nat} {x : PortD} (hx : l[i]? = some x) : ∃ g, a = some ⟨g, 0, none⟩ ∧ PortD.At w g i x := by
 obtain ⟨g, e, hc⟩ := h.at hx
 exact ⟨g, e, hc 0 _ rfl, hc 1 _ rfl, hc 2 _ rfl, hc 3 _ rfl, hc 4 _ rfl⟩
theorem port_items {w : World} {a : Option Addr} {l : List PortD} (h : portK.Lies w a l) {i : Nat} {x : PortD} (hx : l[i]? = some x) : Row w x.itemsA (strK.flat x.items) := h.kid hx (r := (x.itemsA, strK.flat x.items)) (by simp [portK])

structure ProcP where
 id : Int
 prio : Int
 prog : List OpD
 state : Int
 pc : Int
 left : Int
 wake : Int
 on : Int
 held : ByteArray
 got : ByteArray
 code : Int
 since : Int
structure ProcD extends ProcP where
 progA : Option Addr
 progC : Nat
def procVals (x : ProcD) : List Value := [.int .i64 x.id, .int .i64 x.prio, .slice x.progA x.prog.length x.progC, .int .i64 x.state, .int .i64 x.pc, .int .i64 x.left, .int .i64 x.wake, .int .i64 x.on, .string x.held, .string x.got, .int .i64 x.code, .int .i64 x.since]
def procK : Kind ProcD := ⟨12, procVals, fun x => [(x.progA, opK.flat x.prog)], by decide, fun _ => rfl⟩
/-- It lies at the i-th place of block g. -/
def ProcD.At (w : World) (g i : Nat) (x : ProcD) : Prop := w.cell? ⟨g, i * 12, none⟩ = some (.int .i64 x.id) ∧ w.cell? ⟨g, i * 12 + 1, none⟩ = some (.int .i64 x.prio) ∧ w.cell? ⟨g, i * 12 + 2, none⟩ = some (.slice x.progA x.prog.length x.progC) ∧ w.cell? ⟨g, i * 12 + 3, none⟩ = some (.int .i64 x.state) ∧ w.cell? ⟨g, i * 12 + 4, none⟩ = some (.int .i64 x.pc) ∧ w.cell? ⟨g, i * 12 + 5, none⟩ = some (.int .i64 x.left) ∧ w.cell? ⟨g, i * 12 + 6, none⟩ = some (.int .i64 x.wake) ∧ w.cell? ⟨g, i * 12 + 7, none⟩ = some (.int .i64 x.on) ∧ w.cell? ⟨g, i * 12 + 8, none⟩ = some (.string x.held) ∧ w.cell? ⟨g, i * 12 + 9, none⟩ = some (.string x.got) ∧ w.cell? ⟨g, i * 12 + 10, none⟩ = some (.int .i64 x.code) ∧ w.cell? ⟨g, i * 12 + 11, none⟩ = some (.int .i64 x.since)
theorem proc_at {w : World} {a : Option Addr} {l : List ProcD} (h : procK.Lies w a l) {i : Nat} {x : ProcD} (hx : l[i]? = some x) : ∃ g, a = some ⟨g, 0, none⟩ ∧ ProcD.At w g i x := by
 obtain ⟨g, e, hc⟩ := h.at hx
 exact ⟨g, e, hc 0 _ rfl, hc 1 _ rfl, hc 2 _ rfl, hc 3 _ rfl, hc 4 _ rfl, hc 5 _ rfl, hc 6 _ rfl, hc 7 _ rfl, hc 8 _ rfl, hc 9 _ rfl, hc 10 _ rfl, hc 11 _ rfl⟩
theorem proc_prog {w : World} {a : Option Addr} {l : List ProcD} (h : procK.Lies w a l) {i : Nat} {x : ProcD} (hx : l[i]? = some x) : Row w x.progA (opK.flat x.prog) := h.kid hx (r := (x.progA, opK.flat x.prog)) (by simp [procK])

/-- A partition: its numbers, its lists, and where each lies. -/
structure PartD where
 id : Int
 next : Int
 procs : List ProcD
 procA : Option Addr
 procC : Nat
 sems : List SemD
 semA : Option Addr
 semC : Nat
 events : List EventD
 eventA : Option Addr
 eventC : Nat
 boards : List BoardD
 boardA : Option Addr
 boardC : Nat
 buffers : List BufferD
 bufferA : Option Addr
 bufferC : Nat
 ports : List PortD
 portA : Option Addr
 portC : Nat
def PartD.cells (p : PartD) : Array Value := #[.int .i64 p.id, .int .i64 p.next, .slice p.procA p.procs.length p.procC, .slice p.semA p.sems.length p.semC, .slice p.eventA p.events.length p.eventC, .slice p.boardA p.boards.length p.boardC, .slice p.bufferA p.buffers.length p.bufferC, .slice p.portA p.ports.length p.portC]
def PartD.At (w : World) (p : PartD) : Prop := procK.Lies w p.procA p.procs ∧ semK.Lies w p.semA p.sems ∧ eventK.Lies w p.eventA p.events ∧ boardK.Lies w p.boardA p.boards ∧ bufferK.Lies w p.bufferA p.buffers ∧ portK.Lies w p.portA p.ports
theorem PartD.At.below {w w' : World} {p : PartD} (h : PartD.At w p) (hb : Below w.heap.size w w') : PartD.At w' p := ⟨h.1.below hb, h.2.1.below hb, h.2.2.1.below hb, h.2.2.2.1.below hb, h.2.2.2.2.1.below hb, h.2.2.2.2.2.below hb⟩

/-- A partition, wherever it lies. -/
structure PartP where
 id : Int
 next : Int
 procs : List ProcP
 sems : List SemD
 events : List EventD
 boards : List BoardD
 buffers : List BufferP
 ports : List PortP
def PartD.pure (p : PartD) : PartP := ⟨p.id, p.next, p.procs.map (·.toProcP), p.sems, p.events, p.boards, p.buffers.map (·.toBufferP), p.ports.map (·.toPortP)⟩

/-- The place of the first that has that number; -1: there is none. -/
def place (l : List Int) (id : Int) (i : Nat) : Int := match l with
 | [] => -1
 | x :: r => if x = id then i else place r id (i + 1)
theorem place_snoc : ∀ (l : List Int) (id : Int) (i : Nat) (x : Int), place (l ++ [x]) id i = if place l id i = -1 then (if x = id then ((i + l.length : Nat) : Int) else -1) else place l id i
 | [], id, i, x => by simp [place]
 | y :: r, id, i, x => by
  simp only [List.cons_append, place]
  split
  ·rw [if_neg (by omega)]
  ·rw [place_snoc r id (i + 1) x]
   simp only [List.length_cons]
   rw [show i + 1 + r.length = i + (r.length + 1) by omega]
theorem place_ge : ∀ (l : List Int) (id : Int) (i : Nat), place l id i = -1 ∨ (i : Int) ≤ place l id i
 | [], _, _ => .inl rfl
 | y :: r, id, i => by
  simp only [place]
  split
  ·exact .inr (by omega)
  ·rcases place_ge r id (i + 1) with h | h
   ·exact .inl h
   ·exact .inr (by omega)
/-- Whether there is one with that number. -/
theorem place_none : ∀ {l : List Int} {id : Int} {i : Nat}, place l id i = -1 ↔ id ∉ l
 | [], id, i => by simp [place]
 | y :: r, id, i => by
  simp only [place, List.mem_cons, not_or]
  split
  ·rename_i h
   constructor
   ·intro h2; omega
   ·intro h2; exact absurd h.symm h2.1
  ·rename_i h
   rw [place_none (l := r)]
   exact ⟨fun h2 => ⟨fun e => h e.symm, h2⟩, fun h2 => h2.2⟩
theorem place_take {l : List Int} {id : Int} {k : Nat} (h : id ∉ l.take k) {x : Int} (hx : l[k]? = some x) (e : x = id) : place l id 0 = k := by
 have hk : k < l.length := (List.getElem?_eq_some_iff.1 hx).1
 have e1 : l = l.take k ++ x :: l.drop (k + 1) := by
  have := List.take_append_drop k l
  rw [List.drop_eq_getElem_cons hk] at this
  rw [← this]
  rw [List.getElem?_eq_getElem hk] at hx
  cases hx
  simp
 have key : ∀ (t : List Int) (i : Nat), id ∉ t → place (t ++ x :: l.drop (k + 1)) id i = ((i + t.length : Nat) : Int) := by
  intro t
  induction t with
  | nil => intro i _; simp [place, e]
  | cons y r ih =>
   intro i hn
   simp only [List.mem_cons, not_or] at hn
   simp only [List.cons_append, place]
   rw [if_neg (fun h => hn.1 h.symm), ih (i + 1) hn.2]
   simp only [List.length_cons]
   rw [show i + 1 + r.length = i + (r.length + 1) by omega]
 have := key (l.take k) 0 h
 rw [← e1] at this
 rw [this, List.length_take]
 congr 1
 omega

end Go.Proofs.YtkbcplnlehdjfaaGreat

/- The specification's searches through a partition's lists, and what a process waits for. (Made by mkplace.py.) -/
namespace Go.Proofs.YtkbcplnlehdjfaaGreat
open Go.RowKit

theorem not_take {l : List Int} {k : Nat} {id x : Int} (h : id ∉ l.take k) (hx : l[k]? = some x) (hne : ¬ x = id) : id ∉ l.take (k + 1) := by
 have hk : k < l.length := (List.getElem?_eq_some_iff.1 hx).1
 rw [List.take_succ_eq_append_getElem hk, List.mem_append, List.mem_singleton]
 rw [List.getElem?_eq_getElem hk] at hx
 cases hx
 rintro (h1 | h1)
 ·exact h h1
 ·exact hne h1.symm
theorem not_all_take {l : List Int} {k : Nat} {id : Int} (h : id ∉ l.take k) (hk : l.length ≤ k) : place l id 0 = -1 := by
 rw [List.take_of_length_le hk] at h
 exact place_none.2 h

set_option maxHeartbeats 1000000 in
theorem l3Proc_any (p : PartD) (id : Int) (w : World) (hl : p.procs.length ≤ 1048576) (h : PartD.At w p) :
  Calls Tryz.prog 97 #[.agg p.cells, .int .i64 id] w fun e w' => e = .returned (.int .i64 (place (p.procs.map (·.id)) id 0)) ∧ Below w.heap.size w w' := by
 have H : Hid (procK.Lies (w.alloc (.cells p.cells 32)) p.procA p.procs ∧ Below w.heap.size w (w.alloc (.cells p.cells 32))) := ⟨h.1.below ((Below.refl _ _).alloc (Nat.le_refl _) _), (Below.refl _ _).alloc (Nat.le_refl _) _⟩
 have q : (w.alloc (.cells p.cells 32)).cell? ⟨w.heap.size, 2, none⟩ = some (.slice p.procA p.procs.length p.procC) := by rw [cell_of_row _ _ _ _ _ _ (heap_alloc_new _ _)]; rfl
 clear h
 unfold PartD.cells at *
 go_enter Tryz.func97, Tryz.ntmps97
 go_wp2_with fail
 generalize w.alloc (.cells #[.int .i64 p.id, .int .i64 p.next, .slice p.procA p.procs.length p.procC, .slice p.semA p.sems.length p.semC, .slice p.eventA p.events.length p.eventC, .slice p.boardA p.boards.length p.boardC, .slice p.bufferA p.buffers.length p.bufferC, .slice p.portA p.ports.length p.portC] 32) = W at *
 go_loop [5] (fun i => ∃ k : Nat, k ≤ p.procs.length ∧ i = .int .i64 k ∧ Hid (id ∉ (p.procs.map (·.id)).take k)) (fun i => p.procs.length - (intOf i).toNat)
 case atStart => exact ⟨0, Nat.zero_le _, rfl, (by simp : id ∉ (p.procs.map (·.id)).take 0)⟩
 case round =>
  obtain ⟨k, hk, rfl, HA⟩ := hrel
  by_cases hlt : k < p.procs.length
  ·have i0 : (0 : Int) ≤ (k : Int) := by omega
   have i1 : (k : Int) < (p.procs.length : Int) := by omega
   obtain ⟨x, hx⟩ : ∃ x, p.procs[k]? = some x := ⟨_, List.getElem?_eq_getElem hlt⟩
   have HX : Hid ((p.procs.map (·.id))[k]? = some x.id) := by show _ = _; rw [List.getElem?_map, hx]; rfl
   obtain ⟨g, ha, hat⟩ := proc_at H.out.1 hx
   have c0 := hat.1
   rw [ha] at q
   clear hat hx
   by_cases hc : x.id = id
   ·have HC : Hid (x.id = id) := hc
    have h1 : (x.id == id) = true := by simp [hc]
    clear hc
    go_wp2
    go_ret
    exact ⟨ret_int (place_take HA.out HX.out HC.out).symm, H.out.2⟩
   ·have HC : Hid (¬ x.id = id) := hc
    have h1 : (x.id == id) = false := by simp [hc]
    clear hc
    go_wp2
    go_round
    case rel => exact ⟨k + 1, by omega, by go_num, not_take HA.out HX.out HC.out⟩
    case measure => simp [intOf]; omega
  ·have i1 : ¬ (k : Int) < (p.procs.length : Int) := by omega
   go_wp2
   go_ret
   exact ⟨ret_int (not_all_take HA.out (by rw [List.length_map]; omega)).symm, H.out.2⟩

set_option maxHeartbeats 1000000 in
theorem l3Sem_any (p : PartD) (id : Int) (w : World) (hl : p.sems.length ≤ 1048576) (h : PartD.At w p) :
  Calls Tryz.prog 214 #[.agg p.cells, .int .i64 id] w fun e w' => e = .returned (.int .i64 (place (p.sems.map (·.id)) id 0)) ∧ Below w.heap.size w w' := by
 have H : Hid (semK.Lies (w.alloc (.cells p.cells 32)) p.semA p.sems ∧ Below w.heap.size w (w.alloc (.cells p.cells 32))) := ⟨h.2.1.below ((Below.refl _ _).alloc (Nat.le_refl _) _), (Below.refl _ _).alloc (Nat.le_refl _) _⟩
 have q : (w.alloc (.cells p.cells 32)).cell? ⟨w.heap.size, 3, none⟩ = some (.slice p.semA p.sems.length p.semC) := by rw [cell_of_row _ _ _ _ _ _ (heap_alloc_new _ _)]; rfl
 clear h
 unfold PartD.cells at *
 go_enter Tryz.func214, Tryz.ntmps214
 go_wp2_with fail
 generalize w.alloc (.cells #[.int .i64 p.id, .int .i64 p.next, .slice p.procA p.procs.length p.procC, .slice p.semA p.sems.length p.semC, .slice p.eventA p.events.length p.eventC, .slice p.boardA p.boards.length p.boardC, .slice p.bufferA p.buffers.length p.bufferC, .slice p.portA p.ports.length p.portC] 32) = W at *
 go_loop [5] (fun i => ∃ k : Nat, k ≤ p.sems.length ∧ i = .int .i64 k ∧ Hid (id ∉ (p.sems.map (·.id)).take k)) (fun i => p.sems.length - (intOf i).toNat)
 case atStart => exact ⟨0, Nat.zero_le _, rfl, (by simp : id ∉ (p.sems.map (·.id)).take 0)⟩
 case round =>
  obtain ⟨k, hk, rfl, HA⟩ := hrel
  by_cases hlt : k < p.sems.length
  ·have i0 : (0 : Int) ≤ (k : Int) := by omega
   have i1 : (k : Int) < (p.sems.length : Int) := by omega
   obtain ⟨x, hx⟩ : ∃ x, p.sems[k]? = some x := ⟨_, List.getElem?_eq_getElem hlt⟩
   have HX : Hid ((p.sems.map (·.id))[k]? = some x.id) := by show _ = _; rw [List.getElem?_map, hx]; rfl
   obtain ⟨g, ha, hat⟩ := sem_at H.out.1 hx
   have c0 := hat.1
   rw [ha] at q
   clear hat hx
   by_cases hc : x.id = id
   ·have HC : Hid (x.id = id) := hc
    have h1 : (x.id == id) = true := by simp [hc]
    clear hc
    go_wp2
    go_ret
    exact ⟨ret_int (place_take HA.out HX.out HC.out).symm, H.out.2⟩
   ·have HC : Hid (¬ x.id = id) := hc
    have h1 : (x.id == id) = false := by simp [hc]
    clear hc
    go_wp2
    go_round
    case rel => exact ⟨k + 1, by omega, by go_num, not_take HA.out HX.out HC.out⟩
    case measure => simp [intOf]; omega
  ·have i1 : ¬ (k : Int) < (p.sems.length : Int) := by omega
   go_wp2
   go_ret
   exact ⟨ret_int (not_all_take HA.out (by rw [List.length_map]; omega)).symm, H.out.2⟩

set_option maxHeartbeats 1000000 in
theorem l3Event_any (p : PartD) (id : Int) (w : World) (hl : p.events.length ≤ 1048576) (h : PartD.At w p) :
  Calls Tryz.prog 215 #[.agg p.cells, .int .i64 id] w fun e w' => e = .returned (.int .i64 (place (p.events.map (·.id)) id 0)) ∧ Below w.heap.size w w' := by
 have H : Hid (eventK.Lies (w.alloc (.cells p.cells 32)) p.eventA p.events ∧ Below w.heap.size w (w.alloc (.cells p.cells 32))) := ⟨h.2.2.1.below ((Below.refl _ _).alloc (Nat.le_refl _) _), (Below.refl _ _).alloc (Nat.le_refl _) _⟩
 have q : (w.alloc (.cells p.cells 32)).cell? ⟨w.heap.size, 4, none⟩ = some (.slice p.eventA p.events.length p.eventC) := by rw [cell_of_row _ _ _ _ _ _ (heap_alloc_new _ _)]; rfl
 clear h
 unfold PartD.cells at *
 go_enter Tryz.func215, Tryz.ntmps215
 go_wp2_with fail
 generalize w.alloc (.cells #[.int .i64 p.id, .int .i64 p.next, .slice p.procA p.procs.length p.procC, .slice p.semA p.sems.length p.semC, .slice p.eventA p.events.length p.eventC, .slice p.boardA p.boards.length p.boardC, .slice p.bufferA p.buffers.length p.bufferC, .slice p.portA p.ports.length p.portC] 32) = W at *
 go_loop [5] (fun i => ∃ k : Nat, k ≤ p.events.length ∧ i = .int .i64 k ∧ Hid (id ∉ (p.events.map (·.id)).take k)) (fun i => p.events.length - (intOf i).toNat)
 case atStart => exact ⟨0, Nat.zero_le _, rfl, (by simp : id ∉ (p.events.map (·.id)).take 0)⟩
 case round =>
  obtain ⟨k, hk, rfl, HA⟩ := hrel
  by_cases hlt : k < p.events.length
  ·have i0 : (0 : Int) ≤ (k : Int) := by omega
   have i1 : (k : Int) < (p.events.length : Int) := by omega
   obtain ⟨x, hx⟩ : ∃ x, p.events[k]? = some x := ⟨_, List.getElem?_eq_getElem hlt⟩
   have HX : Hid ((p.events.map (·.id))[k]? = some x.id) := by show _ = _; rw [List.getElem?_map, hx]; rfl
   obtain ⟨g, ha, hat⟩ := event_at H.out.1 hx
   have c0 := hat.1
   rw [ha] at q
   clear hat hx
   by_cases hc : x.id = id
   ·have HC : Hid (x.id = id) := hc
    have h1 : (x.id == id) = true := by simp [hc]
    clear hc
    go_wp2
    go_ret
    exact ⟨ret_int (place_take HA.out HX.out HC.out).symm, H.out.2⟩
   ·have HC : Hid (¬ x.id = id) := hc
    have h1 : (x.id == id) = false := by simp [hc]
    clear hc
    go_wp2
    go_round
    case rel => exact ⟨k + 1, by omega, by go_num, not_take HA.out HX.out HC.out⟩
    case measure => simp [intOf]; omega
  ·have i1 : ¬ (k : Int) < (p.events.length : Int) := by omega
   go_wp2
   go_ret
   exact ⟨ret_int (not_all_take HA.out (by rw [List.length_map]; omega)).symm, H.out.2⟩

set_option maxHeartbeats 1000000 in
theorem l3Board_any (p : PartD) (id : Int) (w : World) (hl : p.boards.length ≤ 1048576) (h : PartD.At w p) :
  Calls Tryz.prog 217 #[.agg p.cells, .int .i64 id] w fun e w' => e = .returned (.int .i64 (place (p.boards.map (·.id)) id 0)) ∧ Below w.heap.size w w' := by
 have H : Hid (boardK.Lies (w.alloc (.cells p.cells 32)) p.boardA p.boards ∧ Below w.heap.size w (w.alloc (.cells p.cells 32))) := ⟨h.2.2.2.1.below ((Below.refl _ _).alloc (Nat.le_refl _) _), (Below.refl _ _).alloc (Nat.le_refl _) _⟩
 have q : (w.alloc (.cells p.cells 32)).cell? ⟨w.heap.size, 5, none⟩ = some (.slice p.boardA p.boards.length p.boardC) := by rw [cell_of_row _ _ _ _ _ _ (heap_alloc_new _ _)]; rfl
 clear h
 unfold PartD.cells at *
 go_enter Tryz.func217, Tryz.ntmps217
 go_wp2_with fail
 generalize w.alloc (.cells #[.int .i64 p.id, .int .i64 p.next, .slice p.procA p.procs.length p.procC, .slice p.semA p.sems.length p.semC, .slice p.eventA p.events.length p.eventC, .slice p.boardA p.boards.length p.boardC, .slice p.bufferA p.buffers.length p.bufferC, .slice p.portA p.ports.length p.portC] 32) = W at *
 go_loop [5] (fun i => ∃ k : Nat, k ≤ p.boards.length ∧ i = .int .i64 k ∧ Hid (id ∉ (p.boards.map (·.id)).take k)) (fun i => p.boards.length - (intOf i).toNat)
 case atStart => exact ⟨0, Nat.zero_le _, rfl, (by simp : id ∉ (p.boards.map (·.id)).take 0)⟩
 case round =>
  obtain ⟨k, hk, rfl, HA⟩ := hrel
  by_cases hlt : k < p.boards.length
  ·have i0 : (0 : Int) ≤ (k : Int) := by omega
   have i1 : (k : Int) < (p.boards.length : Int) := by omega
   obtain ⟨x, hx⟩ : ∃ x, p.boards[k]? = some x := ⟨_, List.getElem?_eq_getElem hlt⟩
   have HX : Hid ((p.boards.map (·.id))[k]? = some x.id) := by show _ = _; rw [List.getElem?_map, hx]; rfl
   obtain ⟨g, ha, hat⟩ := board_at H.out.1 hx
   have c0 := hat.1
   rw [ha] at q
   clear hat hx
   by_cases hc : x.id = id
   ·have HC : Hid (x.id = id) := hc
    have h1 : (x.id == id) = true := by simp [hc]
    clear hc
    go_wp2
    go_ret
    exact ⟨ret_int (place_take HA.out HX.out HC.out).symm, H.out.2⟩
   ·have HC : Hid (¬ x.id = id) := hc
    have h1 : (x.id == id) = false := by simp [hc]
    clear hc
    go_wp2
    go_round
    case rel => exact ⟨k + 1, by omega, by go_num, not_take HA.out HX.out HC.out⟩
    case measure => simp [intOf]; omega
  ·have i1 : ¬ (k : Int) < (p.boards.length : Int) := by omega
   go_wp2
   go_ret
   exact ⟨ret_int (not_all_take HA.out (by rw [List.length_map]; omega)).symm, H.out.2⟩

set_option maxHeartbeats 1000000 in
theorem l3Buffer_any (p : PartD) (id : Int) (w : World) (hl : p.buffers.length ≤ 1048576) (h : PartD.At w p) :
  Calls Tryz.prog 216 #[.agg p.cells, .int .i64 id] w fun e w' => e = .returned (.int .i64 (place (p.buffers.map (·.id)) id 0)) ∧ Below w.heap.size w w' := by
 have H : Hid (bufferK.Lies (w.alloc (.cells p.cells 32)) p.bufferA p.buffers ∧ Below w.heap.size w (w.alloc (.cells p.cells 32))) := ⟨h.2.2.2.2.1.below ((Below.refl _ _).alloc (Nat.le_refl _) _), (Below.refl _ _).alloc (Nat.le_refl _) _⟩
 have q : (w.alloc (.cells p.cells 32)).cell? ⟨w.heap.size, 6, none⟩ = some (.slice p.bufferA p.buffers.length p.bufferC) := by rw [cell_of_row _ _ _ _ _ _ (heap_alloc_new _ _)]; rfl
 clear h
 unfold PartD.cells at *
 go_enter Tryz.func216, Tryz.ntmps216
 go_wp2_with fail
 generalize w.alloc (.cells #[.int .i64 p.id, .int .i64 p.next, .slice p.procA p.procs.length p.procC, .slice p.semA p.sems.length p.semC, .slice p.eventA p.events.length p.eventC, .slice p.boardA p.boards.length p.boardC, .slice p.bufferA p.buffers.length p.bufferC, .slice p.portA p.ports.length p.portC] 32) = W at *
 go_loop [5] (fun i => ∃ k : Nat, k ≤ p.buffers.length ∧ i = .int .i64 k ∧ Hid (id ∉ (p.buffers.map (·.id)).take k)) (fun i => p.buffers.length - (intOf i).toNat)
 case atStart => exact ⟨0, Nat.zero_le _, rfl, (by simp : id ∉ (p.buffers.map (·.id)).take 0)⟩
 case round =>
  obtain ⟨k, hk, rfl, HA⟩ := hrel
  by_cases hlt : k < p.buffers.length
  ·have i0 : (0 : Int) ≤ (k : Int) := by omega
   have i1 : (k : Int) < (p.buffers.length : Int) := by omega
   obtain ⟨x, hx⟩ : ∃ x, p.buffers[k]? = some x := ⟨_, List.getElem?_eq_getElem hlt⟩
   have HX : Hid ((p.buffers.map (·.id))[k]? = some x.id) := by show _ = _; rw [List.getElem?_map, hx]; rfl
   obtain ⟨g, ha, hat⟩ := buffer_at H.out.1 hx
   have c0 := hat.1
   rw [ha] at q
   clear hat hx
   by_cases hc : x.id = id
   ·have HC : Hid (x.id = id) := hc
    have h1 : (x.id == id) = true := by simp [hc]
    clear hc
    go_wp2
    go_ret
    exact ⟨ret_int (place_take HA.out HX.out HC.out).symm, H.out.2⟩
   ·have HC : Hid (¬ x.id = id) := hc
    have h1 : (x.id == id) = false := by simp [hc]
    clear hc
    go_wp2
    go_round
    case rel => exact ⟨k + 1, by omega, by go_num, not_take HA.out HX.out HC.out⟩
    case measure => simp [intOf]; omega
  ·have i1 : ¬ (k : Int) < (p.buffers.length : Int) := by omega
   go_wp2
   go_ret
   exact ⟨ret_int (not_all_take HA.out (by rw [List.length_map]; omega)).symm, H.out.2⟩

set_option maxHeartbeats 1000000 in
theorem l3Port_any (p : PartD) (id : Int) (w : World) (hl : p.ports.length ≤ 1048576) (h : PartD.At w p) :
  Calls Tryz.prog 248 #[.agg p.cells, .int .i64 id] w fun e w' => e = .returned (.int .i64 (place (p.ports.map (·.id)) id 0)) ∧ Below w.heap.size w w' := by
 have H : Hid (portK.Lies (w.alloc (.cells p.cells 32)) p.portA p.ports ∧ Below w.heap.size w (w.alloc (.cells p.cells 32))) := ⟨h.2.2.2.2.2.below ((Below.refl _ _).alloc (Nat.le_refl _) _), (Below.refl _ _).alloc (Nat.le_refl _) _⟩
 have q : (w.alloc (.cells p.cells 32)).cell? ⟨w.heap.size, 7, none⟩ = some (.slice p.portA p.ports.length p.portC) := by rw [cell_of_row _ _ _ _ _ _ (heap_alloc_new _ _)]; rfl
 clear h
 unfold PartD.cells at *
 go_enter Tryz.func248, Tryz.ntmps248
 go_wp2_with fail
 generalize w.alloc (.cells #[.int .i64 p.id, .int .i64 p.next, .slice p.procA p.procs.length p.procC, .slice p.semA p.sems.length p.semC, .slice p.eventA p.events.length p.eventC, .slice p.boardA p.boards.length p.boardC, .slice p.bufferA p.buffers.length p.bufferC, .slice p.portA p.ports.length p.portC] 32) = W at *
 go_loop [5] (fun i => ∃ k : Nat, k ≤ p.ports.length ∧ i = .int .i64 k ∧ Hid (id ∉ (p.ports.map (·.id)).take k)) (fun i => p.ports.length - (intOf i).toNat)
 case atStart => exact ⟨0, Nat.zero_le _, rfl, (by simp : id ∉ (p.ports.map (·.id)).take 0)⟩
 case round =>
  obtain ⟨k, hk, rfl, HA⟩ := hrel
  by_cases hlt : k < p.ports.length
  ·have i0 : (0 : Int) ≤ (k : Int) := by omega
   have i1 : (k : Int) < (p.ports.length : Int) := by omega
   obtain ⟨x, hx⟩ : ∃ x, p.ports[k]? = some x := ⟨_, List.getElem?_eq_getElem hlt⟩
   have HX : Hid ((p.ports.map (·.id))[k]? = some x.id) := by show _ = _; rw [List.getElem?_map, hx]; rfl
   obtain ⟨g, ha, hat⟩ := port_at H.out.1 hx
   have c0 := hat.1
   rw [ha] at q
   clear hat hx
   by_cases hc : x.id = id
   ·have HC : Hid (x.id = id) := hc
    have h1 : (x.id == id) = true := by simp [hc]
    clear hc
    go_wp2
    go_ret
    exact ⟨ret_int (place_take HA.out HX.out HC.out).symm, H.out.2⟩
   ·have HC : Hid (¬ x.id = id) := hc
    have h1 : (x.id == id) = false := by simp [hc]
    clear hc
    go_wp2
    go_round
    case rel => exact ⟨k + 1, by omega, by go_num, not_take HA.out HX.out HC.out⟩
    case measure => simp [intOf]; omega
  ·have i1 : ¬ (k : Int) < (p.ports.length : Int) := by omega
   go_wp2
   go_ret
   exact ⟨ret_int (not_all_take HA.out (by rw [List.length_map]; omega)).symm, H.out.2⟩

/-- Whether a list's texts are plain, and not too many. -/
def textsB (l : List ByteArray) (most : Int) : Bool := l.all plainB && decide ((l.length : Int) ≤ most)
theorem textsB_no {l : List ByteArray} {most : Int} {k : Nat} {x : ByteArray} (hx : l[k]? = some x) (h : plainB x = false) : textsB l most = false := by
 have : l.all plainB = false := by
  rw [List.all_eq_false]
  exact ⟨x, List.mem_of_getElem? hx, by simp [h]⟩
 simp [textsB, this]
theorem all_take_snoc {l : List ByteArray} {k : Nat} {x : ByteArray} (h : (l.take k).all plainB = true) (hx : l[k]? = some x) (hp : plainB x = true) : (l.take (k + 1)).all plainB = true := by
 have hk : k < l.length := (List.getElem?_eq_some_iff.1 hx).1
 rw [List.take_succ_eq_append_getElem hk, List.all_append, h]
 rw [List.getElem?_eq_getElem hk] at hx
 cases hx
 simp [hp]

theorem str_at {w : World} {a : Option Addr} {l : List ByteArray} (h : Row w a (strK.flat l)) {k : Nat} {x : ByteArray} (hx : l[k]? = some x) : ∃ g, a = some ⟨g, 0, none⟩ ∧ w.cell? ⟨g, k, none⟩ = some (.string x) := by
 have h1 : (strK.flat l)[k]? = some (.string x) := by
  have := strK.flat_get hx (j := 0) (by decide)
  simpa [strK] using this
 exact h k _ h1

set_option maxHeartbeats 1000000 in
theorem l3Texts_any (a : Option Addr) (l : List ByteArray) (cap : Nat) (most : Int) (w : World) (hl : l.length ≤ 1048576) (hs : ∀ x ∈ l, x.size ≤ 1048576) (h : Row w a (strK.flat l)) :
  Calls Tryz.prog 182 #[.slice a l.length cap, .int .i64 most] w fun e w' => e = .returned (.bool (textsB l most)) ∧ w' = w := by
 have H : Hid (Row w a (strK.flat l) ∧ ∀ x ∈ l, x.size ≤ 1048576) := ⟨h, hs⟩
 clear h hs
 go_enter Tryz.func182, Tryz.ntmps182
 go_wp2_with fail
 go_loop [5] (fun i => ∃ k : Nat, k ≤ l.length ∧ i = .int .i64 k ∧ Hid ((l.take k).all plainB = true)) (fun i => l.length - (intOf i).toNat)
 case atStart => exact ⟨0, Nat.zero_le _, rfl, (by simp : (l.take 0).all plainB = true)⟩
 case round =>
  obtain ⟨k, hk, rfl, HA⟩ := hrel
  by_cases hlt : k < l.length
  ·have i0 : (0 : Int) ≤ (k : Int) := by omega
   have i1 : (k : Int) < (l.length : Int) := by omega
   obtain ⟨x, hx⟩ : ∃ x, l[k]? = some x := ⟨_, List.getElem?_eq_getElem hlt⟩
   have HX : Hid (l[k]? = some x) := hx
   obtain ⟨g, rfl, c0⟩ := str_at H.out.1 hx
   have hxs := H.out.2 x (List.mem_of_getElem? hx)
   clear hx
   go_wp2_with fail
   refine (l2Plain_any x w hxs).mono ?_
   rintro e w' ⟨rfl, rfl⟩
   cases hp : plainB x with
   | true =>
    have HP : Hid (plainB x = true) := hp
    clear hp
    go_wp2
    go_round
    case rel => exact ⟨k + 1, by omega, by go_num, all_take_snoc HA.out HX.out HP.out⟩
    case measure => simp [intOf]; omega
   | false =>
    have HP : Hid (plainB x = false) := hp
    clear hp
    go_wp2
    go_ret
    exact ⟨ret_bool (textsB_no HX.out HP.out).symm, rfl⟩
  ·have i1 : ¬ (k : Int) < (l.length : Int) := by omega
   have HT : Hid (l.all plainB = true) := by have := HA.out; rwa [List.take_of_length_le (by omega)] at this
   have e1 : wrap64 (l.length : Int) = l.length := by unfold wrap64; omega
   go_wp2
   go_ret
   exact ⟨ret_bool (by rw [textsB, HT.out]; simp), rfl⟩

/-- Whether there is what a process waits for. -/
def hasB (p : PartP) (state id : Int) : Bool :=
 if state = 3 then decide (id ∈ p.sems.map (·.id)) else if state = 4 then decide (id ∈ p.events.map (·.id))
 else if state = 5 ∨ state = 6 then decide (id ∈ p.buffers.map (·.id)) else if state = 7 then decide (id ∈ p.boards.map (·.id)) else false
theorem place_mem (l : List Int) (id : Int) : decide (0 ≤ place l id 0) = decide (id ∈ l) := by
 by_cases h : id ∈ l
 ·rw [decide_eq_true h]
  rcases place_ge l id 0 with h1 | h1
  ·exact absurd h (place_none.1 h1)
  ·exact decide_eq_true (by simpa using h1)
 ·rw [decide_eq_false h, place_none.2 h]
  rfl

/-- The lists are not too long for a machine. -/
structure PartD.Short (p : PartD) : Prop where
 procs : p.procs.length ≤ 1048576
 sems : p.sems.length ≤ 1048576
 events : p.events.length ≤ 1048576
 boards : p.boards.length ≤ 1048576
 buffers : p.buffers.length ≤ 1048576
 ports : p.ports.length ≤ 1048576

set_option maxHeartbeats 2000000 in
theorem l3Has_any (p : PartD) (state id : Int) (w : World) (hl : p.Short) (h : PartD.At w p) :
  Calls Tryz.prog 184 #[.agg p.cells, .int .i64 state, .int .i64 id] w fun e w' => e = .returned (.bool (hasB p.pure state id)) ∧ Below w.heap.size w w' := by
 have hp : p.cells = #[.int .i64 p.id, .int .i64 p.next, .slice p.procA p.procs.length p.procC, .slice p.semA p.sems.length p.semC, .slice p.eventA p.events.length p.eventC, .slice p.boardA p.boards.length p.boardC, .slice p.bufferA p.buffers.length p.bufferC, .slice p.portA p.ports.length p.portC] := rfl
 have H : Hid ((PartD.At (w.alloc (.cells p.cells 32)) p ∧ Below w.heap.size w (w.alloc (.cells p.cells 32))) ∧ p.Short) := ⟨⟨h.below ((Below.refl _ _).alloc (Nat.le_refl _) _), (Below.refl _ _).alloc (Nat.le_refl _) _⟩, hl⟩
 rw [hp] at H
 rw [hp]
 clear h hl hp
 by_cases s3 : state = 3
 ·subst s3
  go_enter Tryz.func184, Tryz.ntmps184
  go_wp2_with fail
  refine (l3Sem_any p id _ H.out.2.sems H.out.1.1).mono ?_
  rintro e w1 ⟨rfl, hb1⟩
  have HB : Hid (Below w.heap.size w w1) := H.out.1.2.trans (hb1.mono (by simp))
  have HM : Hid (decide (0 ≤ place (p.sems.map (·.id)) id 0) = decide (id ∈ p.sems.map (·.id))) := place_mem _ id
  clear hb1
  go_wp2
  go_ret
  exact ⟨ret_bool (HM.out.trans (by simp [hasB, PartD.pure])), HB.out⟩
 by_cases s4 : state = 4
 ·subst s4
  go_enter Tryz.func184, Tryz.ntmps184
  go_wp2_with fail
  refine (l3Event_any p id _ H.out.2.events H.out.1.1).mono ?_
  rintro e w1 ⟨rfl, hb1⟩
  have HB : Hid (Below w.heap.size w w1) := H.out.1.2.trans (hb1.mono (by simp))
  have HM : Hid (decide (0 ≤ place (p.events.map (·.id)) id 0) = decide (id ∈ p.events.map (·.id))) := place_mem _ id
  clear hb1
  go_wp2
  go_ret
  exact ⟨ret_bool (HM.out.trans (by simp [hasB, PartD.pure])), HB.out⟩
 by_cases s5 : state = 5
 ·subst s5
  go_enter Tryz.func184, Tryz.ntmps184
  go_wp2_with fail
  refine (l3Buffer_any p id _ H.out.2.buffers H.out.1.1).mono ?_
  rintro e w1 ⟨rfl, hb1⟩
  have HB : Hid (Below w.heap.size w w1) := H.out.1.2.trans (hb1.mono (by simp))
  have HM : Hid (decide (0 ≤ place (p.buffers.map (·.id)) id 0) = decide (id ∈ p.buffers.map (·.id))) := place_mem _ id
  clear hb1
  go_wp2
  go_ret
  exact ⟨ret_bool (HM.out.trans (by simp [hasB, PartD.pure])), HB.out⟩
 by_cases s6 : state = 6
 ·subst s6
  go_enter Tryz.func184, Tryz.ntmps184
  go_wp2_with fail
  refine (l3Buffer_any p id _ H.out.2.buffers H.out.1.1).mono ?_
  rintro e w1 ⟨rfl, hb1⟩
  have HB : Hid (Below w.heap.size w w1) := H.out.1.2.trans (hb1.mono (by simp))
  have HM : Hid (decide (0 ≤ place (p.buffers.map (·.id)) id 0) = decide (id ∈ p.buffers.map (·.id))) := place_mem _ id
  clear hb1
  go_wp2
  go_ret
  exact ⟨ret_bool (HM.out.trans (by simp [hasB, PartD.pure])), HB.out⟩
 by_cases s7 : state = 7
 ·subst s7
  go_enter Tryz.func184, Tryz.ntmps184
  go_wp2_with fail
  refine (l3Board_any p id _ H.out.2.boards H.out.1.1).mono ?_
  rintro e w1 ⟨rfl, hb1⟩
  have HB : Hid (Below w.heap.size w w1) := H.out.1.2.trans (hb1.mono (by simp))
  have HM : Hid (decide (0 ≤ place (p.boards.map (·.id)) id 0) = decide (id ∈ p.boards.map (·.id))) := place_mem _ id
  clear hb1
  go_wp2
  go_ret
  exact ⟨ret_bool (HM.out.trans (by simp [hasB, PartD.pure])), HB.out⟩
 have e3 : (state == 3) = false := by simp [s3]
 have e4 : (state == 4) = false := by simp [s4]
 have e5 : (state == 5) = false := by simp [s5]
 have e6 : (state == 6) = false := by simp [s6]
 have e7 : (state == 7) = false := by simp [s7]
 have HN : Hid (hasB p.pure state id = false) := by show hasB p.pure state id = false; simp [hasB, s3, s4, s5, s6, s7]
 clear s3 s4 s5 s6 s7
 go_enter Tryz.func184, Tryz.ntmps184
 go_wp2
 go_ret
 exact ⟨ret_bool HN.out.symm, H.out.1.2⟩

end Go.Proofs.YtkbcplnlehdjfaaGreat

/- When a partition is right. -/
namespace Go.Proofs.YtkbcplnlehdjfaaGreat
open Go.RowKit

/-- The text of nothing. -/
def noT : ByteArray := ⟨#[]⟩
def progL (l : List OpD) : Bool := progB l.length (kOf l) (nOf l) (mOf l) (sOf l)
def semB (x : SemD) : Bool := inB x.max 1 1000 && inB x.n 0 x.max
def eventB (_ : EventD) : Bool := true
def boardB (x : BoardD) : Bool := plainB x.text && (x.shown || emptyB x.text)
def bufferB (x : BufferP) : Bool := inB x.max 1 5 && textsB x.items x.max
def portB (x : PortP) : Bool := inB x.max 1 5 && (x.queue || decide (x.max = 1)) && textsB x.items x.max

/-- Things that are right each, their numbers rising. -/
def thingsB {α : Type} (num : α → Int) (ok : α → Bool) : Int → List α → Bool
 | _, [] => true
 | last, x :: r => inB (num x) 1 1000 && decide (last < num x) && ok x && thingsB num ok (num x) r
def lastOf {α : Type} (num : α → Int) : Int → List α → Int
 | last, [] => last
 | _, x :: r => lastOf num (num x) r
section
variable {α : Type} {num : α → Int} {ok : α → Bool}
theorem thingsB_append : ∀ (l r : List α) (last : Int), thingsB num ok last (l ++ r) = (thingsB num ok last l && thingsB num ok (lastOf num last l) r)
 | [], r, last => by simp [thingsB, lastOf]
 | x :: l, r, last => by
  simp only [List.cons_append, thingsB, lastOf, thingsB_append l r (num x), Bool.and_assoc]
theorem lastOf_append : ∀ (l : List α) (x : α) (last : Int), lastOf num last (l ++ [x]) = num x
 | [], _, _ => rfl
 | y :: l, x, _ => lastOf_append l x (num y)
theorem split_at {l : List α} {k : Nat} {x : α} (hx : l[k]? = some x) : l = l.take k ++ x :: l.drop (k + 1) := by
 have hk : k < l.length := (List.getElem?_eq_some_iff.1 hx).1
 rw [List.getElem?_eq_getElem hk] at hx
 cases hx
 have := List.take_append_drop k l
 rw [List.drop_eq_getElem_cons hk] at this
 exact this.symm
theorem take_up {l : List α} {k : Nat} {x : α} (hx : l[k]? = some x) : l.take (k + 1) = l.take k ++ [x] := by
 have hk : k < l.length := (List.getElem?_eq_some_iff.1 hx).1
 rw [List.getElem?_eq_getElem hk] at hx
 cases hx
 exact List.take_succ_eq_append_getElem hk
theorem lastOf_take {l : List α} {k : Nat} {x : α} (hx : l[k]? = some x) (last : Int) : lastOf num last (l.take (k + 1)) = num x := by
 rw [take_up hx, lastOf_append]
/-- One more. -/
theorem things_yes {l : List α} {k : Nat} {x : α} {last : Int} (h : thingsB num ok last (l.take k) = true) (hx : l[k]? = some x) (h1 : inB (num x) 1 1000 = true) (h2 : lastOf num last (l.take k) < num x) (h3 : ok x = true) : thingsB num ok last (l.take (k + 1)) = true := by
 rw [take_up hx, thingsB_append, h]
 simp [thingsB, h1, h2, h3]
theorem things_no {l : List α} {k : Nat} {x : α} {last : Int} (hx : l[k]? = some x) (h : ¬ (inB (num x) 1 1000 = true ∧ lastOf num last (l.take k) < num x ∧ ok x = true)) : thingsB num ok last l = false := by
 rw [split_at hx, thingsB_append]
 have : thingsB num ok (lastOf num last (l.take k)) (x :: l.drop (k + 1)) = false := by
  simp only [thingsB]
  cases h1 : inB (num x) 1 1000 <;> simp
  by_cases h2 : lastOf num last (l.take k) < num x
  ·cases h3 : ok x
   ·simp
   ·exact absurd ⟨h1, h2, h3⟩ h
  ·simp [h2]
 rw [this, Bool.and_false]
theorem things_all {l : List α} {last : Int} (h : thingsB num ok last l = true) : ∀ x ∈ l, inB (num x) 1 1000 = true ∧ ok x = true := by
 induction l generalizing last with
 | nil => intro x hx; cases hx
 | cons y r ih =>
  simp only [thingsB, Bool.and_eq_true] at h
  intro x hx
  rcases List.mem_cons.1 hx with rfl | hx
  ·exact ⟨h.1.1.1, h.1.2⟩
  ·exact ih h.2 x hx
theorem things_and {ok' : α → Bool} {l : List α} {last : Int} : thingsB num (fun x => ok x && ok' x) last l = (thingsB num ok last l && l.all ok') := by
 induction l generalizing last with
 | nil => rfl
 | cons y r ih =>
  simp only [thingsB, ih, List.all_cons]
  cases inB (num y) 1 1000 <;> cases decide (last < num y) <;> cases ok y <;> cases ok' y <;> simp
end
theorem thingsB_map {α β : Type} (f : α → β) (num : β → Int) (ok : β → Bool) (l : List α) (last : Int) : thingsB num ok last (l.map f) = thingsB (fun x => num (f x)) (fun x => ok (f x)) last l := by
 induction l generalizing last with
 | nil => rfl
 | cons y r ih => simp only [List.map_cons, thingsB, ih]

/-- The op at which a process stands. -/
def opAt (x : ProcP) : OpD := x.prog[x.pc.toNat]?.getD (0, 0, 0, noT)
def hasOpB (x : ProcP) : Bool := inB x.pc 0 ((x.prog.length : Int) - 1)
def leftB (x : ProcP) : Bool := if (opAt x).1 = 1 then decide (0 ≤ x.left) && decide (x.left < (opAt x).2.1) else decide (x.left = 0)
def wakeB (t : Int) : Bool := inB t 1 2000000000 || decide (t = -1)
def stateB (x : ProcP) : Bool :=
 if x.state = 0 then decide (x.pc = 0) && decide (x.left = 0) && decide (x.wake = 0) && decide (x.on = 0) && decide (x.since = 0) && emptyB x.held
 else if x.state = 1 then hasOpB x && leftB x && decide (x.wake = 0) && decide (x.on = 0) && emptyB x.held
 else if x.state = 2 then hasOpB x && decide (x.left = 0) && inB x.wake 1 2000000000 && decide (x.on = 0) && emptyB x.held
 else if x.state = 5 then hasOpB x && decide (x.left = 0) && wakeB x.wake
 else if x.state = 3 ∨ x.state = 4 ∨ x.state = 6 ∨ x.state = 7 then hasOpB x && decide (x.left = 0) && wakeB x.wake && emptyB x.held
 else false
/-- A process is right by itself. -/
def procB (x : ProcP) : Bool := inB x.prio 1 50 && progL x.prog && plainB x.held && plainB x.got && inB x.code 0 3 && stateB x
/-- Its turn, and what it waits for. -/
def turnB (next : Int) (x : ProcP) : Bool := decide (x.state = 0) || inB x.since 1 (next - 1)
def waitB (p : PartP) (x : ProcP) : Bool := if 3 ≤ x.state then hasB p x.state x.on else true
/-- No two have one turn. -/
def Apart (l : List ProcP) : Prop := (l.map (·.since)).Pairwise (fun a b => ¬ (a = b ∧ 0 < b))

/-- A partition is right. -/
structure PartR (p : PartP) : Prop where
 id : inB p.id 1 6 = true
 next : inB p.next 1 1000000000 = true
 nProc : p.procs.length ≤ 6
 nSem : p.sems.length ≤ 5
 nEvent : p.events.length ≤ 5
 nBoard : p.boards.length ≤ 5
 nBuffer : p.buffers.length ≤ 5
 nPort : p.ports.length ≤ 5
 procs : thingsB (·.id) (fun x => procB x && turnB p.next x && waitB p x) 0 p.procs = true
 sems : thingsB (·.id) semB 0 p.sems = true
 events : thingsB (·.id) eventB 0 p.events = true
 boards : thingsB (·.id) boardB 0 p.boards = true
 buffers : thingsB (·.id) bufferB 0 p.buffers = true
 ports : thingsB (·.id) portB 0 p.ports = true
 apart : Apart p.procs
def partB (p : PartP) : Bool := inB p.id 1 6 && inB p.next 1 1000000000 && decide (p.procs.length ≤ 6) && decide (p.sems.length ≤ 5) && decide (p.events.length ≤ 5) && decide (p.boards.length ≤ 5) && decide (p.buffers.length ≤ 5) && decide (p.ports.length ≤ 5) &&
 thingsB (·.id) (fun x => procB x && turnB p.next x && waitB p x) 0 p.procs && thingsB (·.id) semB 0 p.sems && thingsB (·.id) eventB 0 p.events && thingsB (·.id) boardB 0 p.boards && thingsB (·.id) bufferB 0 p.buffers && thingsB (·.id) portB 0 p.ports && decide ((p.procs.map (·.since)).Pairwise (fun a b => ¬ (a = b ∧ 0 < b)))
theorem partB_iff (p : PartP) : partB p = true ↔ PartR p := by
 simp only [partB, Bool.and_eq_true, decide_eq_true_eq]
 constructor
 ·rintro ⟨⟨⟨⟨⟨⟨⟨⟨⟨⟨⟨⟨⟨⟨h1, h2⟩, h3⟩, h4⟩, h5⟩, h6⟩, h7⟩, h8⟩, h9⟩, h10⟩, h11⟩, h12⟩, h13⟩, h14⟩, h15⟩
  exact ⟨h1, h2, h3, h4, h5, h6, h7, h8, h9, h10, h11, h12, h13, h14, h15⟩
 ·intro h
  exact ⟨⟨⟨⟨⟨⟨⟨⟨⟨⟨⟨⟨⟨⟨h.id, h.next⟩, h.nProc⟩, h.nSem⟩, h.nEvent⟩, h.nBoard⟩, h.nBuffer⟩, h.nPort⟩, h.procs⟩, h.sems⟩, h.events⟩, h.boards⟩, h.buffers⟩, h.ports⟩, h.apart⟩
theorem partB_true {p : PartP} (h : PartR p) : partB p = true := (partB_iff p).2 h
theorem partB_false {p : PartP} (h : ¬ PartR p) : partB p = false := by
 cases hb : partB p with
 | false => rfl
 | true => exact absurd ((partB_iff p).1 hb) h

end Go.Proofs.YtkbcplnlehdjfaaGreat

/- What the programme asks of a partition comes to the same. -/
namespace Go.Proofs.YtkbcplnlehdjfaaGreat
open Go.RowKit

/-- The turns of those that are not dormant: in their bounds, no two the same. -/
def upL (l : List ProcP) : List Int := (l.filter (fun x => !decide (x.state = 0))).map (·.since)
def TurnsR (next : Int) (l : List ProcP) : Prop := (∀ x ∈ l, ¬ x.state = 0 → 1 ≤ x.since ∧ x.since < next) ∧ (upL l).Nodup
structure OpenR (p : PartP) : Prop where
 id : inB p.id 1 6 = true
 next : inB p.next 1 1000000000 = true
 nProc : p.procs.length ≤ 6
 nSem : p.sems.length ≤ 5
 nEvent : p.events.length ≤ 5
 nBoard : p.boards.length ≤ 5
 nBuffer : p.buffers.length ≤ 5
 nPort : p.ports.length ≤ 5
 procs : thingsB (·.id) procB 0 p.procs = true
 sems : thingsB (·.id) semB 0 p.sems = true
 events : thingsB (·.id) eventB 0 p.events = true
 boards : thingsB (·.id) boardB 0 p.boards = true
 buffers : thingsB (·.id) bufferB 0 p.buffers = true
 ports : thingsB (·.id) portB 0 p.ports = true
 turns : TurnsR p.next p.procs
 waits : p.procs.all (waitB p) = true

theorem inB_iff {n lo hi : Int} : inB n lo hi = true ↔ lo ≤ n ∧ n ≤ hi := by simp [inB]
theorem dormant_since {x : ProcP} (h : procB x = true) (h0 : x.state = 0) : x.since = 0 := by
 simp only [procB, Bool.and_eq_true] at h
 have := h.2
 simp only [stateB, h0, if_true, Bool.and_eq_true, decide_eq_true_eq] at this
 exact this.1.2
theorem apart_of_turns {next : Int} {l : List ProcP} (hb : ∀ x ∈ l, procB x = true) (h : TurnsR next l) : Apart l := by
 induction l with
 | nil => exact List.Pairwise.nil
 | cons x r ih =>
  have hr : TurnsR next r := ⟨fun y hy => h.1 y (by simp [hy]), by
   have := h.2
   unfold upL at this ⊢
   rw [List.filter_cons] at this
   split at this
   ·exact (List.nodup_cons.1 this).2
   ·exact this⟩
  refine List.pairwise_cons.2 ⟨fun b hbm hab => ?_, ih (fun y hy => hb y (by simp [hy])) hr⟩
  obtain ⟨y, hy, rfl⟩ := List.mem_map.1 hbm
  have e1 : x.since = y.since := hab.1
  have e2 : 0 < y.since := hab.2
  have hxs : ¬ x.state = 0 := fun e => by
   have := dormant_since (hb x (by simp)) e
   omega
  have hys : ¬ y.state = 0 := fun e => by
   have := dormant_since (hb y (by simp [hy])) e
   omega
  have := h.2
  unfold upL at this
  rw [List.filter_cons, if_pos (by simp [hxs]), List.map_cons, List.nodup_cons] at this
  exact this.1 (List.mem_map.2 ⟨y, List.mem_filter.2 ⟨hy, by simp [hys]⟩, hab.1.symm⟩)
theorem turns_of_apart {next : Int} {l : List ProcP} (ht : ∀ x ∈ l, turnB next x = true) (h : Apart l) : TurnsR next l := by
 have h1 : ∀ x ∈ l, ¬ x.state = 0 → 1 ≤ x.since ∧ x.since < next := fun x hx h0 => by
  have := ht x hx
  simp only [turnB, h0, decide_false, Bool.false_or] at this
  have := inB_iff.1 this
  omega
 refine ⟨h1, ?_⟩
 induction l with
 | nil => exact List.nodup_nil
 | cons x r ih =>
  obtain ⟨h2, h3⟩ := List.pairwise_cons.1 h
  have ih' := ih (fun y hy => ht y (by simp [hy])) h3 (fun y hy => h1 y (by simp [hy]))
  unfold upL at ih' ⊢
  rw [List.filter_cons]
  split
  ·rename_i hx
   have hx0 : ¬ x.state = 0 := by simpa using hx
   rw [List.map_cons, List.nodup_cons]
   refine ⟨fun hm => ?_, ih'⟩
   obtain ⟨y, hy, e⟩ := List.mem_map.1 hm
   have hy' := (List.mem_filter.1 hy).1
   have := h1 x (by simp) hx0
   exact h2 y.since (List.mem_map.2 ⟨y, hy', rfl⟩) ⟨e.symm, by omega⟩
  ·exact ih'
theorem openR_iff (p : PartP) : OpenR p ↔ PartR p := by
 constructor
 ·intro h
  refine ⟨h.id, h.next, h.nProc, h.nSem, h.nEvent, h.nBoard, h.nBuffer, h.nPort, ?_, h.sems, h.events, h.boards, h.buffers, h.ports, apart_of_turns (fun x hx => (things_all h.procs x hx).2) h.turns⟩
  rw [things_and, things_and, h.procs, h.waits, Bool.true_and, Bool.and_true, List.all_eq_true]
  intro x hx
  by_cases h0 : x.state = 0
  ·simp [turnB, h0]
  ·have := h.turns.1 x hx h0
   simp only [turnB, h0, decide_false, Bool.false_or]
   exact inB_iff.2 (by omega)
 ·intro h
  have hp := h.procs
  rw [things_and, things_and, Bool.and_eq_true, Bool.and_eq_true] at hp
  exact ⟨h.id, h.next, h.nProc, h.nSem, h.nEvent, h.nBoard, h.nBuffer, h.nPort, hp.1.1, h.sems, h.events, h.boards, h.buffers, h.ports, turns_of_apart (fun x hx => List.all_eq_true.1 hp.1.2 x hx) h.apart, hp.2⟩

end Go.Proofs.YtkbcplnlehdjfaaGreat

/- What OpOk answers, the program's: by the form of the kind. -/
namespace Go.Proofs.YtkbcplnlehdjfaaGreat
open Go.RowKit

theorem isNumber_any (n : Int) (w : World) : Calls Tryz.prog 164 #[.int .i64 n] w fun e w' => e = .returned (.bool (inB n 1 1000)) ∧ w' = w := by
 by_cases h1 : 1 ≤ n
 ·by_cases h2 : n ≤ 1000
  ·go_enter Tryz.func164, Tryz.ntmps164
   go_wp2
   go_ret
   exact ⟨ret_bool (inB_true h1 h2).symm, rfl⟩
  ·go_enter Tryz.func164, Tryz.ntmps164
   go_wp2
   go_ret
   exact ⟨ret_bool (inB_high (by omega)).symm, rfl⟩
 ·go_enter Tryz.func164, Tryz.ntmps164
  go_wp2
  go_ret
  exact ⟨ret_bool (inB_low (by omega)).symm, rfl⟩
theorem isPatience_any (n : Int) (w : World) : Calls Tryz.prog 292 #[.int .i64 n] w fun e w' => e = .returned (.bool (inB n (-1) 1000)) ∧ w' = w := by
 by_cases h1 : -1 ≤ n
 ·by_cases h2 : n ≤ 1000
  ·go_enter Tryz.func292, Tryz.ntmps292
   go_wp2
   go_ret
   exact ⟨ret_bool (inB_true h1 h2).symm, rfl⟩
  ·go_enter Tryz.func292, Tryz.ntmps292
   go_wp2
   go_ret
   exact ⟨ret_bool (inB_high (by omega)).symm, rfl⟩
 ·go_enter Tryz.func292, Tryz.ntmps292
  go_wp2
  go_ret
  exact ⟨ret_bool (inB_low (by omega)).symm, rfl⟩

/-! ### Which form an interface value bears. -/
theorem as_bare_bare (v : Value) (w : World) : (Instr.typeAssert (.iface 338 v) 325 338 true).run Tryz.prog w = .ok (.tuple #[v, .bool true]) w := by kernel_rfl
theorem as_bare_number (v : Value) (w : World) : (Instr.typeAssert (.iface 338 v) 325 330 true).run Tryz.prog w = .ok (.tuple #[.agg #[.int .i64 0, .int .i64 0], .bool false]) w := by kernel_rfl
theorem as_bare_wait (v : Value) (w : World) : (Instr.typeAssert (.iface 338 v) 325 332 true).run Tryz.prog w = .ok (.tuple #[.agg #[.int .i64 0, .int .i64 0, .int .i64 0], .bool false]) w := by kernel_rfl
theorem as_bare_send (v : Value) (w : World) : (Instr.typeAssert (.iface 338 v) 325 334 true).run Tryz.prog w = .ok (.tuple #[.agg #[.int .i64 0, .int .i64 0, .int .i64 0, .string ByteArray.empty], .bool false]) w := by kernel_rfl
theorem as_bare_text (v : Value) (w : World) : (Instr.typeAssert (.iface 338 v) 325 336 true).run Tryz.prog w = .ok (.tuple #[.agg #[.int .i64 0, .int .i64 0, .string ByteArray.empty], .bool false]) w := by kernel_rfl
theorem as_number_bare (v : Value) (w : World) : (Instr.typeAssert (.iface 330 v) 325 338 true).run Tryz.prog w = .ok (.tuple #[.agg #[.int .i64 0], .bool false]) w := by kernel_rfl
theorem as_number_number (v : Value) (w : World) : (Instr.typeAssert (.iface 330 v) 325 330 true).run Tryz.prog w = .ok (.tuple #[v, .bool true]) w := by kernel_rfl
theorem as_number_wait (v : Value) (w : World) : (Instr.typeAssert (.iface 330 v) 325 332 true).run Tryz.prog w = .ok (.tuple #[.agg #[.int .i64 0, .int .i64 0, .int .i64 0], .bool false]) w := by kernel_rfl
theorem as_number_send (v : Value) (w : World) : (Instr.typeAssert (.iface 330 v) 325 334 true).run Tryz.prog w = .ok (.tuple #[.agg #[.int .i64 0, .int .i64 0, .int .i64 0, .string ByteArray.empty], .bool false]) w := by kernel_rfl
theorem as_number_text (v : Value) (w : World) : (Instr.typeAssert (.iface 330 v) 325 336 true).run Tryz.prog w = .ok (.tuple #[.agg #[.int .i64 0, .int .i64 0, .string ByteArray.empty], .bool false]) w := by kernel_rfl
theorem as_wait_bare (v : Value) (w : World) : (Instr.typeAssert (.iface 332 v) 325 338 true).run Tryz.prog w = .ok (.tuple #[.agg #[.int .i64 0], .bool false]) w := by kernel_rfl
theorem as_wait_number (v : Value) (w : World) : (Instr.typeAssert (.iface 332 v) 325 330 true).run Tryz.prog w = .ok (.tuple #[.agg #[.int .i64 0, .int .i64 0], .bool false]) w := by kernel_rfl
theorem as_wait_wait (v : Value) (w : World) : (Instr.typeAssert (.iface 332 v) 325 332 true).run Tryz.prog w = .ok (.tuple #[v, .bool true]) w := by kernel_rfl
theorem as_wait_send (v : Value) (w : World) : (Instr.typeAssert (.iface 332 v) 325 334 true).run Tryz.prog w = .ok (.tuple #[.agg #[.int .i64 0, .int .i64 0, .int .i64 0, .string ByteArray.empty], .bool false]) w := by kernel_rfl
theorem as_wait_text (v : Value) (w : World) : (Instr.typeAssert (.iface 332 v) 325 336 true).run Tryz.prog w = .ok (.tuple #[.agg #[.int .i64 0, .int .i64 0, .string ByteArray.empty], .bool false]) w := by kernel_rfl
theorem as_send_bare (v : Value) (w : World) : (Instr.typeAssert (.iface 334 v) 325 338 true).run Tryz.prog w = .ok (.tuple #[.agg #[.int .i64 0], .bool false]) w := by kernel_rfl
theorem as_send_number (v : Value) (w : World) : (Instr.typeAssert (.iface 334 v) 325 330 true).run Tryz.prog w = .ok (.tuple #[.agg #[.int .i64 0, .int .i64 0], .bool false]) w := by kernel_rfl
theorem as_send_wait (v : Value) (w : World) : (Instr.typeAssert (.iface 334 v) 325 332 true).run Tryz.prog w = .ok (.tuple #[.agg #[.int .i64 0, .int .i64 0, .int .i64 0], .bool false]) w := by kernel_rfl
theorem as_send_send (v : Value) (w : World) : (Instr.typeAssert (.iface 334 v) 325 334 true).run Tryz.prog w = .ok (.tuple #[v, .bool true]) w := by kernel_rfl
theorem as_send_text (v : Value) (w : World) : (Instr.typeAssert (.iface 334 v) 325 336 true).run Tryz.prog w = .ok (.tuple #[.agg #[.int .i64 0, .int .i64 0, .string ByteArray.empty], .bool false]) w := by kernel_rfl
theorem as_text_bare (v : Value) (w : World) : (Instr.typeAssert (.iface 336 v) 325 338 true).run Tryz.prog w = .ok (.tuple #[.agg #[.int .i64 0], .bool false]) w := by kernel_rfl
theorem as_text_number (v : Value) (w : World) : (Instr.typeAssert (.iface 336 v) 325 330 true).run Tryz.prog w = .ok (.tuple #[.agg #[.int .i64 0, .int .i64 0], .bool false]) w := by kernel_rfl
theorem as_text_wait (v : Value) (w : World) : (Instr.typeAssert (.iface 336 v) 325 332 true).run Tryz.prog w = .ok (.tuple #[.agg #[.int .i64 0, .int .i64 0, .int .i64 0], .bool false]) w := by kernel_rfl
theorem as_text_send (v : Value) (w : World) : (Instr.typeAssert (.iface 336 v) 325 334 true).run Tryz.prog w = .ok (.tuple #[.agg #[.int .i64 0, .int .i64 0, .int .i64 0, .string ByteArray.empty], .bool false]) w := by kernel_rfl
theorem as_text_text (v : Value) (w : World) : (Instr.typeAssert (.iface 336 v) 325 336 true).run Tryz.prog w = .ok (.tuple #[v, .bool true]) w := by kernel_rfl

set_option maxHeartbeats 4000000 in
theorem formOk_bare (k : Int) (w : World) :
  Calls Tryz.prog 291 #[.iface 338 (.agg #[.int .i64 k])] w fun e w' => e = .returned (.bool (true)) ∧ Below w.heap.size w w' := by
 have h_bare := as_bare_bare (.agg #[.int .i64 k])
 go_enter Tryz.func291, Tryz.ntmps291
 go_wp2_with (first | (go_at_call 164; refine (isNumber_any _ _).mono ?_; rintro e w' ⟨rfl, rfl⟩) | (go_at_call 292; refine (isPatience_any _ _).mono ?_; rintro e w' ⟨rfl, rfl⟩))
 all_goals go_ret
 all_goals exact ⟨ret_bool (by simp_all), by go_grown⟩

set_option maxHeartbeats 4000000 in
theorem formOk_number (k n : Int) (w : World) :
  Calls Tryz.prog 291 #[.iface 330 (.agg #[.int .i64 k, .int .i64 n])] w fun e w' => e = .returned (.bool (inB n 1 1000)) ∧ Below w.heap.size w w' := by
 have h_bare := as_number_bare (.agg #[.int .i64 k, .int .i64 n])
 have h_number := as_number_number (.agg #[.int .i64 k, .int .i64 n])
 go_enter Tryz.func291, Tryz.ntmps291
 go_wp2_with (first | (go_at_call 164; refine (isNumber_any _ _).mono ?_; rintro e w' ⟨rfl, rfl⟩) | (go_at_call 292; refine (isPatience_any _ _).mono ?_; rintro e w' ⟨rfl, rfl⟩))
 all_goals go_ret
 all_goals exact ⟨ret_bool (by simp_all), by go_grown⟩

set_option maxHeartbeats 4000000 in
theorem formOk_wait (k n m : Int) (w : World) :
  Calls Tryz.prog 291 #[.iface 332 (.agg #[.int .i64 k, .int .i64 n, .int .i64 m])] w fun e w' => e = .returned (.bool (inB n 1 1000 && inB m (-1) 1000)) ∧ Below w.heap.size w w' := by
 have h_bare := as_wait_bare (.agg #[.int .i64 k, .int .i64 n, .int .i64 m])
 have h_number := as_wait_number (.agg #[.int .i64 k, .int .i64 n, .int .i64 m])
 have h_wait := as_wait_wait (.agg #[.int .i64 k, .int .i64 n, .int .i64 m])
 go_enter Tryz.func291, Tryz.ntmps291
 go_wp2_with (first | (go_at_call 164; refine (isNumber_any _ _).mono ?_; rintro e w' ⟨rfl, rfl⟩) | (go_at_call 292; refine (isPatience_any _ _).mono ?_; rintro e w' ⟨rfl, rfl⟩))
 all_goals go_ret
 all_goals exact ⟨ret_bool (by simp_all), by go_grown⟩

set_option maxHeartbeats 4000000 in
theorem formOk_send (k n m : Int) (s : ByteArray) (w : World) (hs : s.size ≤ 1048576) :
  Calls Tryz.prog 291 #[.iface 334 (.agg #[.int .i64 k, .int .i64 n, .int .i64 m, .string s])] w fun e w' => e = .returned (.bool (inB n 1 1000 && inB m (-1) 1000 && plainB s)) ∧ Below w.heap.size w w' := by
 have h_bare := as_send_bare (.agg #[.int .i64 k, .int .i64 n, .int .i64 m, .string s])
 have h_number := as_send_number (.agg #[.int .i64 k, .int .i64 n, .int .i64 m, .string s])
 have h_wait := as_send_wait (.agg #[.int .i64 k, .int .i64 n, .int .i64 m, .string s])
 have h_send := as_send_send (.agg #[.int .i64 k, .int .i64 n, .int .i64 m, .string s])
 go_enter Tryz.func291, Tryz.ntmps291
 go_wp2_with (first | (go_at_call 164; refine (isNumber_any _ _).mono ?_; rintro e w' ⟨rfl, rfl⟩) | (go_at_call 292; refine (isPatience_any _ _).mono ?_; rintro e w' ⟨rfl, rfl⟩) | (go_at_call 285; refine (isPlain_any _ _ hs).mono ?_; rintro e w' ⟨rfl, rfl⟩))
 all_goals go_ret
 all_goals exact ⟨ret_bool (by simp_all), by go_grown⟩

set_option maxHeartbeats 4000000 in
theorem formOk_text (k n : Int) (s : ByteArray) (w : World) (hs : s.size ≤ 1048576) :
  Calls Tryz.prog 291 #[.iface 336 (.agg #[.int .i64 k, .int .i64 n, .string s])] w fun e w' => e = .returned (.bool (inB n 1 1000 && plainB s)) ∧ Below w.heap.size w w' := by
 have h_bare := as_text_bare (.agg #[.int .i64 k, .int .i64 n, .string s])
 have h_number := as_text_number (.agg #[.int .i64 k, .int .i64 n, .string s])
 have h_wait := as_text_wait (.agg #[.int .i64 k, .int .i64 n, .string s])
 have h_send := as_text_send (.agg #[.int .i64 k, .int .i64 n, .string s])
 have h_text := as_text_text (.agg #[.int .i64 k, .int .i64 n, .string s])
 go_enter Tryz.func291, Tryz.ntmps291
 go_wp2_with (first | (go_at_call 164; refine (isNumber_any _ _).mono ?_; rintro e w' ⟨rfl, rfl⟩) | (go_at_call 292; refine (isPatience_any _ _).mono ?_; rintro e w' ⟨rfl, rfl⟩) | (go_at_call 285; refine (isPlain_any _ _ hs).mono ?_; rintro e w' ⟨rfl, rfl⟩))
 all_goals go_ret
 all_goals exact ⟨ret_bool (by simp_all), by go_grown⟩

end Go.Proofs.YtkbcplnlehdjfaaGreat

/- A region that draws its order, of operations that each leave one and the same value in every world that keeps a condition, and keep it: whatever the order, it ends in one and the same state. -/
namespace Go.Proofs.YtkbcplnlehdjfaaGreat
open Go

section
variable {P : Program} {ops : Array Oper} {Q : Exit → Act → World → Prop} {md : Region.Mode} {S : World → Prop}

/-- What an operation comes to: that value, and the condition is kept. -/
def Comes (P : Program) (S : World → Prop) (v : Value) : Result Next → Prop
  | .ok (.value u) w' => u = v ∧ S w'
  | .ok .skip w' => v = undef ∧ S w'
  | .ok (.enter f args) w' => Calls P f args w' (fun e w'' => e = .returned v ∧ S w'')
  | _ => False
/-- In that state the operation leaves v in its slot, in every world that keeps the condition, and keeps it. -/
def Does (P : Program) (ops : Array Oper) (S : World → Prop) (o : Oper) (v : Value) (a : Act) : Prop :=
  (Region.wanted o (yielded ops a.tmps) = true ∧ ∀ w, S w → Comes P S v ((execOp a.eval o).run P w)) ∨
  (Region.wanted o (yielded ops a.tmps) = false ∧ v = undef)

theorem Does.of_same {o : Oper} {v : Value} {a a' : Act} (hy : Does P ops S o v a) (he : execOp a'.eval o = execOp a.eval o)
    (hw : Region.wanted o (yielded ops a'.tmps) = Region.wanted o (yielded ops a.tmps)) : Does P ops S o v a' := by
  unfold Does at *
  rw [he, hw]
  exact hy
theorem Does.wpOp {i : Nat} {o : Oper} {v : Value} {a : Act} (hi : ops[i]? = some o) (hy : Does P ops S o v a)
    {K : Act → World → Prop} {w : World} (hS : S w) (h : ∀ w', S w' → K (a.put o.dst v) w') : wpOp P ops Q i K a w := by
  unfold Go.wpOp
  simp only [hi]
  rcases hy with ⟨hw, hv⟩ | ⟨hw, rfl⟩
  · simp only [hw, if_true]
    refine .inl ?_
    have hc := hv w hS
    unfold Oper.wp
    generalize (execOp a.eval o).run P w = r at *
    cases r with
    | ok n w' =>
      cases n <;> simp only [Comes, Oper.upon] at hc ⊢
      case value u =>
        obtain ⟨rfl, hS'⟩ := hc
        exact h _ hS'
      case skip =>
        obtain ⟨rfl, hS'⟩ := hc
        exact h _ hS'
      case enter f args =>
        refine Calls.mono hc fun e w'' he => ?_
        obtain ⟨rfl, hS'⟩ := he
        exact h _ hS'
    | halt x w' => exact hc.elim
  · simp only [hw, Bool.false_eq_true, if_false]
    exact h _ hS

theorem wpOp_putD {j : Nat} {oi oj : Oper} {v : Value} (hj : ops[j]? = some oj) (hap : oi.apart ops oj = true)
    (hsi : ∀ cs b, oi.op ≠ .select cs b) (hsj : ∀ cs b, oj.op ≠ .select cs b)
    (hQ : ∀ c a w, Q (.panic c) (a.put oi.dst v) w → Q (.panic c) a w) {K : Act → World → Prop} {a : Act} {w : World}
    (hy : Does P ops S oi v a) (h : wpOp P ops Q j K (a.put oi.dst v) w) :
    wpOp P ops Q j (fun a' w' => Does P ops S oi v a' ∧ K (a'.put oi.dst v) w') a w := by
  obtain ⟨h1, h2, h3⟩ := Oper.apart_spec hap
  have keep : ∀ (a : Act), Does P ops S oi v a → ∀ u, Does P ops S oi v (a.put oj.dst u) := fun a hy u =>
    hy.of_same (execOp_put oi hsi a oj.dst u h3) (wanted_put oi a oj.dst u h3)
  have keepD : ∀ d, Does P ops S oi v { a with defers := d :: a.defers } := fun d => hy.of_same rfl rfl
  unfold wpOp at *
  simp only [hj] at *
  rw [wanted_put oj a oi.dst v h1] at h
  split
  · rename_i hw
    simp only [hw, if_true] at h
    rcases h with h | ⟨hasks, hlets⟩
    case inr => exact .inr ⟨by unfold Oper.asks at *; rw [execOp_put oj hsj a oi.dst v h1] at hasks; exact hasks, hlets⟩
    refine .inl ?_
    unfold Oper.wp at *
    rw [execOp_put oj hsj a oi.dst v h1] at h
    generalize (execOp a.eval oj).run P w = r at *
    cases r with
    | ok n w' =>
      cases n <;> simp only [Oper.upon] at h ⊢
      case value u => exact ⟨keep a hy u, by rw [← Act.put_comm a v u h2]; exact h⟩
      case skip => exact ⟨keep a hy _, by rw [← Act.put_comm a v undef h2]; exact h⟩
      case defer d =>
        refine ⟨keep _ (keepD d) _, ?_⟩
        rw [← Act.put_comm _ v undef h2, ← Act.put_defers]
        exact h
      case enter f args =>
        refine Calls.mono h fun e w'' he => ?_
        cases e with
        | returned u => exact ⟨keep a hy u, by rw [← Act.put_comm a v u h2]; exact he⟩
        | panicked c => exact hQ _ _ _ he
        | outgrown => exact he
      case row row args => exact Rows.mono h fun u w'' he => ⟨keep a hy u, by rw [← Act.put_comm a v u h2]; exact he⟩
    | halt x w' =>
      cases x <;> simp only [Oper.upon] at h ⊢
      case panic u => exact hQ _ _ _ h
  · rename_i hw
    simp only [hw] at h
    exact ⟨keep a hy _, by rw [← Act.put_comm a v undef h2]; exact h⟩

/-- Whatever order is picked from here on, in whatever world that keeps the condition. -/
def wpAnyD (P : Program) (md : Region.Mode) (ops : Array Oper) (Q : Exit → Act → World → Prop) (S : World → Prop) : Nat → Array Bool → Act → Prop
  | 0, listed, a => Region.ready md ops listed = [] ∧ ∀ w, S w → Q .normal a w
  | fuel + 1, listed, a =>
    (Region.ready md ops listed = [] → ∀ w, S w → Q .normal a w) ∧
    ∀ i ∈ Region.ready md ops listed, ∀ w, S w → wpOp P ops Q i (fun a' w' => S w' ∧ wpAnyD P md ops Q S fuel (listed.setIfInBounds i true) a') a w

theorem wpAny_of_does : ∀ (fuel : Nat) (listed : Array Bool) (a : Act) (w : World), S w → wpAnyD P md ops Q S fuel listed a → wpAny P md ops Q fuel listed a w
  | 0, _, _, w, hS, h => ⟨h.1, h.2 w hS⟩
  | fuel + 1, _, _, w, hS, h => ⟨fun h0 => h.1 h0 w hS, fun i hi => wpOp_mono (fun a' w' h' => wpAny_of_does fuel _ a' w' h'.1 h'.2) (h.2 i hi w hS)⟩

theorem wpAnyD_first {i : Nat} {oi : Oper} {v : Value} (hi : ops[i]? = some oi) (hsel : ∀ (j : Nat) (o : Oper) cs b, ops[j]? = some o → o.op ≠ .select cs b)
    (hQ : ∀ c a w, Q (.panic c) (a.put oi.dst v) w → Q (.panic c) a w) :
    ∀ (fuel : Nat) (listed : Array Bool) (a : Act),
      (∀ j oj, ops[j]? = some oj → j ≠ i → listed.getD j true = false → (∀ e ∈ oj.after, Region.binds md e = true → e.on ≠ i) → oi.apart ops oj = true) →
      i ∈ Region.ready md ops listed → Does P ops S oi v a →
      wpAnyD P md ops Q S fuel (listed.setIfInBounds i true) (a.put oi.dst v) → wpAnyD P md ops Q S (fuel + 1) listed a := by
  intro fuel
  induction fuel with
  | zero =>
    intro listed a _ hr hy H
    refine ⟨fun h => (by rw [h] at hr; cases hr), fun j hj w hS => ?_⟩
    by_cases hji : j = i
    · subst hji
      exact hy.wpOp hi hS fun w' hS' => ⟨hS', H⟩
    · have := ready_mono hj hji
      rw [H.1] at this
      cases this
  | succ fuel ih =>
    intro listed a hfree hr hy H
    refine ⟨fun h => (by rw [h] at hr; cases hr), fun j hj w hS => ?_⟩
    by_cases hji : j = i
    · subst hji
      exact hy.wpOp hi hS fun w' hS' => ⟨hS', H⟩
    · have h1 := H.2 j (ready_mono hj hji) w hS
      obtain ⟨hjun, oj, hoj, hall⟩ := mem_ready.1 hj
      have hnot : ∀ e ∈ oj.after, Region.binds md e = true → e.on ≠ i := fun e he hb heq => by
        have h1 := hall e he hb
        have h0 := (mem_ready.1 hr).1
        rw [heq] at h1
        rcases Nat.lt_or_ge i listed.size with h' | h'
        · simp [h'] at h0 h1; rw [h0] at h1; cases h1
        · simp [Array.getElem?_eq_none h'] at h1
      have h2 := wpOp_putD hoj (hfree j oj hoj hji hjun hnot) (fun cs b => hsel i oi cs b hi) (fun cs b => hsel j oj cs b hoj) hQ hy h1
      have hfree' : ∀ k ok, ops[k]? = some ok → k ≠ i → (listed.setIfInBounds j true).getD k true = false →
          (∀ e ∈ ok.after, Region.binds md e = true → e.on ≠ i) → oi.apart ops ok = true := fun k ok hk hki hun hno => by
        refine hfree k ok hk hki ?_ hno
        by_cases hjk : j = k
        · subst hjk; exact hjun
        · rw [getD_set_ne true hjk] at hun; exact hun
      refine wpOp_mono (fun a' w' h3 => ⟨h3.2.1, ih (listed.setIfInBounds j true) a' hfree' (ready_mono hr (Ne.symm hji)) h3.1 ?_⟩) h2
      rw [Array.setIfInBounds_comm _ _ hji]
      exact h3.2.2

/-- The next operation of the text. -/
theorem tame_take {i : Nat} {oi : Oper} {v : Value} {fuel : Nat} {listed : Array Bool} {a : Act} (hi : ops[i]? = some oi)
    (hs : Region.noSelect ops = true) (hf : Region.free md ops listed i = true) (hr : (Region.ready md ops listed).contains i = true)
    (hQ : ∀ c a w, Q (.panic c) (a.put oi.dst v) w → Q (.panic c) a w) (hy : Does P ops S oi v a)
    (h : wpAnyD P md ops Q S fuel (listed.setIfInBounds i true) (a.put oi.dst v)) : wpAnyD P md ops Q S (fuel + 1) listed a :=
  wpAnyD_first hi (Region.noSelect_spec hs) hQ fuel listed a (Region.free_spec hi hf) (by simpa using hr) hy h
/-- The same, the slot named. -/
theorem tame_at {i : Nat} (d : Option Tmp) {oi : Oper} {v : Value} {fuel : Nat} {listed : Array Bool} {a : Act} (hi : ops[i]? = some oi) (hd : oi.dst = d)
    (hs : Region.noSelect ops = true) (hf : Region.free md ops listed i = true) (hr : (Region.ready md ops listed).contains i = true)
    (hQ : ∀ c a w, Q (.panic c) (a.put d v) w → Q (.panic c) a w) (hy : Does P ops S oi v a)
    (h : wpAnyD P md ops Q S fuel (listed.setIfInBounds i true) (a.put d v)) : wpAnyD P md ops Q S (fuel + 1) listed a := by
  subst hd
  exact tame_take hi hs hf hr hQ hy h
/-- The same, its checks in one. -/
def tmB (md : Region.Mode) (ops : Array Oper) (listed : Array Bool) (i : Nat) (oi : Oper) (d : Option Tmp) : Bool := decide (oi.dst = d) && Region.noSelect ops && Region.free md ops listed i && (Region.ready md ops listed).contains i
theorem tm (i : Nat) (d : Option Tmp) {oi : Oper} {v : Value} {fuel : Nat} {listed : Array Bool} {a : Act} (hi : ops[i]? = some oi) (hc : tmB md ops listed i oi d = true)
    (hQ : ∀ c a w, Q (.panic c) (a.put d v) w → Q (.panic c) a w) (hy : Does P ops S oi v a)
    (h : wpAnyD P md ops Q S fuel (listed.setIfInBounds i true) (a.put d v)) : wpAnyD P md ops Q S (fuel + 1) listed a := by
  simp only [tmB, Bool.and_eq_true, decide_eq_true_eq] at hc
  exact tame_at d hi hc.1.1.1 hc.1.1.2 hc.1.2 hc.2 hQ hy h
theorem pt (a : Act) (d : Tmp) (v : Value) : a.put (some d) v = { a with tmps := a.tmps.setIfInBounds d v } := rfl
theorem sb {α : Type} {l : List α} {i : Nat} {x : α} : l.toArray.setIfInBounds i x = (l.set i x).toArray := by simp
theorem s0 {α : Type} {l : List α} {x y : α} : (x :: l).set 0 y = y :: l := rfl
theorem s1 {α : Type} {l : List α} {x y : α} {n : Nat} : (x :: l).set (n + 1) y = x :: l.set n y := rfl
theorem tame_done {listed : Array Bool} {a : Act} (hr : Region.ready md ops listed = []) (h : ∀ w, S w → Q .normal a w) : ∀ fuel, wpAnyD P md ops Q S fuel listed a
  | 0 => ⟨hr, h⟩
  | _ + 1 => ⟨fun _ => h, by rw [hr]; simp⟩
theorem tame_region {id : Nat} {a : Act} {w : World} (S : World → Prop) (hm : P.follows .mixedOrders = true) (hS : S w.drew)
    (h : wpAnyD P .any ops Q S ops.size (Array.replicate ops.size false) a) : (Code.region id ops true).wp P Q a w :=
  wp_region_any hm (wpAny_of_does _ _ _ _ hS h)

/-! ### A region whose last operation may turn what the others keep -/
def Closed (md : Region.Mode) (ops : Array Oper) (listed : Array Bool) : Prop := ∀ (j : Nat) (o : Oper), ops[j]? = some o → listed.getD j false = true → ∀ e ∈ o.after, Region.binds md e = true → listed.getD e.on false = true
def closedB (md : Region.Mode) (ops : Array Oper) (listed : Array Bool) : Bool :=
  (List.range ops.size).all fun j => !listed.getD j false || ((ops[j]?).map fun o => o.after.all fun e => !Region.binds md e || listed.getD e.on false).getD true
theorem closedB_spec {listed : Array Bool} (h : closedB md ops listed = true) : Closed md ops listed := fun j o ho hl e he hb => by
  simp only [closedB, List.all_eq_true, List.mem_range] at h
  have h1 := h j (Array.getElem?_eq_some_iff.1 ho).1
  rw [hl, ho] at h1
  simp only [Bool.not_true, Bool.false_or, Option.map_some, Option.getD_some, Array.all_eq_true_iff_forall_mem, Bool.or_eq_true, Bool.not_eq_true'] at h1
  rcases h1 e he with h2 | h2
  · rw [hb] at h2; cases h2
  · exact h2
theorem Closed.set {listed : Array Bool} {j : Nat} (h : Closed md ops listed) (hj : j ∈ Region.ready md ops listed) : Closed md ops (listed.setIfInBounds j true) := fun k o ho hl e he hb => by
  obtain ⟨_, o', ho', hall⟩ := mem_ready.1 hj
  by_cases hjk : j = k
  · subst hjk
    rw [ho'] at ho
    cases ho
    exact getD_set_true (hall e he hb)
  · rw [getD_set_ne false hjk] at hl
    exact getD_set_true (h k o ho hl e he hb)
def preB (md : Region.Mode) (ops : Array Oper) : Nat → Nat → Nat → Bool
  | 0, x, i => x == i
  | n + 1, x, i => x == i || ((ops[x]?).map fun o => o.after.any fun e => Region.binds md e && preB md ops n e.on i).getD false
theorem pre_listed {listed : Array Bool} (hc : Closed md ops listed) {i : Nat} : ∀ (n x : Nat), listed.getD x false = true → preB md ops n x i = true → listed.getD i false = true
  | 0, x, hx, h => by
    have e : x = i := by simpa [preB] using h
    rw [← e]
    exact hx
  | n + 1, x, hx, h => by
    simp only [preB, Bool.or_eq_true, beq_iff_eq] at h
    rcases h with e | h
    · rw [← e]
      exact hx
    · cases ho : ops[x]? with
      | none => rw [ho] at h; simp at h
      | some o =>
        rw [ho] at h
        simp only [Option.map_some, Option.getD_some, Array.any_eq_true'] at h
        obtain ⟨e, he, h2⟩ := h
        simp only [Bool.and_eq_true] at h2
        exact pre_listed hc n e.on (hc x o ho hx e he h2.1) h2.2
theorem not_ready_of_pre {listed : Array Bool} (hc : Closed md ops listed) {i L n : Nat} (hp : preB md ops n L i = true) (hne : ¬ i = L) (hi : listed.getD i true = false) : L ∉ Region.ready md ops listed := fun hL => by
  obtain ⟨_, o, ho, hall⟩ := mem_ready.1 hL
  have hi' : ¬ listed.getD i false = true := fun h => by
    rcases Nat.lt_or_ge i listed.size with h' | h'
    · simp [h'] at h hi
      rw [h] at hi
      cases hi
    · simp [Array.getElem?_eq_none h'] at h
  cases n with
  | zero => exact hne (by have e : L = i := by simpa [preB] using hp
                          exact e.symm)
  | succ n =>
    simp only [preB, Bool.or_eq_true, beq_iff_eq] at hp
    rcases hp with e | h
    · exact hne e.symm
    · rw [ho] at h
      simp only [Option.map_some, Option.getD_some, Array.any_eq_true'] at h
      obtain ⟨e, he, h2⟩ := h
      simp only [Bool.and_eq_true] at h2
      exact hi' (pre_listed hc n e.on (hall e he h2.1) h2.2)

/-- Whatever order is picked from here on; L comes last. -/
def wpAnyL (P : Program) (md : Region.Mode) (ops : Array Oper) (Q : Exit → Act → World → Prop) (S : World → Prop) (L : Nat) : Nat → Array Bool → Act → Prop
  | 0, _, _ => False
  | fuel + 1, listed, a =>
    Region.ready md ops listed ≠ [] ∧
    ∀ i ∈ Region.ready md ops listed, ∀ w, S w →
      (i = L ∧ Region.ready md ops (listed.setIfInBounds L true) = [] ∧ wpOp P ops Q L (fun a' w' => Q .normal a' w') a w) ∨
      (i ≠ L ∧ wpOp P ops Q i (fun a' w' => S w' ∧ wpAnyL P md ops Q S L fuel (listed.setIfInBounds i true) a') a w)
theorem wpAny_of_last {L : Nat} : ∀ (fuel : Nat) (listed : Array Bool) (a : Act) (w : World), S w → wpAnyL P md ops Q S L fuel listed a → wpAny P md ops Q fuel listed a w
  | 0, _, _, _, _, h => h.elim
  | fuel + 1, listed, a, w, hS, h => ⟨fun h0 => absurd h0 h.1, fun i hi => by
    rcases h.2 i hi w hS with ⟨rfl, h1, h2⟩ | ⟨_, h2⟩
    · exact wpOp_mono (fun a' w' h' => wpAny_done h1 h' fuel) h2
    · exact wpOp_mono (fun a' w' h' => wpAny_of_last fuel _ a' w' h'.1 h'.2) h2⟩
theorem wpAnyL_first {L i n : Nat} {oi : Oper} {v : Value} (hi : ops[i]? = some oi) (hsel : ∀ (j : Nat) (o : Oper) cs b, ops[j]? = some o → o.op ≠ .select cs b)
    (hQ : ∀ c a w, Q (.panic c) (a.put oi.dst v) w → Q (.panic c) a w) (hp : preB md ops n L i = true) (hne : ¬ i = L) :
    ∀ (fuel : Nat) (listed : Array Bool) (a : Act), Closed md ops listed →
      (∀ j oj, ops[j]? = some oj → j ≠ i → listed.getD j true = false → (∀ e ∈ oj.after, Region.binds md e = true → e.on ≠ i) → oi.apart ops oj = true) →
      i ∈ Region.ready md ops listed → Does P ops S oi v a →
      wpAnyL P md ops Q S L fuel (listed.setIfInBounds i true) (a.put oi.dst v) → wpAnyL P md ops Q S L (fuel + 1) listed a := by
  intro fuel
  induction fuel with
  | zero => intro listed a _ _ _ _ H; exact H.elim
  | succ fuel ih =>
    intro listed a hcl hfree hr hy H
    refine ⟨fun h => (by rw [h] at hr; cases hr), fun j hj w hS => ?_⟩
    have hjL : ¬ j = L := fun e => by
      subst e
      exact not_ready_of_pre hcl hp hne (mem_ready.1 hr).1 hj
    refine .inr ⟨hjL, ?_⟩
    by_cases hji : j = i
    · subst hji
      exact hy.wpOp hi hS fun w' hS' => ⟨hS', H⟩
    · have h1 := (H.2 j (ready_mono hj hji) w hS).resolve_left (fun h => hjL h.1)
      obtain ⟨hjun, oj, hoj, hall⟩ := mem_ready.1 hj
      have hnot : ∀ e ∈ oj.after, Region.binds md e = true → e.on ≠ i := fun e he hb heq => by
        have h1 := hall e he hb
        have h0 := (mem_ready.1 hr).1
        rw [heq] at h1
        rcases Nat.lt_or_ge i listed.size with h' | h'
        · simp [h'] at h0 h1; rw [h0] at h1; cases h1
        · simp [Array.getElem?_eq_none h'] at h1
      have h2 := wpOp_putD hoj (hfree j oj hoj hji hjun hnot) (fun cs b => hsel i oi cs b hi) (fun cs b => hsel j oj cs b hoj) hQ hy h1.2
      have hfree' : ∀ k ok, ops[k]? = some ok → k ≠ i → (listed.setIfInBounds j true).getD k true = false →
          (∀ e ∈ ok.after, Region.binds md e = true → e.on ≠ i) → oi.apart ops ok = true := fun k ok hk hki hun hno => by
        refine hfree k ok hk hki ?_ hno
        by_cases hjk : j = k
        · subst hjk; exact hjun
        · rw [getD_set_ne true hjk] at hun; exact hun
      refine wpOp_mono (fun a' w' h3 => ⟨h3.2.1, ih (listed.setIfInBounds j true) a' (hcl.set hj) hfree' (ready_mono hr (Ne.symm hji)) h3.1 ?_⟩) h2
      rw [Array.setIfInBounds_comm _ _ hji]
      exact h3.2.2
/-- The next operation of the text, the slot named; n: how far back the last one's waits are looked through. -/
theorem last_at {L i : Nat} (n : Nat) (d : Option Tmp) {oi : Oper} {v : Value} {fuel : Nat} {listed : Array Bool} {a : Act} (hi : ops[i]? = some oi) (hd : oi.dst = d)
    (hs : Region.noSelect ops = true) (hf : Region.free md ops listed i = true) (hr : (Region.ready md ops listed).contains i = true) (hp : (preB md ops n L i && (i != L) && closedB md ops listed) = true)
    (hQ : ∀ c a w, Q (.panic c) (a.put d v) w → Q (.panic c) a w) (hy : Does P ops S oi v a)
    (h : wpAnyL P md ops Q S L fuel (listed.setIfInBounds i true) (a.put d v)) : wpAnyL P md ops Q S L (fuel + 1) listed a := by
  subst hd
  simp only [Bool.and_eq_true, bne_iff_ne, ne_eq] at hp
  exact wpAnyL_first hi (Region.noSelect_spec hs) hQ hp.1.1 hp.1.2 fuel listed a (closedB_spec hp.2) (Region.free_spec hi hf) (by simpa using hr) hy h
def lsB (md : Region.Mode) (ops : Array Oper) (listed : Array Bool) (i L n : Nat) (oi : Oper) (d : Option Tmp) : Bool := tmB md ops listed i oi d && (preB md ops n L i && (i != L) && closedB md ops listed)
theorem ls {L : Nat} (i n : Nat) (d : Option Tmp) {oi : Oper} {v : Value} {fuel : Nat} {listed : Array Bool} {a : Act} (hi : ops[i]? = some oi) (hc : lsB md ops listed i L n oi d = true)
    (hQ : ∀ c a w, Q (.panic c) (a.put d v) w → Q (.panic c) a w) (hy : Does P ops S oi v a)
    (h : wpAnyL P md ops Q S L fuel (listed.setIfInBounds i true) (a.put d v)) : wpAnyL P md ops Q S L (fuel + 1) listed a := by
  simp only [lsB, tmB, Bool.and_eq_true, decide_eq_true_eq] at hc
  exact last_at n d hi hc.1.1.1.1 hc.1.1.1.2 hc.1.1.2 hc.1.2 (by simp only [Bool.and_eq_true]; exact hc.2) hQ hy h
/-- The last one: it is carried out in whatever world keeps the condition. -/
theorem last_done {L : Nat} {oL : Oper} {fuel : Nat} {listed : Array Bool} {a : Act} (hi : ops[L]? = some oL) (hr : Region.ready md ops listed = [L]) (hr' : Region.ready md ops (listed.setIfInBounds L true) = [])
    (hw : Region.wanted oL (yielded ops a.tmps) = true) (h : ∀ w, S w → oL.wp P a w (fun a' w' => Q .normal a' w') Q) : wpAnyL P md ops Q S L (fuel + 1) listed a := by
  refine ⟨by rw [hr]; simp, fun i hi' w hS => ?_⟩
  rw [hr] at hi'
  have e : i = L := by simpa using hi'
  refine .inl ⟨e, hr', ?_⟩
  unfold wpOp
  simp only [hi, hw, if_true]
  exact .inl (h w hS)
theorem last_region {id : Nat} {a : Act} {w : World} (S : World → Prop) (L : Nat) (hm : P.follows .mixedOrders = true) (hS : S w.drew)
    (h : wpAnyL P .any ops Q S L ops.size (Array.replicate ops.size false) a) : (Code.region id ops true).wp P Q a w :=
  wp_region_any hm (wpAny_of_last _ _ _ _ hS h)

theorem does_skip {o : Oper} {a : Act} (h : Region.wanted o (yielded ops a.tmps) = false) : Does P ops S o undef a := .inr ⟨h, rfl⟩
theorem does_yield {o : Oper} {v : Value} {a : Act} (hw : Region.wanted o (yielded ops a.tmps) = true) (h : ∀ w, S w → (execOp a.eval o).run P w = .ok (.value v) w) : Does P ops S o v a :=
  .inl ⟨hw, fun w hS => by rw [h w hS]; exact ⟨rfl, hS⟩⟩
theorem does_call {o : Oper} {v : Value} {a : Act} {f : FuncId} {args : Array Value} (hw : Region.wanted o (yielded ops a.tmps) = true) (h : ∀ w, S w → (execOp a.eval o).run P w = .ok (.enter f args) w)
    (hc : ∀ w, S w → Calls P f args w (fun e w' => e = .returned v ∧ S w')) : Does P ops S o v a :=
  .inl ⟨hw, fun w hS => by rw [h w hS]; exact hc w hS⟩
theorem does_turn {o : Oper} {v : Value} {a : Act} (hw : Region.wanted o (yielded ops a.tmps) = true) (h : ∀ w, S w → ∃ w', (execOp a.eval o).run P w = .ok (.value v) w' ∧ S w') : Does P ops S o v a :=
  .inl ⟨hw, fun w hS => by
    obtain ⟨w', h1, h2⟩ := h w hS
    rw [h1]
    exact ⟨rfl, h2⟩⟩
theorem does_still {o : Oper} {a : Act} (hw : Region.wanted o (yielded ops a.tmps) = true) (h : ∀ w, S w → ∃ w', (execOp a.eval o).run P w = .ok .skip w' ∧ S w') : Does P ops S o undef a :=
  .inl ⟨hw, fun w hS => by
    obtain ⟨w', h1, h2⟩ := h w hS
    rw [h1]
    exact ⟨rfl, h2⟩⟩
end

end Go.Proofs.YtkbcplnlehdjfaaGreat

/- Shelves: maps from numbers to things that lie in blocks of their own. -/
namespace Go.Proofs.YtkbcplnlehdjfaaGreat
open Go.RowKit Go.Maps

theorem below_undrew' {B : Nat} {w w' : World} (h : Below B w.drew w') : Below B w w' := ⟨h.os, h.tape, h.output, h.size, h.block⟩

/-- A list of texts lies, and is not too long for a machine. -/
structure TextsFit (w : World) (a : Option Addr) (l : List ByteArray) : Prop where
 len : l.length ≤ 1048576
 short : ∀ s ∈ l, s.size ≤ 1048576
 row : Row w a (strK.flat l)
theorem TextsFit.below {w w' : World} {a : Option Addr} {l : List ByteArray} (h : TextsFit w a l) (hb : Below w.heap.size w w') : TextsFit w' a l := ⟨h.len, h.short, h.row.below hb⟩

set_option maxHeartbeats 1000000 in
theorem itemsOk_any (a : Option Addr) (l : List ByteArray) (cap : Nat) (most : Int) (w : World) (h : TextsFit w a l) :
  Calls Tryz.prog 299 #[.slice a l.length cap, .int .i64 most] w fun e w' => e = .returned (.bool (inB most 1 5 && textsB l most)) ∧ w' = w := by
 have H : Hid (TextsFit w a l) := h
 have hl := h.len
 clear h
 by_cases h1 : most < 1
 ·go_enter Tryz.func299, Tryz.ntmps299
  go_wp2
  go_ret
  exact ⟨ret_bool (by rw [inB_low h1]; rfl), rfl⟩
 by_cases h2 : 5 < most
 ·go_enter Tryz.func299, Tryz.ntmps299
  go_wp2
  go_ret
  exact ⟨ret_bool (by rw [inB_high h2]; rfl), rfl⟩
 have HIn : Hid (inB most 1 5 = true) := inB_true (by omega) (by omega)
 by_cases h3 : most < (l.length : Int)
 ·have HT : Hid (textsB l most = false) := by show textsB l most = false; simp [textsB]; intro _; omega
  have e1 : wrap64 (l.length : Int) = l.length := by unfold wrap64; omega
  go_enter Tryz.func299, Tryz.ntmps299
  go_wp2
  go_ret
  exact ⟨ret_bool (by rw [HT.out, Bool.and_false]), rfl⟩
 have HL : Hid (decide ((l.length : Int) ≤ most) = true) := decide_eq_true (by omega)
 have e1 : wrap64 (l.length : Int) = l.length := by unfold wrap64; omega
 go_enter Tryz.func299, Tryz.ntmps299
 go_wp2_with fail
 go_loop [21] (fun i => ∃ k : Nat, k ≤ l.length ∧ i = .int .i64 k ∧ Hid ((l.take k).all plainB = true)) (fun i => l.length - (intOf i).toNat)
 case atStart => exact ⟨0, Nat.zero_le _, rfl, (by simp : (l.take 0).all plainB = true)⟩
 case round =>
  obtain ⟨k, hk, rfl, HA⟩ := hrel
  by_cases hlt : k < l.length
  ·have i0 : (0 : Int) ≤ (k : Int) := by omega
   have i1 : (k : Int) < (l.length : Int) := by omega
   obtain ⟨x, hx⟩ : ∃ x, l[k]? = some x := ⟨_, List.getElem?_eq_getElem hlt⟩
   have HX : Hid (l[k]? = some x) := hx
   obtain ⟨g, rfl, c0⟩ := str_at H.out.row hx
   have hxs := H.out.short x (List.mem_of_getElem? hx)
   clear hx
   go_wp2_with fail
   refine (isPlain_any x w hxs).mono ?_
   rintro e w' ⟨rfl, rfl⟩
   cases hp : plainB x with
   | true =>
    have HP : Hid (plainB x = true) := hp
    clear hp
    go_wp2
    go_round
    case rel => exact ⟨k + 1, by omega, by go_num, all_take_snoc HA.out HX.out HP.out⟩
    case measure => simp [intOf]; omega
   | false =>
    have HP : Hid (plainB x = false) := hp
    clear hp
    go_wp2
    go_ret
    exact ⟨ret_bool (by rw [textsB_no HX.out HP.out, Bool.and_false]), rfl⟩
  ·have i1 : ¬ (k : Int) < (l.length : Int) := by omega
   have HT : Hid (l.all plainB = true) := by have := HA.out; rwa [List.take_of_length_le (by omega)] at this
   go_wp2
   go_ret
   exact ⟨ret_bool (by rw [HIn.out, textsB, HT.out, HL.out]; rfl), rfl⟩
theorem portB_false {id : Int} {out queue : Bool} {max : Int} {items : List ByteArray} (h : (inB max 1 5 && textsB items max) = false) : portB ⟨id, out, queue, max, items⟩ = false := by
 simp only [portB]
 cases h1 : inB max 1 5 <;> cases h2 : textsB items max <;> simp_all
theorem portB_true {id : Int} {out : Bool} {max : Int} {items : List ByteArray} (h : (inB max 1 5 && textsB items max) = true) (q : Bool) : portB ⟨id, out, q, max, items⟩ = (q || decide (max = 1)) := by
 simp only [Bool.and_eq_true] at h
 simp [portB, h.1, h.2]

/-- Whether a thing may be laid in. -/
def layB (most : Int) (m : MapL) (id : Int) (ok : Bool) : Bool := !(lookM m id).isSome && decide ((m.length : Int) < most) && inB id 1 1000 && ok
/-- What laying in does. -/
def LayEnds (w : World) (b : Nat) (m : MapL) (ok : Bool) (id : Int) (cs : Array Value) (T : TypeId) (e : Ending) (w' : World) : Prop :=
 e = .returned (.bool ok) ∧ (ok = false → Below w.heap.size w w') ∧ (ok = true → ∃ g, w.heap.size ≤ g ∧ w'.heap[g]? = some (.cells cs T (0, 0)) ∧ MapIs w' b (insM (id, g) m) ∧ w.grownBy w' (some b))
theorem layEnds_no {w w' : World} {b : Nat} {m : MapL} {ok : Bool} {id : Int} {cs : Array Value} {T : TypeId} (h : ok = false) (hb : Below w.heap.size w w') : LayEnds w b m ok id cs T (.returned (.bool false)) w' := by
 subst h
 exact ⟨rfl, fun _ => hb, fun h => by cases h⟩
/-- What is there while a thing is laid in. -/
structure LayIn (w W : World) (S X b : Nat) (m : MapL) (most : Int) (cs : Array Value) (T TS : TypeId) : Prop where
 sh : W.heap[S]? = some (.cells #[.int .i64 most, .map (some b)] TS (0, 0))
 bx : W.heap[X]? = some (.cells cs T (0, 0))
 mp : MapIs W b m
 bel : Below w.heap.size w W
section
variable {w W W' : World} {S X b : Nat} {m : MapL} {most : Int} {cs : Array Value} {T TS : TypeId}
theorem LayIn.below (h : LayIn w W S X b m most cs T TS) (hb : Below W.heap.size W W') : LayIn w W' S X b m most cs T TS :=
 ⟨(hb.block _ (Array.getElem?_eq_some_iff.1 h.sh).1).trans h.sh, (hb.block _ (Array.getElem?_eq_some_iff.1 h.bx).1).trans h.bx, h.mp.below hb, h.bel.trans (hb.mono h.bel.size)⟩
theorem LayIn.start (w : World) {b : Nat} {m : MapL} (h : MapIs w b m) (most : Int) (cs : Array Value) (T TS : TypeId) : LayIn w ((w.alloc (.cells #[.int .i64 most, .map (some b)] TS)).alloc (.cells cs T)) w.heap.size (w.heap.size + 1) b m most cs T TS := by
 have b1 : Below w.heap.size w (w.alloc (.cells #[.int .i64 most, .map (some b)] TS)) := (Below.refl _ _).alloc (Nat.le_refl _) _
 have b2 : Below w.heap.size w ((w.alloc (.cells #[.int .i64 most, .map (some b)] TS)).alloc (.cells cs T)) := b1.alloc b1.size _
 exact ⟨(heap_alloc_old _ _ (by simp)).trans (heap_alloc_new _ _), heap_alloc2_new _ _ _, h.below b2, b2⟩
theorem LayIn.drew (h : LayIn w W S X b m most cs T TS) : LayIn w W.drew S X b m most cs T TS := ⟨h.sh, h.bx, h.mp.same rfl, h.bel.drew⟩
theorem LayIn.cells (h : LayIn w W S X b m most cs T TS) : W.cell? ⟨S, 0, none⟩ = some (.int .i64 most) ∧ W.cell? ⟨S, 1, none⟩ = some (.map (some b)) := by
 have := h.sh
 simp [World.cell?, this]
/-- The thing is stored under its number. -/
theorem LayIn.put (h : LayIn w W S X b m most cs T TS) (hX : w.heap.size ≤ X) {t e : TypeId} (ht : Tryz.prog.underlying t = some (.map 2 e)) {id : Int} (hid : (Lit.int .i64 id).wf = true) (hn : lookM m id = none) (hm : m.length ≤ 1048576) (hXb : ¬ X = b) :
  ∃ w', (Instr.mapUpdate t (.map (some b)) (.int .i64 id) (.pointer (some ⟨X, 0, none⟩))).run Tryz.prog W = .ok () w' ∧ LayEnds w b m true id cs T (.returned (.bool true)) w' := by
 obtain ⟨w', hrun, hmp, htn⟩ := h.mp.put ht hid X hn hm
 refine ⟨w', hrun, ⟨rfl, (fun h => by cases h), fun _ => ⟨X, hX, ?_, hmp, ?_⟩⟩⟩
 ·have := htn.grown
  exact (this.block X (Array.getElem?_eq_some_iff.1 h.bx).1 (fun e => hXb (Option.some.inj e))).trans h.bx
 ·have hg := htn.grown
  exact ⟨hg.os.trans h.bel.os, hg.tape.trans h.bel.tape, hg.output.trans h.bel.output, Nat.le_trans h.bel.size hg.size, fun k hk hne => (hg.block k (Nat.lt_of_lt_of_le hk h.bel.size) hne).trans (h.bel.block k hk)⟩
end

end Go.Proofs.YtkbcplnlehdjfaaGreat

/- A shelf: a map from numbers to things, each in a block of its own. -/
namespace Go.Proofs.YtkbcplnlehdjfaaGreat
open Go.RowKit Go.Maps

section
variable {α : Type} {vs : α → Array Value} {num : α → Int} {T : TypeId}

/-- The numbers of the things, and their blocks. -/
def keysOf (num : α → Int) (l : List (α × Nat)) : MapL := l.map fun p => (num p.1, p.2)
/-- Block b is the map of the things; each lies in its block; no two blocks are one; all are from base on. -/
structure Shelf (vs : α → Array Value) (num : α → Int) (T : TypeId) (w : World) (base b : Nat) (l : List (α × Nat)) : Prop where
 map : MapIs w b (keysOf num l)
 box : ∀ p ∈ l, w.heap[p.2]? = some (.cells (vs p.1) T (0, 0))
 nodup : (b :: l.map (·.2)).Nodup
 low : ∀ g ∈ b :: l.map (·.2), base ≤ g
theorem Shelf.lt {w : World} {base b : Nat} {l : List (α × Nat)} (h : Shelf vs num T w base b l) : ∀ g ∈ b :: l.map (·.2), g < w.heap.size := fun g hg => by
 rcases List.mem_cons.1 hg with rfl | hg
 ·exact h.map.lt
 ·obtain ⟨p, hp, rfl⟩ := List.mem_map.1 hg
  exact (Array.getElem?_eq_some_iff.1 (h.box p hp)).1
theorem Shelf.same {w w' : World} {base b : Nat} {l : List (α × Nat)} (h : Shelf vs num T w base b l) (hs : ∀ g ∈ b :: l.map (·.2), w'.heap[g]? = w.heap[g]?) : Shelf vs num T w' base b l :=
 ⟨h.map.same (hs b (by simp)), fun p hp => (hs p.2 (List.mem_cons_of_mem _ (List.mem_map.2 ⟨p, hp, rfl⟩))).trans (h.box p hp), h.nodup, h.low⟩
theorem Shelf.below {w w' : World} {base b : Nat} {l : List (α × Nat)} (h : Shelf vs num T w base b l) (hb : Below w.heap.size w w') : Shelf vs num T w' base b l := h.same fun g hg => hb.block g (h.lt g hg)
theorem Shelf.lower {w : World} {base base' b : Nat} {l : List (α × Nat)} (h : Shelf vs num T w base b l) (hb : base' ≤ base) : Shelf vs num T w base' b l := ⟨h.map, h.box, h.nodup, fun g hg => Nat.le_trans hb (h.low g hg)⟩
theorem Shelf.none {w : World} {base b : Nat} (hb : w.heap[b]? = some (.map #[] 0)) (hl : base ≤ b) : Shelf vs num T w base b [] :=
 ⟨MapIs.of_empty hb, (fun p hp => by cases hp), by simp, fun g hg => by simp at hg; subst hg; exact hl⟩

/-- A thing more, in its place by number. -/
def insT (num : α → Int) (p : α × Nat) : List (α × Nat) → List (α × Nat)
 | [] => [p]
 | y :: r => if num p.1 < num y.1 then p :: y :: r else y :: insT num p r
theorem insT_keys (p : α × Nat) (l : List (α × Nat)) : keysOf num (insT num p l) = insM (num p.1, p.2) (keysOf num l) := by
 induction l with
 | nil => rfl
 | cons y r ih =>
  simp only [insT, keysOf, List.map_cons, insM] at ih ⊢
  split
  ·rfl
  ·simp only [List.map_cons, ih]
theorem insT_perm (p : α × Nat) (l : List (α × Nat)) : (insT num p l).Perm (p :: l) := by
 induction l with
 | nil => exact List.Perm.refl _
 | cons y r ih =>
  unfold insT
  split
  ·exact List.Perm.refl _
  ·exact (List.Perm.cons y ih).trans (List.Perm.swap p y r)
theorem insT_last {p : α × Nat} {l : List (α × Nat)} (h : ∀ q ∈ l, num q.1 < num p.1) : insT num p l = l ++ [p] := by
 induction l with
 | nil => rfl
 | cons y r ih =>
  have := h y (by simp)
  unfold insT
  rw [if_neg (by omega), ih (fun q hq => h q (by simp [hq]))]
  rfl
theorem keysOf_length (l : List (α × Nat)) : (keysOf num l).length = l.length := by simp [keysOf]

/-- Laid in. -/
theorem Shelf.lay {w w' : World} {base b : Nat} {l : List (α × Nat)} {x : α} {e : Ending} (h : Shelf vs num T w base b l) (hb : base ≤ w.heap.size) (hl : LayEnds w b (keysOf num l) true (num x) (vs x) T e w') :
  ∃ g, w.heap.size ≤ g ∧ Shelf vs num T w' base b (insT num (x, g) l) ∧ w.grownBy w' (some b) := by
 obtain ⟨-, -, h3⟩ := hl
 obtain ⟨g, hg, hbox, hmap, hgr⟩ := h3 rfl
 have hpm : ((insT num (x, g) l).map (·.2)).Perm (g :: l.map (·.2)) := (insT_perm (num := num) (x, g) l).map (·.2)
 refine ⟨g, hg, ⟨?_, fun p hp => ?_, ?_, fun k hk => ?_⟩, hgr⟩
 ·rw [insT_keys]; exact hmap
 ·rcases List.mem_cons.1 ((insT_perm (num := num) (x, g) l).mem_iff.1 hp) with rfl | hp
  ·exact hbox
  ·have hne : ¬ p.2 = b := fun e => by
    have := (List.nodup_cons.1 h.nodup).1
    exact this (List.mem_map.2 ⟨p, hp, e⟩)
   exact (hgr.block p.2 (h.lt p.2 (List.mem_cons_of_mem _ (List.mem_map.2 ⟨p, hp, rfl⟩))) (fun e => hne (Option.some.inj e))).trans (h.box p hp)
 ·refine ((List.Perm.cons b hpm).nodup_iff).2 ?_
  refine ((List.Perm.swap g b (l.map (·.2))).nodup_iff).2 ?_
  refine List.nodup_cons.2 ⟨fun hm => ?_, h.nodup⟩
  have := h.lt g hm
  omega
 ·rcases List.mem_cons.1 hk with rfl | hk
  ·exact h.low k (by simp)
  ·rcases List.mem_cons.1 (hpm.mem_iff.1 hk) with rfl | hk
   ·omega
   ·exact h.low k (List.mem_cons_of_mem _ hk)

/-- What making a shelf of a list ends in. -/
def ShelfEnds (vs : α → Array Value) (num : α → Int) (T : TypeId) (w : World) (most : Int) (ok : Bool) (list : List α) (e : Ending) (w' : World) : Prop :=
 Below w.heap.size w w' ∧ ((ok = false ∧ e = .returned (.tuple #[.agg #[.int .i64 0, .map none], .bool false])) ∨
  (ok = true ∧ ∃ b l, e = .returned (.tuple #[.agg #[.int .i64 most, .map (some b)], .bool true]) ∧ l.map (·.1) = list ∧ Shelf vs num T w' w.heap.size b l))

/-- What is there while a shelf is made. -/
structure ShIn (vs : α → Array Value) (num : α → Int) (T TS : TypeId) (w wr : World) (most : Int) (l : List (α × Nat)) : Prop where
 res : wr.heap[w.heap.size]? = some (.cells #[.int .i64 0, .map none] TS (0, 0))
 var : wr.heap[w.heap.size + 1 + 1]? = some (.cells #[.int .i64 most, .map (some (w.heap.size + 1))] TS (0, 0))
 shelf : Shelf vs num T wr (w.heap.size + 1) (w.heap.size + 1) l
 bel : Below w.heap.size w wr
theorem ShIn.below {TS : TypeId} {w wr w' : World} {most : Int} {l : List (α × Nat)} (h : ShIn vs num T TS w wr most l) (hb : Below wr.heap.size wr w') : ShIn vs num T TS w w' most l :=
 ⟨(hb.block _ (Array.getElem?_eq_some_iff.1 h.res).1).trans h.res, (hb.block _ (Array.getElem?_eq_some_iff.1 h.var).1).trans h.var, h.shelf.below hb, h.bel.trans (hb.mono h.bel.size)⟩
theorem ShIn.start (TS : TypeId) (w : World) (most : Int) : ShIn vs num T TS w (((w.alloc (.cells #[.int .i64 0, .map none] TS)).alloc (.map #[] 0)).alloc (.cells #[.int .i64 most, .map (some (w.heap.size + 1))] TS)) most [] := by
 have b1 : Below w.heap.size w (w.alloc (.cells #[.int .i64 0, .map none] TS)) := (Below.refl _ _).alloc (Nat.le_refl _) _
 have b2 := b1.alloc b1.size (.map #[] 0)
 have b3 := b2.alloc b2.size (.cells #[.int .i64 most, .map (some (w.heap.size + 1))] TS)
 refine ⟨?_, ?_, Shelf.none ?_ (by omega), b3⟩
 ·rw [heap_alloc_old _ _ (by simp; omega), heap_alloc_old _ _ (by simp), heap_alloc_new]
 ·have := heap_alloc_new ((w.alloc (.cells #[.int .i64 0, .map none] TS)).alloc (.map #[] 0)) (.cells #[.int .i64 most, .map (some (w.heap.size + 1))] TS)
  simpa using this
 ·rw [heap_alloc_old _ _ (by simp)]
  exact heap_alloc2_new _ _ _
theorem ShIn.cells {TS : TypeId} {w wr : World} {most : Int} {l : List (α × Nat)} (h : ShIn vs num T TS w wr most l) :
  wr.cell? ⟨w.heap.size, 0, none⟩ = some (.int .i64 0) ∧ wr.cell? ⟨w.heap.size, 1, none⟩ = some (.map none) ∧ wr.cell? ⟨w.heap.size + 1 + 1, 0, none⟩ = some (.int .i64 most) ∧ wr.cell? ⟨w.heap.size + 1 + 1, 1, none⟩ = some (.map (some (w.heap.size + 1))) ∧ wr.frozen? ⟨w.heap.size, 0, none⟩ = false ∧ wr.frozen? ⟨w.heap.size, 1, none⟩ = false := by
 have h1 := h.res
 have h2 := h.var
 refine ⟨by simp [World.cell?, h1], by simp [World.cell?, h1], by simp [World.cell?, h2], by simp [World.cell?, h2], frozen_of_row _ _ _ _ _ h1, frozen_of_row _ _ _ _ _ h1⟩
theorem ShIn.lay {TS : TypeId} {w wr w' : World} {most : Int} {l : List (α × Nat)} {x : α} {e : Ending} (h : ShIn vs num T TS w wr most l) (hl : LayEnds wr (w.heap.size + 1) (keysOf num l) true (num x) (vs x) T e w') (hr : ∀ q ∈ l, num q.1 < num x) :
  ∃ g, ShIn vs num T TS w w' most (l ++ [(x, g)]) := by
 obtain ⟨g, hg, hs, hgr⟩ := h.shelf.lay (by have := (Array.getElem?_eq_some_iff.1 h.var).1; omega) hl
 rw [insT_last hr] at hs
 refine ⟨g, (hgr.block _ (Array.getElem?_eq_some_iff.1 h.res).1 (by simp)).trans h.res, (hgr.block _ (Array.getElem?_eq_some_iff.1 h.var).1 (by simp)).trans h.var, hs, ?_⟩
 exact h.bel.trans ⟨hgr.os, hgr.tape, hgr.output, hgr.size, fun k hk => hgr.block k (by have := h.bel.size; omega) (fun e => by have := Option.some.inj e; omega)⟩
theorem lastOf_ge {ok : α → Bool} : ∀ {l : List α} {last : Int}, thingsB num ok last l = true → last ≤ lastOf num last l ∧ ∀ y ∈ l, num y ≤ lastOf num last l
 | [], last, _ => ⟨Int.le_refl _, fun y hy => by cases hy⟩
 | x :: r, last, h => by
  simp only [thingsB, Bool.and_eq_true, decide_eq_true_eq] at h
  obtain ⟨h1, h2⟩ := lastOf_ge h.2
  simp only [lastOf]
  refine ⟨by omega, fun y hy => ?_⟩
  rcases List.mem_cons.1 hy with rfl | hy
  ·exact h1
  ·exact h2 y hy
theorem rises_last {ok : α → Bool} {l : List (α × Nat)} {list : List α} {last : Int} {x : α} (hm : l.map (·.1) = list) (h : thingsB num ok last list = true) (hx : lastOf num last list < num x) : ∀ q ∈ l, num q.1 < num x := fun q hq => by
 have := (lastOf_ge h).2 q.1 (by rw [← hm]; exact List.mem_map.2 ⟨q, hq, rfl⟩)
 omega
theorem look_none {l : List (α × Nat)} {x : α} (h : ∀ q ∈ l, num q.1 < num x) : lookM (keysOf num l) (num x) = none := by
 rw [lookM_none]
 intro hm
 simp only [keysOf, List.map_map, List.mem_map] at hm
 obtain ⟨q, hq, e⟩ := hm
 have := h q hq
 simp only [Function.comp] at e
 omega
/-- Laying in says no: the list is no right one. -/
theorem things_lay_no {ok : α → Bool} {list : List α} {k : Nat} {x : α} {most : Int} {l : List (α × Nat)} (hx : list[k]? = some x) (hm : l.map (·.1) = list.take k) (hth : thingsB num ok 0 (list.take k) = true) (hlt : lastOf num 0 (list.take k) < num x) (h : layB most (keysOf num l) (num x) (ok x) = false) :
  (thingsB num ok 0 list && decide ((list.length : Int) ≤ max most 0)) = false := by
 have hk : k < list.length := (List.getElem?_eq_some_iff.1 hx).1
 have hn := look_none (rises_last hm hth hlt)
 have hlen : l.length = k := by
  have := congrArg List.length hm
  simp only [List.length_map, List.length_take] at this
  omega
 simp only [layB, hn, keysOf_length, hlen] at h
 by_cases h1 : (k : Int) < most
 ·have : thingsB num ok 0 list = false := things_no hx (fun hh => by
   rw [hh.1, hh.2.2, decide_eq_true h1] at h
   simp at h)
  rw [this]; rfl
 ·have : decide ((list.length : Int) ≤ max most 0) = false := decide_eq_false (by omega)
  rw [this, Bool.and_false]
theorem things_lay_yes {ok : α → Bool} {list : List α} {k : Nat} {x : α} {most : Int} {l : List (α × Nat)} (hx : list[k]? = some x) (hm : l.map (·.1) = list.take k) (hth : thingsB num ok 0 (list.take k) = true) (hlt : lastOf num 0 (list.take k) < num x) (h : layB most (keysOf num l) (num x) (ok x) = true) :
  thingsB num ok 0 (list.take (k + 1)) = true ∧ ((k + 1 : Nat) : Int) ≤ max most 0 := by
 have hlen : l.length = k := by
  have := congrArg List.length hm
  have hk : k < list.length := (List.getElem?_eq_some_iff.1 hx).1
  simp only [List.length_map, List.length_take] at this
  omega
 simp only [layB, Bool.and_eq_true, decide_eq_true_eq, keysOf_length, hlen] at h
 exact ⟨things_yes hth hx h.1.2 hlt h.2, by omega⟩
theorem ShIn.away {TS : TypeId} {w wr : World} {most : Int} {l : List (α × Nat)} (h : ShIn vs num T TS w wr most l) (v0 v1 : Value) : Shelf vs num T ((wr.setCell ⟨w.heap.size, 0, none⟩ v0).setCell ⟨w.heap.size, 1, none⟩ v1) w.heap.size (w.heap.size + 1) l ∧ Below w.heap.size w ((wr.setCell ⟨w.heap.size, 0, none⟩ v0).setCell ⟨w.heap.size, 1, none⟩ v1) := by
 refine ⟨(h.shelf.same fun g hg => ?_).lower (by omega), (h.bel.setCell (Nat.le_refl _) _).setCell (Nat.le_refl _) _⟩
 have := h.shelf.low g hg
 rw [Below.heap_setCell _ _ _ _ (by show g ≠ w.heap.size; omega), Below.heap_setCell _ _ _ _ (by show g ≠ w.heap.size; omega)]
end

end Go.Proofs.YtkbcplnlehdjfaaGreat

/- What the library functions named here are at this program: tables of numbers and one theorem each, laid by the tool of the shelf in plain words. -/
namespace Go.Proofs
open Go.Shelf
def Tryz.keysProc_ren : Go.Shelf.Ren := ⟨fun | 7 => 221 | 10 => 232 | n => n, fun | 23 => 108 | 26 => 2 | 3 => 102 | 28 => 275 | 0 => 0 | 27 => 274 | 33 => 153 | 4 => 4 | n => n, fun | n => n⟩
theorem Tryz.keysProc : Go.Proofs.SlLaysZI.n7 Tryz.prog Tryz.keysProc_ren := {
 mixed := by kernel_rfl
 f7 := ⟨Tryz.f221.name, by decide, Tryz.func221.trans (congrArg some (by kernel_rfl))⟩
 f10 := ⟨Tryz.f232.name, by decide, Tryz.func232.trans (congrArg some (by kernel_rfl))⟩
 t0 := Tryz.underlying0
 a0 := Tryz.isAgg0
 z0 := Tryz.sizeOf0
 v0 := Tryz.zeroValue0
 t4 := Tryz.underlying4
 a4 := Tryz.isAgg4
 z4 := Tryz.sizeOf4
 v4 := Tryz.zeroValue4
 t23 := Tryz.underlying108
 a23 := Tryz.isAgg108
 z23 := Tryz.sizeOf108
 v23 := Tryz.zeroValue108
 t26 := Tryz.underlying2
 a26 := Tryz.isAgg2
 z26 := Tryz.sizeOf2
 v26 := Tryz.zeroValue2
 t27 := Tryz.underlying274
 a27 := Tryz.isAgg274
 z27 := Tryz.sizeOf274
 v27 := Tryz.zeroValue274
 t28 := Tryz.underlying275
 a28 := Tryz.isAgg275
 z28 := Tryz.sizeOf275
 v28 := Tryz.zeroValue275
 t33 := Tryz.underlying153
 a33 := Tryz.isAgg153
 z33 := Tryz.sizeOf153
 v33 := Tryz.zeroValue153 }
def Tryz.keysSem_ren : Go.Shelf.Ren := ⟨fun | 7 => 223 | 10 => 239 | n => n, fun | 23 => 111 | 26 => 2 | 3 => 221 | 28 => 275 | 0 => 0 | 27 => 274 | 33 => 153 | 4 => 4 | n => n, fun | n => n⟩
theorem Tryz.keysSem : Go.Proofs.SlLaysZI.n7 Tryz.prog Tryz.keysSem_ren := {
 mixed := by kernel_rfl
 f7 := ⟨Tryz.f223.name, by decide, Tryz.func223.trans (congrArg some (by kernel_rfl))⟩
 f10 := ⟨Tryz.f239.name, by decide, Tryz.func239.trans (congrArg some (by kernel_rfl))⟩
 t0 := Tryz.underlying0
 a0 := Tryz.isAgg0
 z0 := Tryz.sizeOf0
 v0 := Tryz.zeroValue0
 t4 := Tryz.underlying4
 a4 := Tryz.isAgg4
 z4 := Tryz.sizeOf4
 v4 := Tryz.zeroValue4
 t23 := Tryz.underlying111
 a23 := Tryz.isAgg111
 z23 := Tryz.sizeOf111
 v23 := Tryz.zeroValue111
 t26 := Tryz.underlying2
 a26 := Tryz.isAgg2
 z26 := Tryz.sizeOf2
 v26 := Tryz.zeroValue2
 t27 := Tryz.underlying274
 a27 := Tryz.isAgg274
 z27 := Tryz.sizeOf274
 v27 := Tryz.zeroValue274
 t28 := Tryz.underlying275
 a28 := Tryz.isAgg275
 z28 := Tryz.sizeOf275
 v28 := Tryz.zeroValue275
 t33 := Tryz.underlying153
 a33 := Tryz.isAgg153
 z33 := Tryz.sizeOf153
 v33 := Tryz.zeroValue153 }
def Tryz.keysEvent_ren : Go.Shelf.Ren := ⟨fun | 7 => 224 | 10 => 240 | n => n, fun | 23 => 114 | 26 => 2 | 3 => 222 | 28 => 275 | 0 => 0 | 27 => 274 | 33 => 153 | 4 => 4 | n => n, fun | n => n⟩
theorem Tryz.keysEvent : Go.Proofs.SlLaysZI.n7 Tryz.prog Tryz.keysEvent_ren := {
 mixed := by kernel_rfl
 f7 := ⟨Tryz.f224.name, by decide, Tryz.func224.trans (congrArg some (by kernel_rfl))⟩
 f10 := ⟨Tryz.f240.name, by decide, Tryz.func240.trans (congrArg some (by kernel_rfl))⟩
 t0 := Tryz.underlying0
 a0 := Tryz.isAgg0
 z0 := Tryz.sizeOf0
 v0 := Tryz.zeroValue0
 t4 := Tryz.underlying4
 a4 := Tryz.isAgg4
 z4 := Tryz.sizeOf4
 v4 := Tryz.zeroValue4
 t23 := Tryz.underlying114
 a23 := Tryz.isAgg114
 z23 := Tryz.sizeOf114
 v23 := Tryz.zeroValue114
 t26 := Tryz.underlying2
 a26 := Tryz.isAgg2
 z26 := Tryz.sizeOf2
 v26 := Tryz.zeroValue2
 t27 := Tryz.underlying274
 a27 := Tryz.isAgg274
 z27 := Tryz.sizeOf274
 v27 := Tryz.zeroValue274
 t28 := Tryz.underlying275
 a28 := Tryz.isAgg275
 z28 := Tryz.sizeOf275
 v28 := Tryz.zeroValue275
 t33 := Tryz.underlying153
 a33 := Tryz.isAgg153
 z33 := Tryz.sizeOf153
 v33 := Tryz.zeroValue153 }
def Tryz.keysBoard_ren : Go.Shelf.Ren := ⟨fun | 7 => 225 | 10 => 241 | n => n, fun | 23 => 117 | 26 => 2 | 3 => 223 | 28 => 275 | 0 => 0 | 27 => 274 | 33 => 153 | 4 => 4 | n => n, fun | n => n⟩
theorem Tryz.keysBoard : Go.Proofs.SlLaysZI.n7 Tryz.prog Tryz.keysBoard_ren := {
 mixed := by kernel_rfl
 f7 := ⟨Tryz.f225.name, by decide, Tryz.func225.trans (congrArg some (by kernel_rfl))⟩
 f10 := ⟨Tryz.f241.name, by decide, Tryz.func241.trans (congrArg some (by kernel_rfl))⟩
 t0 := Tryz.underlying0
 a0 := Tryz.isAgg0
 z0 := Tryz.sizeOf0
 v0 := Tryz.zeroValue0
 t4 := Tryz.underlying4
 a4 := Tryz.isAgg4
 z4 := Tryz.sizeOf4
 v4 := Tryz.zeroValue4
 t23 := Tryz.underlying117
 a23 := Tryz.isAgg117
 z23 := Tryz.sizeOf117
 v23 := Tryz.zeroValue117
 t26 := Tryz.underlying2
 a26 := Tryz.isAgg2
 z26 := Tryz.sizeOf2
 v26 := Tryz.zeroValue2
 t27 := Tryz.underlying274
 a27 := Tryz.isAgg274
 z27 := Tryz.sizeOf274
 v27 := Tryz.zeroValue274
 t28 := Tryz.underlying275
 a28 := Tryz.isAgg275
 z28 := Tryz.sizeOf275
 v28 := Tryz.zeroValue275
 t33 := Tryz.underlying153
 a33 := Tryz.isAgg153
 z33 := Tryz.sizeOf153
 v33 := Tryz.zeroValue153 }
def Tryz.keysBuffer_ren : Go.Shelf.Ren := ⟨fun | 7 => 226 | 10 => 242 | n => n, fun | 23 => 120 | 26 => 2 | 3 => 224 | 28 => 275 | 0 => 0 | 27 => 274 | 33 => 153 | 4 => 4 | n => n, fun | n => n⟩
theorem Tryz.keysBuffer : Go.Proofs.SlLaysZI.n7 Tryz.prog Tryz.keysBuffer_ren := {
 mixed := by kernel_rfl
 f7 := ⟨Tryz.f226.name, by decide, Tryz.func226.trans (congrArg some (by kernel_rfl))⟩
 f10 := ⟨Tryz.f242.name, by decide, Tryz.func242.trans (congrArg some (by kernel_rfl))⟩
 t0 := Tryz.underlying0
 a0 := Tryz.isAgg0
 z0 := Tryz.sizeOf0
 v0 := Tryz.zeroValue0
 t4 := Tryz.underlying4
 a4 := Tryz.isAgg4
 z4 := Tryz.sizeOf4
 v4 := Tryz.zeroValue4
 t23 := Tryz.underlying120
 a23 := Tryz.isAgg120
 z23 := Tryz.sizeOf120
 v23 := Tryz.zeroValue120
 t26 := Tryz.underlying2
 a26 := Tryz.isAgg2
 z26 := Tryz.sizeOf2
 v26 := Tryz.zeroValue2
 t27 := Tryz.underlying274
 a27 := Tryz.isAgg274
 z27 := Tryz.sizeOf274
 v27 := Tryz.zeroValue274
 t28 := Tryz.underlying275
 a28 := Tryz.isAgg275
 z28 := Tryz.sizeOf275
 v28 := Tryz.zeroValue275
 t33 := Tryz.underlying153
 a33 := Tryz.isAgg153
 z33 := Tryz.sizeOf153
 v33 := Tryz.zeroValue153 }
def Tryz.keysPort_ren : Go.Shelf.Ren := ⟨fun | 7 => 227 | 10 => 243 | n => n, fun | 23 => 123 | 26 => 2 | 3 => 225 | 28 => 275 | 0 => 0 | 27 => 274 | 33 => 153 | 4 => 4 | n => n, fun | n => n⟩
theorem Tryz.keysPort : Go.Proofs.SlLaysZI.n7 Tryz.prog Tryz.keysPort_ren := {
 mixed := by kernel_rfl
 f7 := ⟨Tryz.f227.name, by decide, Tryz.func227.trans (congrArg some (by kernel_rfl))⟩
 f10 := ⟨Tryz.f243.name, by decide, Tryz.func243.trans (congrArg some (by kernel_rfl))⟩
 t0 := Tryz.underlying0
 a0 := Tryz.isAgg0
 z0 := Tryz.sizeOf0
 v0 := Tryz.zeroValue0
 t4 := Tryz.underlying4
 a4 := Tryz.isAgg4
 z4 := Tryz.sizeOf4
 v4 := Tryz.zeroValue4
 t23 := Tryz.underlying123
 a23 := Tryz.isAgg123
 z23 := Tryz.sizeOf123
 v23 := Tryz.zeroValue123
 t26 := Tryz.underlying2
 a26 := Tryz.isAgg2
 z26 := Tryz.sizeOf2
 v26 := Tryz.zeroValue2
 t27 := Tryz.underlying274
 a27 := Tryz.isAgg274
 z27 := Tryz.sizeOf274
 v27 := Tryz.zeroValue274
 t28 := Tryz.underlying275
 a28 := Tryz.isAgg275
 z28 := Tryz.sizeOf275
 v28 := Tryz.zeroValue275
 t33 := Tryz.underlying153
 a33 := Tryz.isAgg153
 z33 := Tryz.sizeOf153
 v33 := Tryz.zeroValue153 }
def Tryz.sortedA_ren : Go.Shelf.Ren := ⟨fun | 6 => 220 | 8 => 230 | 9 => 231 | 11 => 244 | 13 => 246 | 12 => 245 | 23 => 258 | 24 => 259 | 14 => 249 | 15 => 250 | 16 => 251 | 17 => 252 | 18 => 253 | 19 => 254 | 20 => 255 | 21 => 256 | 22 => 257 | 25 => 260 | 26 => 261 | 27 => 262 | 28 => 263 | 29 => 264 | 30 => 265 | 31 => 266 | n => n, fun | 26 => 2 | 28 => 275 | 24 => 189 | 0 => 0 | 3 => 3 | 37 => 251 | 48 => 301 | 50 => 249 | 4 => 4 | 40 => 293 | 39 => 292 | 45 => 298 | 5 => 5 | 9 => 9 | 51 => 303 | 55 => 306 | 57 => 308 | 58 => 309 | 33 => 153 | n => n, fun | n => n⟩
theorem Tryz.sortedA : Go.Proofs.SlLaysZI.n6 Tryz.prog Tryz.sortedA_ren := {
 mixed := by kernel_rfl
 f6 := ⟨Tryz.f220.name, by decide, Tryz.func220.trans (congrArg some (by kernel_rfl))⟩
 f8 := ⟨Tryz.f230.name, by decide, Tryz.func230.trans (congrArg some (by kernel_rfl))⟩
 f11 := ⟨Tryz.f244.name, by decide, Tryz.func244.trans (congrArg some (by kernel_rfl))⟩
 t0 := Tryz.underlying0
 a0 := Tryz.isAgg0
 z0 := Tryz.sizeOf0
 v0 := Tryz.zeroValue0
 t24 := Tryz.underlying189
 a24 := Tryz.isAgg189
 z24 := Tryz.sizeOf189
 v24 := Tryz.zeroValue189
 t26 := Tryz.underlying2
 a26 := Tryz.isAgg2
 z26 := Tryz.sizeOf2
 v26 := Tryz.zeroValue2
 t28 := Tryz.underlying275
 a28 := Tryz.isAgg275
 z28 := Tryz.sizeOf275
 v28 := Tryz.zeroValue275
 i26 := by kernel_rfl }
def Tryz.sortA_ren : Go.Shelf.Ren := ⟨fun | 5 => 231 | 8 => 246 | 7 => 245 | 19 => 258 | 20 => 259 | 10 => 249 | 11 => 250 | 12 => 251 | 13 => 252 | 14 => 253 | 15 => 254 | 16 => 255 | 17 => 256 | 18 => 257 | 30 => 260 | 31 => 261 | 32 => 262 | 33 => 263 | 34 => 264 | 35 => 265 | 40 => 266 | n => n, fun | 23 => 189 | 25 => 2 | 3 => 3 | 32 => 251 | 22 => 189 | 0 => 0 | 44 => 301 | 46 => 249 | 4 => 4 | 36 => 293 | 35 => 292 | 41 => 298 | 5 => 5 | 9 => 9 | 53 => 303 | 57 => 306 | 63 => 308 | 64 => 309 | n => n, fun | n => n⟩
theorem Tryz.sortA : Go.Proofs.SlLaysM.n5 Tryz.prog Tryz.sortA_ren := {
 mixed := by kernel_rfl
 f5 := ⟨Tryz.f231.name, by decide, Tryz.func231.trans (congrArg some (by kernel_rfl))⟩
 f7 := ⟨Tryz.f245.name, by decide, Tryz.func245.trans (congrArg some (by kernel_rfl))⟩
 f8 := Tryz.func246.trans (congrArg some (by kernel_rfl))
 f10 := ⟨Tryz.f249.name, by decide, Tryz.func249.trans (congrArg some (by kernel_rfl))⟩
 f11 := ⟨Tryz.f250.name, by decide, Tryz.func250.trans (congrArg some (by kernel_rfl))⟩
 f12 := ⟨Tryz.f251.name, by decide, Tryz.func251.trans (congrArg some (by kernel_rfl))⟩
 f13 := ⟨Tryz.f252.name, by decide, Tryz.func252.trans (congrArg some (by kernel_rfl))⟩
 f14 := ⟨Tryz.f253.name, by decide, Tryz.func253.trans (congrArg some (by kernel_rfl))⟩
 f15 := ⟨Tryz.f254.name, by decide, Tryz.func254.trans (congrArg some (by kernel_rfl))⟩
 f16 := ⟨Tryz.f255.name, by decide, Tryz.func255.trans (congrArg some (by kernel_rfl))⟩
 f17 := ⟨Tryz.f256.name, by decide, Tryz.func256.trans (congrArg some (by kernel_rfl))⟩
 f18 := ⟨Tryz.f257.name, by decide, Tryz.func257.trans (congrArg some (by kernel_rfl))⟩
 f19 := Tryz.func258.trans (congrArg some (by kernel_rfl))
 f20 := Tryz.func259.trans (congrArg some (by kernel_rfl))
 f30 := ⟨Tryz.f260.name, by decide, Tryz.func260.trans (congrArg some (by kernel_rfl))⟩
 f31 := Tryz.func261.trans (congrArg some (by kernel_rfl))
 f32 := Tryz.func262.trans (congrArg some (by kernel_rfl))
 f33 := ⟨Tryz.f263.name, by decide, Tryz.func263.trans (congrArg some (by kernel_rfl))⟩
 f34 := ⟨Tryz.f264.name, by decide, Tryz.func264.trans (congrArg some (by kernel_rfl))⟩
 f35 := ⟨Tryz.f265.name, by decide, Tryz.func265.trans (congrArg some (by kernel_rfl))⟩
 f40 := ⟨Tryz.f266.name, by decide, Tryz.func266.trans (congrArg some (by kernel_rfl))⟩
 t0 := Tryz.underlying0
 a0 := Tryz.isAgg0
 z0 := Tryz.sizeOf0
 v0 := Tryz.zeroValue0
 t3 := Tryz.underlying3
 a3 := Tryz.isAgg3
 z3 := Tryz.sizeOf3
 v3 := Tryz.zeroValue3
 t4 := Tryz.underlying4
 a4 := Tryz.isAgg4
 z4 := Tryz.sizeOf4
 v4 := Tryz.zeroValue4
 t5 := Tryz.underlying5
 a5 := Tryz.isAgg5
 z5 := Tryz.sizeOf5
 v5 := Tryz.zeroValue5
 t9 := Tryz.underlying9
 a9 := Tryz.isAgg9
 z9 := Tryz.sizeOf9
 v9 := Tryz.zeroValue9
 t22 := Tryz.underlying189
 a22 := Tryz.isAgg189
 z22 := Tryz.sizeOf189
 v22 := Tryz.zeroValue189
 t23 := Tryz.underlying189
 a23 := Tryz.isAgg189
 z23 := Tryz.sizeOf189
 v23 := Tryz.zeroValue189
 t25 := Tryz.underlying2
 a25 := Tryz.isAgg2
 z25 := Tryz.sizeOf2
 v25 := Tryz.zeroValue2
 t32 := Tryz.underlying251
 a32 := Tryz.isAgg251
 z32 := Tryz.sizeOf251
 v32 := Tryz.zeroValue251
 t35 := Tryz.underlying292
 a35 := Tryz.isAgg292
 z35 := Tryz.sizeOf292
 v35 := Tryz.zeroValue292
 t36 := Tryz.underlying293
 a36 := Tryz.isAgg293
 z36 := Tryz.sizeOf293
 v36 := Tryz.zeroValue293
 t41 := Tryz.underlying298
 a41 := Tryz.isAgg298
 z41 := Tryz.sizeOf298
 v41 := Tryz.zeroValue298
 t44 := Tryz.underlying301
 a44 := Tryz.isAgg301
 z44 := Tryz.sizeOf301
 v44 := Tryz.zeroValue301
 t46 := Tryz.underlying249
 a46 := Tryz.isAgg249
 z46 := Tryz.sizeOf249
 v46 := Tryz.zeroValue249
 t53 := Tryz.underlying303
 a53 := Tryz.isAgg303
 z53 := Tryz.sizeOf303
 v53 := Tryz.zeroValue303
 t57 := Tryz.underlying306
 a57 := Tryz.isAgg306
 z57 := Tryz.sizeOf306
 v57 := Tryz.zeroValue306
 t63 := Tryz.underlying308
 a63 := Tryz.isAgg308
 z63 := Tryz.sizeOf308
 v63 := Tryz.zeroValue308
 t64 := Tryz.underlying309
 a64 := Tryz.isAgg309
 z64 := Tryz.sizeOf309
 v64 := Tryz.zeroValue309 }
end Go.Proofs

/- Sorted lists of numbers; slices that a call owns, and what lies in them. -/
namespace Go.Proofs
open Go.RowKit Go.Maps Go.Sort Go.Shelf

theorem Tryz.sortsA (m : Nat) : AnyZI.SortsIn Tryz.prog Tryz.sortedA_ren Fence.wide m :=
  ⟨fun blk off cap ss W hH hblk hsz => callsIn_wide.2 (AnyM.slices_Sort_int Tryz.sortA blk off cap ss W hH hblk hsz),
   fun p cap W => callsIn_wide.2 (AnyM.slices_Sort_int_none Tryz.sortA p cap W)⟩

namespace YtkbcplnlehdjfaaGreat

theorem perm_sorted_eq : ∀ {l1 l2 : List Int}, l1.Perm l2 → l1.Pairwise (· ≤ ·) → l2.Pairwise (· ≤ ·) → l1 = l2
  | [], l2, hp, _, _ => (List.nil_perm.1 hp).symm
  | a :: t, [], hp, _, _ => absurd (List.perm_nil.1 hp) (by simp)
  | a :: t, b :: s, hp, h1, h2 => by
    obtain ⟨ha, ht⟩ := List.pairwise_cons.1 h1
    obtain ⟨hb, hs⟩ := List.pairwise_cons.1 h2
    have hab : a = b := by
      have m1 : a ∈ b :: s := hp.mem_iff.1 (by simp)
      have m2 : b ∈ a :: t := hp.mem_iff.2 (by simp)
      rcases List.mem_cons.1 m1 with e | m1
      · exact e
      · rcases List.mem_cons.1 m2 with e | m2
        · exact e.symm
        · have := ha b m2
          have := hb a m1
          omega
    subst hab
    rw [perm_sorted_eq (List.perm_cons a |>.1 hp) ht hs]
theorem keys_int (m : MapL) : intKeys (mapD m) = m.map (·.1) := by
  simp only [intKeys, mapD, List.map_map]
  rfl
theorem keys_sorted {m : MapL} (h : Rises m) {ss : List Int} (hp : ss.Perm (intKeys (mapD m))) : ss.mergeSort (fun x y => decide (x ≤ y)) = m.map (·.1) := by
  rw [keys_int] at hp
  refine perm_sorted_eq ((List.mergeSort_perm _ _).trans hp) ?_ ?_
  · have := List.pairwise_mergeSort (le := fun x y : Int => decide (x ≤ y)) (fun a b c h1 h2 => by simp at *; omega) (fun a b => by simp; omega) ss
    exact this.imp (fun {a b} h => by simpa using h)
  · rw [List.pairwise_map]
    exact List.Pairwise.imp (fun {a b} h => by omega) h
theorem own_form {w : World} {base n size : Nat} {e : TypeId} {v : Value} {xs : List Value} (h : w.ownsRow base e size v n xs) : ∃ a cap, v = .slice a n cap ∧ Row w a xs := by
  obtain ⟨hl, h2⟩ := h
  rcases h2 with ⟨rfl, rfl⟩ | ⟨g, cap, cur, rfl, hb, hg, h3, h4, h5, h6⟩
  · have : xs = [] := List.eq_nil_of_length_eq_zero (by simpa using hl)
    subst this
    exact ⟨none, 0, rfl, Row.nothing _ _⟩
  · refine ⟨some ⟨g, 0, none⟩, cap, rfl, fun j u hu => ⟨g, rfl, ?_⟩⟩
    rw [cell_of_row w g j cur e (0, 0) hg]
    rw [← h6, List.getElem?_take] at hu
    split at hu
    · simpa using hu
    · cases hu
theorem own_low {w : World} {base base' n size : Nat} {e : TypeId} {v : Value} {xs : List Value} (h : w.ownsRow base e size v n xs) (hb : base' ≤ base) : w.ownsRow base' e size v n xs := by
  obtain ⟨hl, h2⟩ := h
  refine ⟨hl, ?_⟩
  rcases h2 with h2 | ⟨g, cap, cur, h1, h3, h4⟩
  · exact .inl h2
  · exact .inr ⟨g, cap, cur, h1, by omega, h4⟩

end YtkbcplnlehdjfaaGreat
end Go.Proofs

/- A list copied onto nothing: 'append([]T(nil), list...)'. -/
namespace Go.Proofs.YtkbcplnlehdjfaaGreat
open Go.RowKit

theorem add_off (g j : Nat) : (⟨g, 0, none⟩ : Addr).add j = ⟨g, j, none⟩ := by unfold Addr.add; split <;> simp_all
/-- The copy is the call's own, in a new block, or nothing. -/
theorem append_copy {P : Program} (w : World) (t ty e : TypeId) (i : TypeInfo) (z : Value) (size bytes : Nat) (ht : P.underlying t = some (.slice e)) (hi : P.info? e = some i) (hz : i.zero = some z)
  (hsize : i.size = size) (hby : i.bytes = bytes) (hzs : z.cells.size = size) (hsz : 0 < size) (a : Option Addr) (n cap : Nat) (xs : List Value) (h : Row w a xs) (hl : xs.length = n * size) (h1 : ∀ u ∈ xs, u.oneCell' = true)
  (h63 : n ≤ 1048576) (hb : bytes ≤ 1000) :
  ∃ a' cap' w', (Builtin.append_ #[t, t] ty #[.slice none 0 0, .slice a n cap]).run P w = .ok (.slice a' n cap') w' ∧ w'.ownsRow w.heap.size e size (.slice a' n cap') n xs ∧ w.grownBy w' none := by
 cases a with
 | none =>
  have hx : xs = [] := by
   cases xs with
   | nil => rfl
   | cons u r =>
    obtain ⟨g, e', _⟩ := h 0 u rfl
    cases e'
  subst hx
  have hn : n = 0 := by
   cases n with
   | zero => rfl
   | succ n => simp only [List.length_nil, Nat.succ_mul] at hl; omega
  subst hn
  refine ⟨none, 0, w, ?_, World.ownsRow_nil _ _ _ _, ⟨rfl, rfl, rfl, Nat.le_refl _, fun _ _ _ => rfl⟩⟩
  simp [Builtin.append_, run_underlying ht, sizeOf, typeInfo, hi, Builtin.lenOf, Builtin.firstCells]
 | some ad =>
  have hnews : ∀ j u, xs[j]? = some u → w.cell? (ad.add j) = some u := fun j u hu => by
   obtain ⟨g, e', hc⟩ := h j u hu
   cases e'
   rw [add_off]
   exact hc
  obtain ⟨v', w', hr, ho, hg, -, -⟩ := run_append_own_at (P := P) w w.heap.size t ty e i z size bytes ht hi hz hsize hby hzs hsz (.slice none 0 0) 0 [] (World.ownsRow_nil _ _ _ _) ad n cap xs hl hnews h1 (by unfold maxLen; omega) (by rw [Nat.zero_add]; have := Nat.mul_le_mul h63 hb; omega) (Nat.le_refl _)
  simp only [Nat.zero_add, List.nil_append] at ho
  obtain ⟨a', cap', rfl, -⟩ := own_form ho
  exact ⟨a', cap', w', hr, ho, hg⟩

end Go.Proofs.YtkbcplnlehdjfaaGreat

/- Shelves of things that have a list each: their lists are made their own. -/
namespace Go.Proofs.YtkbcplnlehdjfaaGreat
open Go.RowKit Go.Maps

/-- The thing of that block, turned. -/
def upd {α : Type} (c : Nat) (f : α → α) (l : List (α × Nat)) : List (α × Nat) := l.map fun p => if p.2 = c then (f p.1, p.2) else p
section
variable {α : Type} {vs : α → Array Value} {num : α → Int} {T : TypeId}
theorem upd_blocks (c : Nat) (f : α → α) (l : List (α × Nat)) : (upd c f l).map (·.2) = l.map (·.2) := by
 simp only [upd, List.map_map]
 refine List.map_congr_left fun p _ => ?_
 simp only [Function.comp]
 split <;> rfl
theorem upd_keys {c : Nat} {f : α → α} {l : List (α × Nat)} (h : ∀ p ∈ l, p.2 = c → num (f p.1) = num p.1) : keysOf num (upd c f l) = keysOf num l := by
 simp only [keysOf, upd, List.map_map]
 refine List.map_congr_left fun p hp => ?_
 simp only [Function.comp]
 split
 ·rename_i e
  simp only [h p hp e]
 ·rfl
theorem mem_upd {c : Nat} {f : α → α} {l : List (α × Nat)} {p : α × Nat} : p ∈ upd c f l ↔ ∃ q ∈ l, (if q.2 = c then (f q.1, q.2) else q) = p := by simp only [upd, List.mem_map]
theorem mem_upd_ne {c : Nat} {f : α → α} {l : List (α × Nat)} {p : α × Nat} (h : ¬ p.2 = c) : p ∈ upd c f l ↔ p ∈ l := by
 rw [mem_upd]
 constructor
 ·rintro ⟨q, hq, rfl⟩
  split at h
  ·rename_i e; exact absurd e h
  ·rename_i e; rw [if_neg e]; exact hq
 ·intro hp
  exact ⟨p, hp, if_neg h⟩
theorem mem_upd_eq {c : Nat} {f : α → α} {l : List (α × Nat)} {p : α × Nat} (h : p.2 = c) : p ∈ upd c f l ↔ ∃ q ∈ l, q.2 = c ∧ p = (f q.1, q.2) := by
 rw [mem_upd]
 constructor
 ·rintro ⟨q, hq, rfl⟩
  by_cases e : q.2 = c
  ·exact ⟨q, hq, e, by rw [if_pos e]⟩
  ·rw [if_neg e] at h; exact absurd h e
 ·rintro ⟨q, hq, e, rfl⟩
  exact ⟨q, hq, if_pos e⟩
theorem Shelf.upd {w w' : World} {base b c : Nat} {l : List (α × Nat)} {f : α → α} (h : Shelf vs num T w base b l) (hn : ∀ p ∈ l, p.2 = c → num (f p.1) = num p.1) (hc : ∀ p ∈ l, p.2 = c → w'.heap[c]? = some (.cells (vs (f p.1)) T (0, 0)))
  (hb : w'.heap[b]? = w.heap[b]?) (hs : ∀ g ∈ l.map (·.2), ¬ g = c → w'.heap[g]? = w.heap[g]?) : Shelf vs num T w' base b (YtkbcplnlehdjfaaGreat.upd c f l) := by
 refine ⟨?_, fun p hp => ?_, ?_, ?_⟩
 ·rw [upd_keys hn]
  exact h.map.same hb
 ·by_cases e : p.2 = c
  ·obtain ⟨q, hq, hqc, rfl⟩ := (mem_upd_eq e).1 hp
   have := hc q hq hqc
   rw [← hqc] at this
   exact this
  ·have hp' := (mem_upd_ne e).1 hp
   exact (hs p.2 (List.mem_map.2 ⟨p, hp', rfl⟩) e).trans (h.box p hp')
 ·rw [upd_blocks]; exact h.nodup
 ·rw [upd_blocks]; exact h.low
theorem Shelf.one {w : World} {base b : Nat} {l : List (α × Nat)} (h : Shelf vs num T w base b l) {p p' : α × Nat} (hp : p ∈ l) (hp' : p' ∈ l) (e : p.2 = p'.2) : p = p' := by
 have hn := (List.nodup_cons.1 h.nodup).2
 clear h
 induction l with
 | nil => cases hp
 | cons y r ih =>
  rw [List.map_cons, List.nodup_cons] at hn
  rcases List.mem_cons.1 hp with rfl | h1
  ·rcases List.mem_cons.1 hp' with rfl | h2
   ·rfl
   ·exact absurd (List.mem_map.2 ⟨p', h2, e.symm⟩) hn.1
  ·rcases List.mem_cons.1 hp' with rfl | h2
   ·exact absurd (List.mem_map.2 ⟨p, h1, e⟩) hn.1
   ·exact ih h1 h2 hn.2
theorem Shelf.ne {w : World} {base b : Nat} {l : List (α × Nat)} (h : Shelf vs num T w base b l) {p : α × Nat} (hp : p ∈ l) : ¬ p.2 = b := fun e =>
 (List.nodup_cons.1 h.nodup).1 (List.mem_map.2 ⟨p, hp, e⟩)
end

/-- An append whose run is known. -/
theorem wpList_append_run {P : Program} (w : World) {ops : Array Oper} {rest : List Oper} {o : Oper} {a : Act} {Q : Exit → Act → World → Prop} (hgd : o.guard = none) (s x : Operand) (t : TypeId)
  (ho : o.op = .call { callee := .builtin .append, args := #[s, x], argTypes := #[t, t] }) (v u r : Value) (w' : World) (hs : a.eval s = v) (hx : a.eval x = u) (hr : (Builtin.append_ #[t, t] o.type #[v, u]).run P w = .ok r w')
  (h : wpList P ops Q rest (a.put o.dst r) w') : wpList P ops Q (o :: rest) a w := by
 refine wpList_plain hgd fun K hK => ?_
 unfold Oper.wp execOp
 simp only [ho, resolve, invoke, builtin, Sem.run_bind, Sem.run_pure, Result.andThen_ok, List.map_toArray, List.map_cons, List.map_nil, hs, hx, hr]
 exact hK _ _ h

/-- Things that have a list each, which may be laid elsewhere. -/
structure Nest (α : Type) where
 vs : α → Array Value
 num : α → Int
 T : TypeId
 e : TypeId
 size : Nat
 ad : α → Option Addr
 cap : α → Nat
 len : α → Nat
 flat : α → List Value
 set : α → Option Addr → Nat → α
 num_set : ∀ x a c, num (set x a c) = num x
 len_set : ∀ x a c, len (set x a c) = len x
 flat_set : ∀ x a c, flat (set x a c) = flat x
 ad_set : ∀ x a c, ad (set x a c) = a
 cap_set : ∀ x a c, cap (set x a c) = c
 set_set : ∀ x a c a' c', set (set x a c) a' c' = set x a' c'

section
variable {α : Type} (N : Nest α)
def Nest.kid (x : α) : Option Nat := (N.ad x).map (·.block)
/-- Its list is its own. -/
def Nest.Mine (w : World) (base : Nat) (x : α) : Prop := w.ownsRow base N.e N.size (.slice (N.ad x) (N.len x) (N.cap x)) (N.len x) (N.flat x)
variable {N}
theorem Nest.Mine.same {w w' : World} {base : Nat} {x : α} (h : N.Mine w base x) (hs : ∀ g, N.kid x = some g → w'.heap[g]? = w.heap[g]?) : N.Mine w' base x := by
 obtain ⟨hl, h2⟩ := h
 refine ⟨hl, ?_⟩
 rcases h2 with h2 | ⟨g, cap, cur, hv, hb, hg, r⟩
 ·exact .inl h2
 ·have hk : N.kid x = some g := by
   simp only [Value.slice.injEq] at hv
   simp [Nest.kid, hv.1]
  exact .inr ⟨g, cap, cur, hv, hb, (hs g hk).trans hg, r⟩
theorem Nest.Mine.lt {w : World} {base : Nat} {x : α} (h : N.Mine w base x) {g : Nat} (hk : N.kid x = some g) : base ≤ g ∧ g < w.heap.size := by
 rcases h.2 with ⟨hv, -⟩ | ⟨g', cap, cur, hv, hb, hg, r⟩
 ·simp only [Value.slice.injEq] at hv
  simp [Nest.kid, hv.1] at hk
 ·simp only [Value.slice.injEq] at hv
  simp only [Nest.kid, hv.1, Option.map_some, Option.some.injEq] at hk
  subst hk
  exact ⟨hb, (Array.getElem?_eq_some_iff.1 hg).1⟩
theorem Nest.Mine.low {w : World} {base base' : Nat} {x : α} (h : N.Mine w base x) (hb : base' ≤ base) : N.Mine w base' x := own_low h hb
theorem Nest.Mine.row {w : World} {base : Nat} {x : α} (h : N.Mine w base x) : Row w (N.ad x) (N.flat x) := by
 obtain ⟨a, cap, e, hr⟩ := own_form h
 simp only [Value.slice.injEq] at e
 rw [e.1]
 exact hr
theorem Nest.mine_set {w : World} {base : Nat} {x : α} {a : Option Addr} {c : Nat} (h : w.ownsRow base N.e N.size (.slice a (N.len x) c) (N.len x) (N.flat x)) : N.Mine w base (N.set x a c) := by
 unfold Nest.Mine
 rw [N.ad_set, N.len_set, N.cap_set, N.flat_set]
 exact h

variable (N) in
/-- While the lists are made their own: those whose number is no longer left have theirs. -/
structure OwnIn (w0 wr : World) (base b : Nat) (l l' : List (α × Nat)) (left : Lit → Bool) : Prop where
 shelf : Shelf N.vs N.num N.T wr base b l'
 alike : l'.map (fun p => (N.set p.1 none 0, p.2)) = l.map (fun p => (N.set p.1 none 0, p.2))
 own : ∀ p ∈ l', left (.int .i64 (N.num p.1)) = false → N.Mine wr w0.heap.size p.1
 old : ∀ p ∈ l', left (.int .i64 (N.num p.1)) = true → p ∈ l
 apart : ∀ p ∈ l', ∀ p' ∈ l', left (.int .i64 (N.num p.1)) = false → left (.int .i64 (N.num p'.1)) = false → ∀ g, N.kid p.1 = some g → N.kid p'.1 = some g → p.2 = p'.2
 os : wr.os = w0.os
 tape : wr.tape = w0.tape
 output : wr.output = w0.output
 size : w0.heap.size ≤ wr.heap.size
 same : ∀ g, g < w0.heap.size → g ∉ l.map (·.2) → wr.heap[g]? = w0.heap[g]?

theorem has_map (m : MapL) {p : Int × Nat} (hp : p ∈ m) : Maps.has (mapD m) (.int .i64 p.1) = true := by
 show (m.map encP).any (fun q => q.1.sameKey (.int .i64 p.1)) = true
 rw [List.any_eq_true]
 refine ⟨encP p, List.mem_map.2 ⟨p, hp, rfl⟩, ?_⟩
 have : (encP p).1.sameKey (.int .i64 p.1) = (p.1 == p.1) := sameKey_int _ _
 rw [this]
 simp
theorem OwnIn.start {w0 w1 : World} {base b : Nat} {l : List (α × Nat)} (h : Shelf N.vs N.num N.T w0 base b l) (hg : w0.grownBy w1 none) : OwnIn N w0 w1 base b l l (Maps.has (mapD (keysOf N.num l))) := by
 have hk : ∀ p ∈ l, Maps.has (mapD (keysOf N.num l)) (.int .i64 (N.num p.1)) = true := fun p hp => has_map (keysOf N.num l) (p := (N.num p.1, p.2)) (List.mem_map.2 ⟨p, hp, rfl⟩)
 refine ⟨h.same fun g hg' => hg.block g (h.lt g hg') (by simp), rfl, fun p hp e => ?_, fun p hp _ => hp, fun p hp p' _ e => ?_, hg.os, hg.tape, hg.output, hg.size, fun g hg' _ => hg.block g hg' (by simp)⟩
 ·rw [hk p hp] at e; cases e
 ·rw [hk p hp] at e; cases e
/-- The iterator goes on. -/
theorem OwnIn.next {w0 wr w2 : World} {base b r : Nat} {l l' : List (α × Nat)} {left : Lit → Bool} (h : OwnIn N w0 wr base b l l' left) (hg : wr.grownBy w2 (some r)) (hl : ∀ g ∈ b :: l.map (·.2), g < w0.heap.size) (hr : w0.heap.size ≤ r) (hkid : ∀ p ∈ l', left (.int .i64 (N.num p.1)) = false → ¬ N.kid p.1 = some r) : OwnIn N w0 w2 base b l l' left := by
 have hbl : l'.map (·.2) = l.map (·.2) := by
  have := congrArg (List.map (·.2)) h.alike
  simp only [List.map_map, Function.comp_def] at this
  exact this
 refine ⟨h.shelf.same fun g hg' => hg.block g (h.shelf.lt g hg') (fun e => ?_), h.alike, fun p hp e => (h.own p hp e).same fun g hk => hg.block g ((h.own p hp e).lt hk).2 (fun e' => hkid p hp e (by rw [hk]; exact e')), h.old, h.apart, hg.os.trans h.os, hg.tape.trans h.tape, hg.output.trans h.output, Nat.le_trans h.size hg.size, fun g hg' hn => (hg.block g (Nat.lt_of_lt_of_le hg' h.size) (fun e => ?_)).trans (h.same g hg' hn)⟩
 ·rw [hbl] at hg'
  have := hl g hg'
  have := Option.some.inj e
  omega
 ·have := Option.some.inj e
  omega
theorem OwnIn.blocks {w0 wr : World} {base b : Nat} {l l' : List (α × Nat)} {left : Lit → Bool} (h : OwnIn N w0 wr base b l l' left) : l'.map (·.2) = l.map (·.2) := by
 have := congrArg (List.map (·.2)) h.alike
 simp only [List.map_map, Function.comp_def] at this
 exact this
theorem OwnIn.keys {w0 wr : World} {base b : Nat} {l l' : List (α × Nat)} {left : Lit → Bool} (h : OwnIn N w0 wr base b l l' left) : keysOf N.num l' = keysOf N.num l := by
 have := congrArg (List.map (fun p => (N.num p.1, p.2))) h.alike
 simp only [List.map_map, Function.comp_def, N.num_set] at this
 exact this
/-- A thing's list is copied, and the copy put in its place. -/
theorem OwnIn.step {w0 wr w3 w4 : World} {base b : Nat} {l l' : List (α × Nat)} {left : Lit → Bool} {p : α × Nat} {a : Option Addr} {cap : Nat} (h : OwnIn N w0 wr base b l l' left) (hl : ∀ g ∈ b :: l.map (·.2), g < w0.heap.size) (hp : p ∈ l')
  (ho : w3.ownsRow wr.heap.size N.e N.size (.slice a (N.len p.1) cap) (N.len p.1) (N.flat p.1)) (hg : wr.grownBy w3 none) (hc : w4.heap[p.2]? = some (.cells (N.vs (N.set p.1 a cap)) N.T (0, 0))) (hs : ∀ g, ¬ g = p.2 → w4.heap[g]? = w3.heap[g]?)
  (h1 : w4.os = w3.os) (h2 : w4.tape = w3.tape) (h3 : w4.output = w3.output) (h4 : w4.heap.size = w3.heap.size) :
  OwnIn N w0 w4 base b l (upd p.2 (fun x => N.set x a cap) l') (fun z => left z && !z.sameKey (.int .i64 (N.num p.1))) := by
 have hpl : p.2 ∈ l.map (·.2) := by rw [← h.blocks]; exact List.mem_map.2 ⟨p, hp, rfl⟩
 have hlt : p.2 < w0.heap.size := hl p.2 (List.mem_cons_of_mem _ hpl)
 have hone : ∀ q ∈ l', q.2 = p.2 → q = p := fun q hq e => h.shelf.one hq hp e
 have hcell : ∀ q ∈ l', ¬ q.2 = p.2 → ¬ N.num q.1 = N.num p.1 := fun q hq hne e => hne (by
  have hr := h.shelf.map.2
  have a1 := lookM_mem hr (p := (N.num q.1, q.2)) (List.mem_map.2 ⟨q, hq, rfl⟩)
  have a2 := lookM_mem hr (p := (N.num p.1, p.2)) (List.mem_map.2 ⟨p, hp, rfl⟩)
  simp only [e] at a1
  rw [a1] at a2
  exact Option.some.inj a2)
 have hleft : ∀ q ∈ l', ¬ q.2 = p.2 → (left (.int .i64 (N.num q.1)) && !(Lit.int .i64 (N.num q.1)).sameKey (.int .i64 (N.num p.1))) = left (.int .i64 (N.num q.1)) := fun q hq hne => by
  rw [sameKey_int]
  simp [hcell q hq hne]
 have hmine : N.Mine w3 wr.heap.size (N.set p.1 a cap) := Nest.mine_set ho
 have hblk : ∀ g, g < wr.heap.size → ¬ g = p.2 → w4.heap[g]? = wr.heap[g]? := fun g hg' hne => (hs g hne).trans (hg.block g hg' (by simp))
 have hkp : ∀ q ∈ l', left (.int .i64 (N.num q.1)) = false → ∀ g, N.kid q.1 = some g → ¬ g = p.2 := fun q hq e g hk e' => by
  have := ((h.own q hq e).lt hk).1
  omega
 refine ⟨?_, ?_, fun q hq e => ?_, fun q hq e => ?_, fun q hq q' hq' e e' g hk hk' => ?_, h1.trans (hg.os.trans h.os), h2.trans (hg.tape.trans h.tape), h3.trans (hg.output.trans h.output), by rw [h4]; exact Nat.le_trans h.size hg.size, fun g hg' hn => ?_⟩
 ·refine h.shelf.upd (fun q _ _ => N.num_set _ _ _) (fun q hq e => ?_) ?_ fun g hg' hne => hblk g (h.shelf.lt g (List.mem_cons_of_mem _ hg')) hne
  ·rw [hone q hq e]; exact hc
  ·exact hblk b h.shelf.map.lt (fun e => h.shelf.ne hp e.symm)
 ·rw [← h.alike]
  simp only [upd, List.map_map]
  refine List.map_congr_left fun q _ => ?_
  simp only [Function.comp]
  split
  ·simp only [N.set_set]
  ·rfl
 ·by_cases e0 : q.2 = p.2
  ·obtain ⟨q0, hq0, hq1, rfl⟩ := (mem_upd_eq e0).1 hq
   rw [hone q0 hq0 hq1]
   refine (hmine.low h.size).same fun g hk => hs g (fun e' => ?_)
   have := (hmine.lt hk).1
   have := h.size
   omega
  ·have hq0 := (mem_upd_ne e0).1 hq
   rw [hleft q hq0 e0] at e
   exact (h.own q hq0 e).same fun g hk => hblk g ((h.own q hq0 e).lt hk).2 (hkp q hq0 e g hk)
 ·by_cases e0 : q.2 = p.2
  ·obtain ⟨q0, hq0, hq1, rfl⟩ := (mem_upd_eq e0).1 hq
   rw [hone q0 hq0 hq1] at e
   simp only [N.num_set] at e
   rw [sameKey_int] at e
   simp at e
  ·have hq0 := (mem_upd_ne e0).1 hq
   rw [hleft q hq0 e0] at e
   exact h.old q hq0 e
 ·by_cases e0 : q.2 = p.2
  ·by_cases e1 : q'.2 = p.2
   ·rw [e0, e1]
   ·obtain ⟨q0, hq0, hq1, rfl⟩ := (mem_upd_eq e0).1 hq
    have hq2 := (mem_upd_ne e1).1 hq'
    rw [hleft q' hq2 e1] at e'
    rw [hone q0 hq0 hq1] at hk
    have := ((h.own q' hq2 e').lt hk').2
    have := (hmine.lt hk).1
    omega
  ·have hq0 := (mem_upd_ne e0).1 hq
   rw [hleft q hq0 e0] at e
   by_cases e1 : q'.2 = p.2
   ·obtain ⟨q2, hq2, hq3, rfl⟩ := (mem_upd_eq e1).1 hq'
    rw [hone q2 hq2 hq3] at hk'
    have := ((h.own q hq0 e).lt hk).2
    have := (hmine.lt hk').1
    omega
   ·have hq2 := (mem_upd_ne e1).1 hq'
    rw [hleft q' hq2 e1] at e'
    exact h.apart q hq0 q' hq2 e e' g hk hk'
 ·have hne : ¬ g = p.2 := fun e => hn (by rw [e]; exact hpl)
  exact (hblk g (Nat.lt_of_lt_of_le hg' h.size) hne).trans (h.same g hg' hn)
theorem grown_setCell (w : World) (c i : Nat) (v : Value) : w.grownBy (w.setCell ⟨c, i, none⟩ v) (some c) :=
 ⟨rfl, rfl, rfl, by simp [World.setCell], fun k _ hne => Below.heap_setCell w _ v k (fun e => hne (by rw [e]))⟩
/-- One thing out of those that are left. -/
theorem OwnIn.pick {w0 wr : World} {base b c : Nat} {l l' : List (α × Nat)} {left : Lit → Bool} {x : Int} {kl : Lit} {y : DataW Unit × List MemPlace} (h : OwnIn N w0 wr base b l l' left) (hkey : keyOf Tryz.prog 2 (.int .i64 x) = some kl) (hv : ptrR (ptrV c) = some y)
  (hat : ∀ zd, (mapD (keysOf N.num l)).atKey kl zd = y.1) : ∃ p ∈ l', N.num p.1 = x ∧ p.2 = c ∧ kl = .int .i64 x := by
 obtain ⟨x', e, rfl, -⟩ := keyOf_int_inv Tryz.underlying2 hkey
 cases e
 obtain ⟨g, e, rfl⟩ := ptrR_inv hv
 have e : g = c := by
  simp only [ptrV, Value.pointer.injEq, Option.some.injEq, Addr.mk.injEq] at e
  exact e.1.symm
 subst e
 have h1 := hat .nil
 rw [atKey_map] at h1
 cases hl : lookM (keysOf N.num l) x with
 | none => rw [hl] at h1; cases h1
 | some g' =>
  rw [hl] at h1
  simp only [DataW.lit.injEq, Lit.int.injEq, Int.natCast_inj, true_and] at h1
  subst h1
  have hm := mem_of_lookM hl
  rw [← h.keys] at hm
  obtain ⟨p, hp, e⟩ := List.mem_map.1 hm
  simp only [Prod.mk.injEq] at e
  exact ⟨p, hp, e.1, e.2, rfl⟩
/-- A round: the iterator goes on, the thing's list is copied, the copy is put in its place. -/
theorem OwnIn.turn {w0 wr w2 w3 : World} {base b r n cnt cnt' i : Nat} {l l' : List (α × Nat)} {left : Lit → Bool} {D : DataW Unit} {p : α × Nat} {a : Option Addr} {cap : Nat} (h : OwnIn N w0 wr base b l l' left) (hrg : wr.ranges Tryz.prog 2 ptrR b r n D left cnt)
  (hgr : wr.grownBy w2 (some r)) (hrg2 : w2.ranges Tryz.prog 2 ptrR b r n D (fun z => left z && !z.sameKey (.int .i64 (N.num p.1))) cnt') (hl : ∀ g ∈ b :: l.map (·.2), g < w0.heap.size) (hr : w0.heap.size ≤ r) (hp : p ∈ l')
  (ho : w3.ownsRow w2.heap.size N.e N.size (.slice a (N.len p.1) cap) (N.len p.1) (N.flat p.1)) (hg : w2.grownBy w3 none) (hvs : (N.vs p.1).setIfInBounds i (.slice a (N.len p.1) cap) = N.vs (N.set p.1 a cap)) :
  OwnIn N w0 (w3.setCell ⟨p.2, i, none⟩ (.slice a (N.len p.1) cap)) base b l (upd p.2 (fun x => N.set x a cap) l') (fun z => left z && !z.sameKey (.int .i64 (N.num p.1))) ∧
   (w3.setCell ⟨p.2, i, none⟩ (.slice a (N.len p.1) cap)).ranges Tryz.prog 2 ptrR b r n D (fun z => left z && !z.sameKey (.int .i64 (N.num p.1))) cnt' := by
 have hpl : p.2 ∈ l.map (·.2) := by rw [← h.blocks]; exact List.mem_map.2 ⟨p, hp, rfl⟩
 have hlt : p.2 < w0.heap.size := hl p.2 (List.mem_cons_of_mem _ hpl)
 have h2 : OwnIn N w0 w2 base b l l' left := h.next hgr hl hr fun q hq e hk => by
  obtain ⟨es, clock, since, seen, c0, _, _, _, _, hit, _⟩ := hrg
  rcases (h.own q hq e).2 with ⟨hv, -⟩ | ⟨g', cap', cur, hv, hb, hg', -⟩
  ·simp only [Value.slice.injEq] at hv
   simp [Nest.kid, hv.1] at hk
  ·simp only [Value.slice.injEq] at hv
   simp only [Nest.kid, hv.1, Option.map_some, Option.some.injEq] at hk
   subst hk
   rw [hit] at hg'
   cases hg'
 have hbox := (hg.block p.2 (Nat.lt_of_lt_of_le hlt h2.size) (by simp)).trans (h2.shelf.box p hp)
 have hc := heap_setCell_same w3 p.2 i _ _ (.slice a (N.len p.1) cap) hbox
 rw [hvs] at hc
 refine ⟨h2.step hl hp ho hg hc (fun g hne => Below.heap_setCell w3 _ _ g hne) rfl rfl rfl (by simp [World.setCell]), ?_⟩
 refine (hrg2.kept hg (by simp) (by simp)).kept (grown_setCell w3 p.2 i _) (fun e => ?_) (fun e => ?_)
 ·exact h2.shelf.ne hp (Option.some.inj e).symm
 ·have := Option.some.inj e
  omega
/-- The blocks of the lists. -/
def kids (N : Nest α) (l : List (α × Nat)) : List Nat := l.filterMap fun p => N.kid p.1
theorem OwnIn.nodup {w0 wr : World} {base b : Nat} {l l' : List (α × Nat)} {left : Lit → Bool} (h : OwnIn N w0 wr base b l l' left) (hd : ∀ kl, left kl = false) : (kids N l').Nodup := by
 have hn := (List.nodup_cons.1 h.shelf.nodup).2
 have ha := h.apart
 clear h
 induction l' with
 | nil => exact List.nodup_nil
 | cons y r ih =>
  rw [List.map_cons, List.nodup_cons] at hn
  have ihr := ih hn.2 (fun p hp p' hp' => ha p (List.mem_cons_of_mem _ hp) p' (List.mem_cons_of_mem _ hp'))
  unfold kids at ihr ⊢
  rw [List.filterMap_cons]
  split
  ·exact ihr
  ·rename_i g hg
   refine List.nodup_cons.2 ⟨fun hm => ?_, ihr⟩
   obtain ⟨p, hp, hk⟩ := List.mem_filterMap.1 hm
   exact hn.1 (List.mem_map.2 ⟨p, hp, (ha y (by simp) p (by simp [hp]) (hd _) (hd _) g hg hk).symm⟩)
end

end Go.Proofs.YtkbcplnlehdjfaaGreat

/- The forms of ops: what form an op has, and what op a form is. -/
namespace Go.Proofs.YtkbcplnlehdjfaaGreat
open Go.RowKit
attribute [local go_sem ↓] Go.wp_at_zero Go.wp_at_succ

set_option maxHeartbeats 1000000 in
theorem asOp_bare (k : Int) (w : World) : Calls Tryz.prog 320 #[.agg #[.int .i64 k]] w fun e w' => e = .returned (.agg #[.int .i64 k, .int .i64 0, .int .i64 0, .string ByteArray.empty]) ∧ Below w.heap.size w w' := by
 go_enter Tryz.func320, Tryz.ntmps320
 go_wp2
 exact bodyPost_ret (v := .agg #[.int .i64 k, .int .i64 0, .int .i64 0, .string ByteArray.empty]) (by simp [results, Tryz.results320, go_sem]; try rfl) rfl ⟨rfl, by go_grown⟩
set_option maxHeartbeats 1000000 in
theorem asOp_number (k n : Int) (w : World) : Calls Tryz.prog 316 #[.agg #[.int .i64 k, .int .i64 n]] w fun e w' => e = .returned (.agg #[.int .i64 k, .int .i64 n, .int .i64 0, .string ByteArray.empty]) ∧ Below w.heap.size w w' := by
 go_enter Tryz.func316, Tryz.ntmps316
 go_wp2
 exact bodyPost_ret (v := .agg #[.int .i64 k, .int .i64 n, .int .i64 0, .string ByteArray.empty]) (by simp [results, Tryz.results316, go_sem]; try rfl) rfl ⟨rfl, by go_grown⟩
set_option maxHeartbeats 1000000 in
theorem asOp_wait (k n m : Int) (w : World) : Calls Tryz.prog 317 #[.agg #[.int .i64 k, .int .i64 n, .int .i64 m]] w fun e w' => e = .returned (.agg #[.int .i64 k, .int .i64 n, .int .i64 m, .string ByteArray.empty]) ∧ Below w.heap.size w w' := by
 go_enter Tryz.func317, Tryz.ntmps317
 go_wp2
 exact bodyPost_ret (v := .agg #[.int .i64 k, .int .i64 n, .int .i64 m, .string ByteArray.empty]) (by simp [results, Tryz.results317, go_sem]; try rfl) rfl ⟨rfl, by go_grown⟩
set_option maxHeartbeats 1000000 in
theorem asOp_send (k n m : Int) (s : ByteArray) (w : World) : Calls Tryz.prog 318 #[.agg #[.int .i64 k, .int .i64 n, .int .i64 m, .string s]] w fun e w' => e = .returned (.agg #[.int .i64 k, .int .i64 n, .int .i64 m, .string s]) ∧ Below w.heap.size w w' := by
 go_enter Tryz.func318, Tryz.ntmps318
 go_wp2
 exact bodyPost_ret (v := .agg #[.int .i64 k, .int .i64 n, .int .i64 m, .string s]) (by simp [results, Tryz.results318, go_sem]; try rfl) rfl ⟨rfl, by go_grown⟩
set_option maxHeartbeats 1000000 in
theorem asOp_text (k n : Int) (s : ByteArray) (w : World) : Calls Tryz.prog 319 #[.agg #[.int .i64 k, .int .i64 n, .string s]] w fun e w' => e = .returned (.agg #[.int .i64 k, .int .i64 n, .int .i64 0, .string s]) ∧ Below w.heap.size w w' := by
 go_enter Tryz.func319, Tryz.ntmps319
 go_wp2
 exact bodyPost_ret (v := .agg #[.int .i64 k, .int .i64 n, .int .i64 0, .string s]) (by simp [results, Tryz.results319, go_sem]; try rfl) rfl ⟨rfl, by go_grown⟩
set_option maxHeartbeats 4000000 in
theorem formOf_num (k n m : Int) (s : ByteArray) (w : World) (hk : isNum k) :
  Calls Tryz.prog 290 #[.agg #[.int .i64 k, .int .i64 n, .int .i64 m, .string s]] w fun e w' => e = .returned (.tuple #[.iface 330 (.agg #[.int .i64 k, .int .i64 n]), .bool true]) ∧ Below w.heap.size w w' := by
 rcases hk with rfl | rfl | rfl | rfl | rfl | rfl | rfl | rfl | rfl
 all_goals
  go_enter Tryz.func290, Tryz.ntmps290
  go_wp2
  go_ret2
  exact ⟨rfl, by go_grown⟩
set_option maxHeartbeats 4000000 in
theorem formOf_wait (k n m : Int) (s : ByteArray) (w : World) (hk : isWait k) :
  Calls Tryz.prog 290 #[.agg #[.int .i64 k, .int .i64 n, .int .i64 m, .string s]] w fun e w' => e = .returned (.tuple #[.iface 332 (.agg #[.int .i64 k, .int .i64 n, .int .i64 m]), .bool true]) ∧ Below w.heap.size w w' := by
 rcases hk with rfl | rfl | rfl | rfl
 all_goals
  go_enter Tryz.func290, Tryz.ntmps290
  go_wp2
  go_ret2
  exact ⟨rfl, by go_grown⟩
set_option maxHeartbeats 4000000 in
theorem formOf_send (k n m : Int) (s : ByteArray) (w : World) (hk : k = 8) :
  Calls Tryz.prog 290 #[.agg #[.int .i64 k, .int .i64 n, .int .i64 m, .string s]] w fun e w' => e = .returned (.tuple #[.iface 334 (.agg #[.int .i64 k, .int .i64 n, .int .i64 m, .string s]), .bool true]) ∧ Below w.heap.size w w' := by
 rcases hk with rfl
 all_goals
  go_enter Tryz.func290, Tryz.ntmps290
  go_wp2
  go_ret2
  exact ⟨rfl, by go_grown⟩
set_option maxHeartbeats 4000000 in
theorem formOf_text (k n m : Int) (s : ByteArray) (w : World) (hk : isText k) :
  Calls Tryz.prog 290 #[.agg #[.int .i64 k, .int .i64 n, .int .i64 m, .string s]] w fun e w' => e = .returned (.tuple #[.iface 336 (.agg #[.int .i64 k, .int .i64 n, .string s]), .bool true]) ∧ Below w.heap.size w w' := by
 rcases hk with rfl | rfl
 all_goals
  go_enter Tryz.func290, Tryz.ntmps290
  go_wp2
  go_ret2
  exact ⟨rfl, by go_grown⟩
set_option maxHeartbeats 4000000 in
theorem formOf_loop (k n m : Int) (s : ByteArray) (w : World) (hk : k = 17) :
  Calls Tryz.prog 290 #[.agg #[.int .i64 k, .int .i64 n, .int .i64 m, .string s]] w fun e w' => e = .returned (.tuple #[.iface 338 (.agg #[.int .i64 k]), .bool true]) ∧ Below w.heap.size w w' := by
 rcases hk with rfl
 all_goals
  go_enter Tryz.func290, Tryz.ntmps290
  go_wp2
  go_ret2
  exact ⟨rfl, by go_grown⟩
set_option maxHeartbeats 4000000 in
theorem formOf_none (k n m : Int) (s : ByteArray) (w : World) (hk : ¬ (1 ≤ k ∧ k ≤ 17)) :
  Calls Tryz.prog 290 #[.agg #[.int .i64 k, .int .i64 n, .int .i64 m, .string s]] w fun e w' => e = .returned (.tuple #[.iface 338 (.agg #[.int .i64 0]), .bool false]) ∧ Below w.heap.size w w' := by
 have e1 : (k == 1) = false := by simp; omega
 have e2 : (k == 2) = false := by simp; omega
 have e3 : (k == 3) = false := by simp; omega
 have e4 : (k == 4) = false := by simp; omega
 have e5 : (k == 5) = false := by simp; omega
 have e6 : (k == 6) = false := by simp; omega
 have e7 : (k == 7) = false := by simp; omega
 have e8 : (k == 8) = false := by simp; omega
 have e9 : (k == 9) = false := by simp; omega
 have e10 : (k == 10) = false := by simp; omega
 have e11 : (k == 11) = false := by simp; omega
 have e12 : (k == 12) = false := by simp; omega
 have e13 : (k == 13) = false := by simp; omega
 have e14 : (k == 14) = false := by simp; omega
 have e15 : (k == 15) = false := by simp; omega
 have e16 : (k == 16) = false := by simp; omega
 have e17 : (k == 17) = false := by simp; omega
 go_enter Tryz.func290, Tryz.ntmps290
 go_wp2
 go_ret2
 exact ⟨rfl, by go_grown⟩

end Go.Proofs.YtkbcplnlehdjfaaGreat

/- What OpOk answers, the program's. -/
namespace Go.Proofs.YtkbcplnlehdjfaaGreat
open Go.RowKit
attribute [local go_sem ↓] Go.wp_at_zero Go.wp_at_succ

theorem cells_below {w w1 : World} {cs : Array Value} {t : TypeId} (h : Below (w.alloc (.cells cs t)).heap.size (w.alloc (.cells cs t)) w1) (i : Nat) : w1.cell? ⟨w.heap.size, i, none⟩ = cs[i]? :=
  (h.cell (p := ⟨w.heap.size, i, none⟩) (by simp)).trans (by simp)
theorem below_undrew {B : Nat} {w w' : World} (h : Below B w.drew w') : Below B w w' := ⟨h.os, h.tape, h.output, h.size, h.block⟩
theorem below_drewN {B : Nat} {w w' : World} (h : Below B w w') (n : Nat) : Below B w (w'.drewN n) := ⟨h.os, h.tape, h.output, h.size, h.block⟩
theorem opB_num {k n m : Int} {s : ByteArray} (h : isNum k) : opB k n m s = (inB n 1 1000 && decide (m = 0) && emptyB s) := by
  unfold isNum at h
  unfold opB
  rw [if_pos h]
theorem opB_wait {k n m : Int} {s : ByteArray} (h : isWait k) : opB k n m s = (inB n 1 1000 && inB m (-1) 1000 && emptyB s) := by
  unfold isWait at h
  unfold opB
  rw [if_neg (by omega), if_pos h]
theorem opB_send {k n m : Int} {s : ByteArray} (h : k = 8) : opB k n m s = (inB n 1 1000 && inB m (-1) 1000 && plainB s) := by
  unfold opB
  rw [if_neg (by omega), if_neg (by omega), if_pos h]
theorem opB_text {k n m : Int} {s : ByteArray} (h : isText k) : opB k n m s = (inB n 1 1000 && decide (m = 0) && plainB s) := by
  unfold isText at h
  unfold opB
  rw [if_neg (by omega), if_neg (by omega), if_neg (by omega), if_pos h]
theorem opB_loop {k n m : Int} {s : ByteArray} (h : k = 17) : opB k n m s = (decide (n = 0) && decide (m = 0) && emptyB s) := by
  unfold opB
  rw [if_neg (by omega), if_neg (by omega), if_neg (by omega), if_neg (by omega), if_pos h]

set_option maxHeartbeats 4000000 in
theorem implOp_num (k n m : Int) (s : ByteArray) (w : World) (hk : isNum k) :
    Calls Tryz.prog 287 #[.agg #[.int .i64 k, .int .i64 n, .int .i64 m, .string s]] w fun e w' => e = .returned (.bool (opB k n m s)) ∧ Below w.heap.size w w' := by
  have HO : Hid (opB k n m s = (inB n 1 1000 && decide (m = 0) && emptyB s)) := opB_num hk
  have HK : Hid (isNum k) := hk
  clear hk
  go_enter Tryz.func287, Tryz.ntmps287
  go_wp2_with fail
  refine (formOf_num k n m s _ HK.out).mono ?_
  rintro e w1 ⟨rfl, hb1⟩
  have c0 : w1.cell? ⟨w.heap.size, 0, none⟩ = some (.int .i64 k) := cells_below hb1 0
  have c1 : w1.cell? ⟨w.heap.size, 1, none⟩ = some (.int .i64 n) := cells_below hb1 1
  have c2 : w1.cell? ⟨w.heap.size, 2, none⟩ = some (.int .i64 m) := cells_below hb1 2
  have c3 : w1.cell? ⟨w.heap.size, 3, none⟩ = some (.string s) := cells_below hb1 3
  have HB1 : Hid (Below w.heap.size w w1) := ((Below.refl _ _).alloc (Nat.le_refl _) _).trans (hb1.mono (by simp))
  have HS1 : Hid (w.heap.size < w1.heap.size) := by have := hb1.size; simp only [World.size_alloc] at this; exact this
  clear hb1
  by_cases hm : m = 0
  rotate_left
  · have hm' : ¬ 0 = m := fun h => hm h.symm
    go_wp2_with fail
    first
      | (go_region_with
      ((first
        | (go_at_call 316
           refine (asOp_number _ _ _).mono ?_
           rintro e w2 ⟨rfl, hb2⟩
           have hb2 : Below w1.heap.size w1 w2 := below_undrew hb2
           have HB2 : Hid (Below w.heap.size w w2) := HB1.out.trans (hb2.mono (by have := HS1.out; show w.heap.size ≤ w1.heap.size; omega))
           have HS2 : Hid (w.heap.size < w2.heap.size) := by have h1 := HS1.out; have h2 : w1.heap.size ≤ w2.heap.size := hb2.size; exact Nat.lt_of_lt_of_le h1 h2
           have d0 : w2.cell? ⟨w.heap.size, 0, none⟩ = some (.int .i64 k) := (hb2.cell (p := ⟨w.heap.size, 0, none⟩) HS1.out).trans c0
           have d1 : w2.cell? ⟨w.heap.size, 1, none⟩ = some (.int .i64 n) := (hb2.cell (p := ⟨w.heap.size, 1, none⟩) HS1.out).trans c1
           have d2 : w2.cell? ⟨w.heap.size, 2, none⟩ = some (.int .i64 m) := (hb2.cell (p := ⟨w.heap.size, 2, none⟩) HS1.out).trans c2
           have d3 : w2.cell? ⟨w.heap.size, 3, none⟩ = some (.string s) := (hb2.cell (p := ⟨w.heap.size, 3, none⟩) HS1.out).trans c3
           clear hb2)
        | (go_at_call 291
           refine (formOk_number _ _ _).mono ?_
           rintro e w3 ⟨rfl, hb3⟩
           have HB3 : Hid (Below w.heap.size w w3) := HB2.out.trans (hb3.mono (by have := HS2.out; omega))
           have f0 : w3.cell? ⟨w.heap.size, 0, none⟩ = some (.int .i64 k) := (hb3.cell (p := ⟨w.heap.size, 0, none⟩) HS2.out).trans d0
           have f1 : w3.cell? ⟨w.heap.size, 1, none⟩ = some (.int .i64 n) := (hb3.cell (p := ⟨w.heap.size, 1, none⟩) HS2.out).trans d1
           have f2 : w3.cell? ⟨w.heap.size, 2, none⟩ = some (.int .i64 m) := (hb3.cell (p := ⟨w.heap.size, 2, none⟩) HS2.out).trans d2
           have f3 : w3.cell? ⟨w.heap.size, 3, none⟩ = some (.string s) := (hb3.cell (p := ⟨w.heap.size, 3, none⟩) HS2.out).trans d3
           clear hb3))))
      | (exact absurd rfl (by assumption))
    all_goals go_wp2
    all_goals go_ret
    all_goals exact ⟨ret_bool (by rw [HO.out]; simp [hm]), HB2.out⟩
  subst hm
  by_cases hes : s.toList = []
  rotate_left
  · have hes' : ¬ [] = s.toList := fun h => hes h.symm
    have hem : emptyB s = false := by simp [emptyB, hes]
    go_wp2_with fail
    first
      | (go_region_with
      ((first
        | (go_at_call 316
           refine (asOp_number _ _ _).mono ?_
           rintro e w2 ⟨rfl, hb2⟩
           have hb2 : Below w1.heap.size w1 w2 := below_undrew hb2
           have HB2 : Hid (Below w.heap.size w w2) := HB1.out.trans (hb2.mono (by have := HS1.out; show w.heap.size ≤ w1.heap.size; omega))
           have HS2 : Hid (w.heap.size < w2.heap.size) := by have h1 := HS1.out; have h2 : w1.heap.size ≤ w2.heap.size := hb2.size; exact Nat.lt_of_lt_of_le h1 h2
           have d0 : w2.cell? ⟨w.heap.size, 0, none⟩ = some (.int .i64 k) := (hb2.cell (p := ⟨w.heap.size, 0, none⟩) HS1.out).trans c0
           have d1 : w2.cell? ⟨w.heap.size, 1, none⟩ = some (.int .i64 n) := (hb2.cell (p := ⟨w.heap.size, 1, none⟩) HS1.out).trans c1
           have d2 : w2.cell? ⟨w.heap.size, 2, none⟩ = some (.int .i64 0) := (hb2.cell (p := ⟨w.heap.size, 2, none⟩) HS1.out).trans c2
           have d3 : w2.cell? ⟨w.heap.size, 3, none⟩ = some (.string s) := (hb2.cell (p := ⟨w.heap.size, 3, none⟩) HS1.out).trans c3
           clear hb2)
        | (go_at_call 291
           refine (formOk_number _ _ _).mono ?_
           rintro e w3 ⟨rfl, hb3⟩
           have HB3 : Hid (Below w.heap.size w w3) := HB2.out.trans (hb3.mono (by have := HS2.out; omega))
           have f0 : w3.cell? ⟨w.heap.size, 0, none⟩ = some (.int .i64 k) := (hb3.cell (p := ⟨w.heap.size, 0, none⟩) HS2.out).trans d0
           have f1 : w3.cell? ⟨w.heap.size, 1, none⟩ = some (.int .i64 n) := (hb3.cell (p := ⟨w.heap.size, 1, none⟩) HS2.out).trans d1
           have f2 : w3.cell? ⟨w.heap.size, 2, none⟩ = some (.int .i64 0) := (hb3.cell (p := ⟨w.heap.size, 2, none⟩) HS2.out).trans d2
           have f3 : w3.cell? ⟨w.heap.size, 3, none⟩ = some (.string s) := (hb3.cell (p := ⟨w.heap.size, 3, none⟩) HS2.out).trans d3
           clear hb3))))
      | (exact absurd rfl (by assumption))
    all_goals go_wp2
    all_goals go_ret
    all_goals exact ⟨ret_bool (by rw [HO.out]; simp [hem]), HB2.out⟩
  have hem : emptyB s = true := by simp [emptyB, hes]
  go_wp2_with fail
  first
    | (go_region_with
    ((first
      | (go_at_call 316
         refine (asOp_number _ _ _).mono ?_
         rintro e w2 ⟨rfl, hb2⟩
         have hb2 : Below w1.heap.size w1 w2 := below_undrew hb2
         have HB2 : Hid (Below w.heap.size w w2) := HB1.out.trans (hb2.mono (by have := HS1.out; show w.heap.size ≤ w1.heap.size; omega))
         have HS2 : Hid (w.heap.size < w2.heap.size) := by have h1 := HS1.out; have h2 : w1.heap.size ≤ w2.heap.size := hb2.size; exact Nat.lt_of_lt_of_le h1 h2
         have d0 : w2.cell? ⟨w.heap.size, 0, none⟩ = some (.int .i64 k) := (hb2.cell (p := ⟨w.heap.size, 0, none⟩) HS1.out).trans c0
         have d1 : w2.cell? ⟨w.heap.size, 1, none⟩ = some (.int .i64 n) := (hb2.cell (p := ⟨w.heap.size, 1, none⟩) HS1.out).trans c1
         have d2 : w2.cell? ⟨w.heap.size, 2, none⟩ = some (.int .i64 0) := (hb2.cell (p := ⟨w.heap.size, 2, none⟩) HS1.out).trans c2
         have d3 : w2.cell? ⟨w.heap.size, 3, none⟩ = some (.string s) := (hb2.cell (p := ⟨w.heap.size, 3, none⟩) HS1.out).trans c3
         clear hb2)
      | (go_at_call 291
         refine (formOk_number _ _ _).mono ?_
         rintro e w3 ⟨rfl, hb3⟩
         have HB3 : Hid (Below w.heap.size w w3) := HB2.out.trans (hb3.mono (by have := HS2.out; omega))
         have f0 : w3.cell? ⟨w.heap.size, 0, none⟩ = some (.int .i64 k) := (hb3.cell (p := ⟨w.heap.size, 0, none⟩) HS2.out).trans d0
         have f1 : w3.cell? ⟨w.heap.size, 1, none⟩ = some (.int .i64 n) := (hb3.cell (p := ⟨w.heap.size, 1, none⟩) HS2.out).trans d1
         have f2 : w3.cell? ⟨w.heap.size, 2, none⟩ = some (.int .i64 0) := (hb3.cell (p := ⟨w.heap.size, 2, none⟩) HS2.out).trans d2
         have f3 : w3.cell? ⟨w.heap.size, 3, none⟩ = some (.string s) := (hb3.cell (p := ⟨w.heap.size, 3, none⟩) HS2.out).trans d3
         clear hb3))))
    | (exact absurd rfl (by assumption))
  all_goals go_wp2
  all_goals go_ret
  all_goals exact ⟨ret_bool (by rw [HO.out]; simp_all), HB3.out⟩

set_option maxHeartbeats 4000000 in
theorem implOp_wait (k n m : Int) (s : ByteArray) (w : World) (hk : isWait k) :
    Calls Tryz.prog 287 #[.agg #[.int .i64 k, .int .i64 n, .int .i64 m, .string s]] w fun e w' => e = .returned (.bool (opB k n m s)) ∧ Below w.heap.size w w' := by
  have HO : Hid (opB k n m s = (inB n 1 1000 && inB m (-1) 1000 && emptyB s)) := opB_wait hk
  have HK : Hid (isWait k) := hk
  clear hk
  go_enter Tryz.func287, Tryz.ntmps287
  go_wp2_with fail
  refine (formOf_wait k n m s _ HK.out).mono ?_
  rintro e w1 ⟨rfl, hb1⟩
  have c0 : w1.cell? ⟨w.heap.size, 0, none⟩ = some (.int .i64 k) := cells_below hb1 0
  have c1 : w1.cell? ⟨w.heap.size, 1, none⟩ = some (.int .i64 n) := cells_below hb1 1
  have c2 : w1.cell? ⟨w.heap.size, 2, none⟩ = some (.int .i64 m) := cells_below hb1 2
  have c3 : w1.cell? ⟨w.heap.size, 3, none⟩ = some (.string s) := cells_below hb1 3
  have HB1 : Hid (Below w.heap.size w w1) := ((Below.refl _ _).alloc (Nat.le_refl _) _).trans (hb1.mono (by simp))
  have HS1 : Hid (w.heap.size < w1.heap.size) := by have := hb1.size; simp only [World.size_alloc] at this; exact this
  clear hb1
  by_cases hes : s.toList = []
  rotate_left
  · have hes' : ¬ [] = s.toList := fun h => hes h.symm
    have hem : emptyB s = false := by simp [emptyB, hes]
    go_wp2_with fail
    first
      | (go_region_with
      ((first
        | (go_at_call 317
           refine (asOp_wait _ _ _ _).mono ?_
           rintro e w2 ⟨rfl, hb2⟩
           have hb2 : Below w1.heap.size w1 w2 := below_undrew hb2
           have HB2 : Hid (Below w.heap.size w w2) := HB1.out.trans (hb2.mono (by have := HS1.out; show w.heap.size ≤ w1.heap.size; omega))
           have HS2 : Hid (w.heap.size < w2.heap.size) := by have h1 := HS1.out; have h2 : w1.heap.size ≤ w2.heap.size := hb2.size; exact Nat.lt_of_lt_of_le h1 h2
           have d0 : w2.cell? ⟨w.heap.size, 0, none⟩ = some (.int .i64 k) := (hb2.cell (p := ⟨w.heap.size, 0, none⟩) HS1.out).trans c0
           have d1 : w2.cell? ⟨w.heap.size, 1, none⟩ = some (.int .i64 n) := (hb2.cell (p := ⟨w.heap.size, 1, none⟩) HS1.out).trans c1
           have d2 : w2.cell? ⟨w.heap.size, 2, none⟩ = some (.int .i64 m) := (hb2.cell (p := ⟨w.heap.size, 2, none⟩) HS1.out).trans c2
           have d3 : w2.cell? ⟨w.heap.size, 3, none⟩ = some (.string s) := (hb2.cell (p := ⟨w.heap.size, 3, none⟩) HS1.out).trans c3
           clear hb2)
        | (go_at_call 291
           refine (formOk_wait _ _ _ _).mono ?_
           rintro e w3 ⟨rfl, hb3⟩
           have HB3 : Hid (Below w.heap.size w w3) := HB2.out.trans (hb3.mono (by have := HS2.out; omega))
           have f0 : w3.cell? ⟨w.heap.size, 0, none⟩ = some (.int .i64 k) := (hb3.cell (p := ⟨w.heap.size, 0, none⟩) HS2.out).trans d0
           have f1 : w3.cell? ⟨w.heap.size, 1, none⟩ = some (.int .i64 n) := (hb3.cell (p := ⟨w.heap.size, 1, none⟩) HS2.out).trans d1
           have f2 : w3.cell? ⟨w.heap.size, 2, none⟩ = some (.int .i64 m) := (hb3.cell (p := ⟨w.heap.size, 2, none⟩) HS2.out).trans d2
           have f3 : w3.cell? ⟨w.heap.size, 3, none⟩ = some (.string s) := (hb3.cell (p := ⟨w.heap.size, 3, none⟩) HS2.out).trans d3
           clear hb3))))
      | (exact absurd rfl (by assumption))
    all_goals go_wp2
    all_goals go_ret
    all_goals exact ⟨ret_bool (by rw [HO.out]; simp [hem]), HB2.out⟩
  have hem : emptyB s = true := by simp [emptyB, hes]
  go_wp2_with fail
  first
    | (go_region_with
    ((first
      | (go_at_call 317
         refine (asOp_wait _ _ _ _).mono ?_
         rintro e w2 ⟨rfl, hb2⟩
         have hb2 : Below w1.heap.size w1 w2 := below_undrew hb2
         have HB2 : Hid (Below w.heap.size w w2) := HB1.out.trans (hb2.mono (by have := HS1.out; show w.heap.size ≤ w1.heap.size; omega))
         have HS2 : Hid (w.heap.size < w2.heap.size) := by have h1 := HS1.out; have h2 : w1.heap.size ≤ w2.heap.size := hb2.size; exact Nat.lt_of_lt_of_le h1 h2
         have d0 : w2.cell? ⟨w.heap.size, 0, none⟩ = some (.int .i64 k) := (hb2.cell (p := ⟨w.heap.size, 0, none⟩) HS1.out).trans c0
         have d1 : w2.cell? ⟨w.heap.size, 1, none⟩ = some (.int .i64 n) := (hb2.cell (p := ⟨w.heap.size, 1, none⟩) HS1.out).trans c1
         have d2 : w2.cell? ⟨w.heap.size, 2, none⟩ = some (.int .i64 m) := (hb2.cell (p := ⟨w.heap.size, 2, none⟩) HS1.out).trans c2
         have d3 : w2.cell? ⟨w.heap.size, 3, none⟩ = some (.string s) := (hb2.cell (p := ⟨w.heap.size, 3, none⟩) HS1.out).trans c3
         clear hb2)
      | (go_at_call 291
         refine (formOk_wait _ _ _ _).mono ?_
         rintro e w3 ⟨rfl, hb3⟩
         have HB3 : Hid (Below w.heap.size w w3) := HB2.out.trans (hb3.mono (by have := HS2.out; omega))
         have f0 : w3.cell? ⟨w.heap.size, 0, none⟩ = some (.int .i64 k) := (hb3.cell (p := ⟨w.heap.size, 0, none⟩) HS2.out).trans d0
         have f1 : w3.cell? ⟨w.heap.size, 1, none⟩ = some (.int .i64 n) := (hb3.cell (p := ⟨w.heap.size, 1, none⟩) HS2.out).trans d1
         have f2 : w3.cell? ⟨w.heap.size, 2, none⟩ = some (.int .i64 m) := (hb3.cell (p := ⟨w.heap.size, 2, none⟩) HS2.out).trans d2
         have f3 : w3.cell? ⟨w.heap.size, 3, none⟩ = some (.string s) := (hb3.cell (p := ⟨w.heap.size, 3, none⟩) HS2.out).trans d3
         clear hb3))))
    | (exact absurd rfl (by assumption))
  all_goals go_wp2
  all_goals go_ret
  all_goals exact ⟨ret_bool (by rw [HO.out]; simp_all), HB3.out⟩

set_option maxHeartbeats 4000000 in
theorem implOp_send (k n m : Int) (s : ByteArray) (w : World) (hs : s.size ≤ 1048576) (hk : k = 8) :
    Calls Tryz.prog 287 #[.agg #[.int .i64 k, .int .i64 n, .int .i64 m, .string s]] w fun e w' => e = .returned (.bool (opB k n m s)) ∧ Below w.heap.size w w' := by
  have HO : Hid (opB k n m s = (inB n 1 1000 && inB m (-1) 1000 && plainB s)) := opB_send hk
  have HK : Hid (k = 8) := hk
  clear hk
  go_enter Tryz.func287, Tryz.ntmps287
  go_wp2_with fail
  refine (formOf_send k n m s _ HK.out).mono ?_
  rintro e w1 ⟨rfl, hb1⟩
  have c0 : w1.cell? ⟨w.heap.size, 0, none⟩ = some (.int .i64 k) := cells_below hb1 0
  have c1 : w1.cell? ⟨w.heap.size, 1, none⟩ = some (.int .i64 n) := cells_below hb1 1
  have c2 : w1.cell? ⟨w.heap.size, 2, none⟩ = some (.int .i64 m) := cells_below hb1 2
  have c3 : w1.cell? ⟨w.heap.size, 3, none⟩ = some (.string s) := cells_below hb1 3
  have HB1 : Hid (Below w.heap.size w w1) := ((Below.refl _ _).alloc (Nat.le_refl _) _).trans (hb1.mono (by simp))
  have HS1 : Hid (w.heap.size < w1.heap.size) := by have := hb1.size; simp only [World.size_alloc] at this; exact this
  clear hb1
  go_wp2_with fail
  first
    | (go_region_with
    ((first
      | (go_at_call 318
         refine (asOp_send _ _ _ _ _).mono ?_
         rintro e w2 ⟨rfl, hb2⟩
         have hb2 : Below w1.heap.size w1 w2 := below_undrew hb2
         have HB2 : Hid (Below w.heap.size w w2) := HB1.out.trans (hb2.mono (by have := HS1.out; show w.heap.size ≤ w1.heap.size; omega))
         have HS2 : Hid (w.heap.size < w2.heap.size) := by have h1 := HS1.out; have h2 : w1.heap.size ≤ w2.heap.size := hb2.size; exact Nat.lt_of_lt_of_le h1 h2
         have d0 : w2.cell? ⟨w.heap.size, 0, none⟩ = some (.int .i64 k) := (hb2.cell (p := ⟨w.heap.size, 0, none⟩) HS1.out).trans c0
         have d1 : w2.cell? ⟨w.heap.size, 1, none⟩ = some (.int .i64 n) := (hb2.cell (p := ⟨w.heap.size, 1, none⟩) HS1.out).trans c1
         have d2 : w2.cell? ⟨w.heap.size, 2, none⟩ = some (.int .i64 m) := (hb2.cell (p := ⟨w.heap.size, 2, none⟩) HS1.out).trans c2
         have d3 : w2.cell? ⟨w.heap.size, 3, none⟩ = some (.string s) := (hb2.cell (p := ⟨w.heap.size, 3, none⟩) HS1.out).trans c3
         clear hb2)
      | (go_at_call 291
         refine (formOk_send _ _ _ _ _ hs).mono ?_
         rintro e w3 ⟨rfl, hb3⟩
         have HB3 : Hid (Below w.heap.size w w3) := HB2.out.trans (hb3.mono (by have := HS2.out; omega))
         have f0 : w3.cell? ⟨w.heap.size, 0, none⟩ = some (.int .i64 k) := (hb3.cell (p := ⟨w.heap.size, 0, none⟩) HS2.out).trans d0
         have f1 : w3.cell? ⟨w.heap.size, 1, none⟩ = some (.int .i64 n) := (hb3.cell (p := ⟨w.heap.size, 1, none⟩) HS2.out).trans d1
         have f2 : w3.cell? ⟨w.heap.size, 2, none⟩ = some (.int .i64 m) := (hb3.cell (p := ⟨w.heap.size, 2, none⟩) HS2.out).trans d2
         have f3 : w3.cell? ⟨w.heap.size, 3, none⟩ = some (.string s) := (hb3.cell (p := ⟨w.heap.size, 3, none⟩) HS2.out).trans d3
         clear hb3))))
    | (exact absurd rfl (by assumption))
  all_goals go_wp2
  all_goals go_ret
  all_goals exact ⟨ret_bool (by rw [HO.out]), HB3.out⟩

set_option maxHeartbeats 4000000 in
theorem implOp_text (k n m : Int) (s : ByteArray) (w : World) (hs : s.size ≤ 1048576) (hk : isText k) :
    Calls Tryz.prog 287 #[.agg #[.int .i64 k, .int .i64 n, .int .i64 m, .string s]] w fun e w' => e = .returned (.bool (opB k n m s)) ∧ Below w.heap.size w w' := by
  have HO : Hid (opB k n m s = (inB n 1 1000 && decide (m = 0) && plainB s)) := opB_text hk
  have HK : Hid (isText k) := hk
  clear hk
  go_enter Tryz.func287, Tryz.ntmps287
  go_wp2_with fail
  refine (formOf_text k n m s _ HK.out).mono ?_
  rintro e w1 ⟨rfl, hb1⟩
  have c0 : w1.cell? ⟨w.heap.size, 0, none⟩ = some (.int .i64 k) := cells_below hb1 0
  have c1 : w1.cell? ⟨w.heap.size, 1, none⟩ = some (.int .i64 n) := cells_below hb1 1
  have c2 : w1.cell? ⟨w.heap.size, 2, none⟩ = some (.int .i64 m) := cells_below hb1 2
  have c3 : w1.cell? ⟨w.heap.size, 3, none⟩ = some (.string s) := cells_below hb1 3
  have HB1 : Hid (Below w.heap.size w w1) := ((Below.refl _ _).alloc (Nat.le_refl _) _).trans (hb1.mono (by simp))
  have HS1 : Hid (w.heap.size < w1.heap.size) := by have := hb1.size; simp only [World.size_alloc] at this; exact this
  clear hb1
  by_cases hm : m = 0
  rotate_left
  · have hm' : ¬ 0 = m := fun h => hm h.symm
    go_wp2_with fail
    first
      | (go_region_with
      ((first
        | (go_at_call 319
           refine (asOp_text _ _ _ _).mono ?_
           rintro e w2 ⟨rfl, hb2⟩
           have hb2 : Below w1.heap.size w1 w2 := below_undrew hb2
           have HB2 : Hid (Below w.heap.size w w2) := HB1.out.trans (hb2.mono (by have := HS1.out; show w.heap.size ≤ w1.heap.size; omega))
           have HS2 : Hid (w.heap.size < w2.heap.size) := by have h1 := HS1.out; have h2 : w1.heap.size ≤ w2.heap.size := hb2.size; exact Nat.lt_of_lt_of_le h1 h2
           have d0 : w2.cell? ⟨w.heap.size, 0, none⟩ = some (.int .i64 k) := (hb2.cell (p := ⟨w.heap.size, 0, none⟩) HS1.out).trans c0
           have d1 : w2.cell? ⟨w.heap.size, 1, none⟩ = some (.int .i64 n) := (hb2.cell (p := ⟨w.heap.size, 1, none⟩) HS1.out).trans c1
           have d2 : w2.cell? ⟨w.heap.size, 2, none⟩ = some (.int .i64 m) := (hb2.cell (p := ⟨w.heap.size, 2, none⟩) HS1.out).trans c2
           have d3 : w2.cell? ⟨w.heap.size, 3, none⟩ = some (.string s) := (hb2.cell (p := ⟨w.heap.size, 3, none⟩) HS1.out).trans c3
           clear hb2)
        | (go_at_call 291
           refine (formOk_text _ _ _ _ hs).mono ?_
           rintro e w3 ⟨rfl, hb3⟩
           have HB3 : Hid (Below w.heap.size w w3) := HB2.out.trans (hb3.mono (by have := HS2.out; omega))
           have f0 : w3.cell? ⟨w.heap.size, 0, none⟩ = some (.int .i64 k) := (hb3.cell (p := ⟨w.heap.size, 0, none⟩) HS2.out).trans d0
           have f1 : w3.cell? ⟨w.heap.size, 1, none⟩ = some (.int .i64 n) := (hb3.cell (p := ⟨w.heap.size, 1, none⟩) HS2.out).trans d1
           have f2 : w3.cell? ⟨w.heap.size, 2, none⟩ = some (.int .i64 m) := (hb3.cell (p := ⟨w.heap.size, 2, none⟩) HS2.out).trans d2
           have f3 : w3.cell? ⟨w.heap.size, 3, none⟩ = some (.string s) := (hb3.cell (p := ⟨w.heap.size, 3, none⟩) HS2.out).trans d3
           clear hb3))))
      | (exact absurd rfl (by assumption))
    all_goals go_wp2
    all_goals go_ret
    all_goals exact ⟨ret_bool (by rw [HO.out]; simp [hm]), HB2.out⟩
  subst hm
  go_wp2_with fail
  first
    | (go_region_with
    ((first
      | (go_at_call 319
         refine (asOp_text _ _ _ _).mono ?_
         rintro e w2 ⟨rfl, hb2⟩
         have hb2 : Below w1.heap.size w1 w2 := below_undrew hb2
         have HB2 : Hid (Below w.heap.size w w2) := HB1.out.trans (hb2.mono (by have := HS1.out; show w.heap.size ≤ w1.heap.size; omega))
         have HS2 : Hid (w.heap.size < w2.heap.size) := by have h1 := HS1.out; have h2 : w1.heap.size ≤ w2.heap.size := hb2.size; exact Nat.lt_of_lt_of_le h1 h2
         have d0 : w2.cell? ⟨w.heap.size, 0, none⟩ = some (.int .i64 k) := (hb2.cell (p := ⟨w.heap.size, 0, none⟩) HS1.out).trans c0
         have d1 : w2.cell? ⟨w.heap.size, 1, none⟩ = some (.int .i64 n) := (hb2.cell (p := ⟨w.heap.size, 1, none⟩) HS1.out).trans c1
         have d2 : w2.cell? ⟨w.heap.size, 2, none⟩ = some (.int .i64 0) := (hb2.cell (p := ⟨w.heap.size, 2, none⟩) HS1.out).trans c2
         have d3 : w2.cell? ⟨w.heap.size, 3, none⟩ = some (.string s) := (hb2.cell (p := ⟨w.heap.size, 3, none⟩) HS1.out).trans c3
         clear hb2)
      | (go_at_call 291
         refine (formOk_text _ _ _ _ hs).mono ?_
         rintro e w3 ⟨rfl, hb3⟩
         have HB3 : Hid (Below w.heap.size w w3) := HB2.out.trans (hb3.mono (by have := HS2.out; omega))
         have f0 : w3.cell? ⟨w.heap.size, 0, none⟩ = some (.int .i64 k) := (hb3.cell (p := ⟨w.heap.size, 0, none⟩) HS2.out).trans d0
         have f1 : w3.cell? ⟨w.heap.size, 1, none⟩ = some (.int .i64 n) := (hb3.cell (p := ⟨w.heap.size, 1, none⟩) HS2.out).trans d1
         have f2 : w3.cell? ⟨w.heap.size, 2, none⟩ = some (.int .i64 0) := (hb3.cell (p := ⟨w.heap.size, 2, none⟩) HS2.out).trans d2
         have f3 : w3.cell? ⟨w.heap.size, 3, none⟩ = some (.string s) := (hb3.cell (p := ⟨w.heap.size, 3, none⟩) HS2.out).trans d3
         clear hb3))))
    | (exact absurd rfl (by assumption))
  all_goals go_wp2
  all_goals go_ret
  all_goals exact ⟨ret_bool (by rw [HO.out]; simp_all), HB3.out⟩

set_option maxHeartbeats 4000000 in
theorem implOp_loop (k n m : Int) (s : ByteArray) (w : World) (hk : k = 17) :
    Calls Tryz.prog 287 #[.agg #[.int .i64 k, .int .i64 n, .int .i64 m, .string s]] w fun e w' => e = .returned (.bool (opB k n m s)) ∧ Below w.heap.size w w' := by
  have HO : Hid (opB k n m s = (decide (n = 0) && decide (m = 0) && emptyB s)) := opB_loop hk
  have HK : Hid (k = 17) := hk
  clear hk
  go_enter Tryz.func287, Tryz.ntmps287
  go_wp2_with fail
  refine (formOf_loop k n m s _ HK.out).mono ?_
  rintro e w1 ⟨rfl, hb1⟩
  have c0 : w1.cell? ⟨w.heap.size, 0, none⟩ = some (.int .i64 k) := cells_below hb1 0
  have c1 : w1.cell? ⟨w.heap.size, 1, none⟩ = some (.int .i64 n) := cells_below hb1 1
  have c2 : w1.cell? ⟨w.heap.size, 2, none⟩ = some (.int .i64 m) := cells_below hb1 2
  have c3 : w1.cell? ⟨w.heap.size, 3, none⟩ = some (.string s) := cells_below hb1 3
  have HB1 : Hid (Below w.heap.size w w1) := ((Below.refl _ _).alloc (Nat.le_refl _) _).trans (hb1.mono (by simp))
  have HS1 : Hid (w.heap.size < w1.heap.size) := by have := hb1.size; simp only [World.size_alloc] at this; exact this
  clear hb1
  by_cases hn : n = 0
  rotate_left
  · have hn' : ¬ 0 = n := fun h => hn h.symm
    go_wp2_with fail
    first
      | (go_region_with
      ((first
        | (go_at_call 320
           refine (asOp_bare _ _).mono ?_
           rintro e w2 ⟨rfl, hb2⟩
           have hb2 : Below w1.heap.size w1 w2 := below_undrew hb2
           have HB2 : Hid (Below w.heap.size w w2) := HB1.out.trans (hb2.mono (by have := HS1.out; show w.heap.size ≤ w1.heap.size; omega))
           have HS2 : Hid (w.heap.size < w2.heap.size) := by have h1 := HS1.out; have h2 : w1.heap.size ≤ w2.heap.size := hb2.size; exact Nat.lt_of_lt_of_le h1 h2
           have d0 : w2.cell? ⟨w.heap.size, 0, none⟩ = some (.int .i64 k) := (hb2.cell (p := ⟨w.heap.size, 0, none⟩) HS1.out).trans c0
           have d1 : w2.cell? ⟨w.heap.size, 1, none⟩ = some (.int .i64 n) := (hb2.cell (p := ⟨w.heap.size, 1, none⟩) HS1.out).trans c1
           have d2 : w2.cell? ⟨w.heap.size, 2, none⟩ = some (.int .i64 m) := (hb2.cell (p := ⟨w.heap.size, 2, none⟩) HS1.out).trans c2
           have d3 : w2.cell? ⟨w.heap.size, 3, none⟩ = some (.string s) := (hb2.cell (p := ⟨w.heap.size, 3, none⟩) HS1.out).trans c3
           clear hb2)
        | (go_at_call 291
           refine (formOk_bare _ _).mono ?_
           rintro e w3 ⟨rfl, hb3⟩
           have HB3 : Hid (Below w.heap.size w w3) := HB2.out.trans (hb3.mono (by have := HS2.out; omega))
           have f0 : w3.cell? ⟨w.heap.size, 0, none⟩ = some (.int .i64 k) := (hb3.cell (p := ⟨w.heap.size, 0, none⟩) HS2.out).trans d0
           have f1 : w3.cell? ⟨w.heap.size, 1, none⟩ = some (.int .i64 n) := (hb3.cell (p := ⟨w.heap.size, 1, none⟩) HS2.out).trans d1
           have f2 : w3.cell? ⟨w.heap.size, 2, none⟩ = some (.int .i64 m) := (hb3.cell (p := ⟨w.heap.size, 2, none⟩) HS2.out).trans d2
           have f3 : w3.cell? ⟨w.heap.size, 3, none⟩ = some (.string s) := (hb3.cell (p := ⟨w.heap.size, 3, none⟩) HS2.out).trans d3
           clear hb3))))
      | (exact absurd rfl (by assumption))
    all_goals go_wp2
    all_goals go_ret
    all_goals exact ⟨ret_bool (by rw [HO.out]; simp [hn]), HB2.out⟩
  subst hn
  by_cases hm : m = 0
  rotate_left
  · have hm' : ¬ 0 = m := fun h => hm h.symm
    go_wp2_with fail
    first
      | (go_region_with
      ((first
        | (go_at_call 320
           refine (asOp_bare _ _).mono ?_
           rintro e w2 ⟨rfl, hb2⟩
           have hb2 : Below w1.heap.size w1 w2 := below_undrew hb2
           have HB2 : Hid (Below w.heap.size w w2) := HB1.out.trans (hb2.mono (by have := HS1.out; show w.heap.size ≤ w1.heap.size; omega))
           have HS2 : Hid (w.heap.size < w2.heap.size) := by have h1 := HS1.out; have h2 : w1.heap.size ≤ w2.heap.size := hb2.size; exact Nat.lt_of_lt_of_le h1 h2
           have d0 : w2.cell? ⟨w.heap.size, 0, none⟩ = some (.int .i64 k) := (hb2.cell (p := ⟨w.heap.size, 0, none⟩) HS1.out).trans c0
           have d1 : w2.cell? ⟨w.heap.size, 1, none⟩ = some (.int .i64 0) := (hb2.cell (p := ⟨w.heap.size, 1, none⟩) HS1.out).trans c1
           have d2 : w2.cell? ⟨w.heap.size, 2, none⟩ = some (.int .i64 m) := (hb2.cell (p := ⟨w.heap.size, 2, none⟩) HS1.out).trans c2
           have d3 : w2.cell? ⟨w.heap.size, 3, none⟩ = some (.string s) := (hb2.cell (p := ⟨w.heap.size, 3, none⟩) HS1.out).trans c3
           clear hb2)
        | (go_at_call 291
           refine (formOk_bare _ _).mono ?_
           rintro e w3 ⟨rfl, hb3⟩
           have HB3 : Hid (Below w.heap.size w w3) := HB2.out.trans (hb3.mono (by have := HS2.out; omega))
           have f0 : w3.cell? ⟨w.heap.size, 0, none⟩ = some (.int .i64 k) := (hb3.cell (p := ⟨w.heap.size, 0, none⟩) HS2.out).trans d0
           have f1 : w3.cell? ⟨w.heap.size, 1, none⟩ = some (.int .i64 0) := (hb3.cell (p := ⟨w.heap.size, 1, none⟩) HS2.out).trans d1
           have f2 : w3.cell? ⟨w.heap.size, 2, none⟩ = some (.int .i64 m) := (hb3.cell (p := ⟨w.heap.size, 2, none⟩) HS2.out).trans d2
           have f3 : w3.cell? ⟨w.heap.size, 3, none⟩ = some (.string s) := (hb3.cell (p := ⟨w.heap.size, 3, none⟩) HS2.out).trans d3
           clear hb3))))
      | (exact absurd rfl (by assumption))
    all_goals go_wp2
    all_goals go_ret
    all_goals exact ⟨ret_bool (by rw [HO.out]; simp [hm]), HB2.out⟩
  subst hm
  by_cases hes : s.toList = []
  rotate_left
  · have hes' : ¬ [] = s.toList := fun h => hes h.symm
    have hem : emptyB s = false := by simp [emptyB, hes]
    go_wp2_with fail
    first
      | (go_region_with
      ((first
        | (go_at_call 320
           refine (asOp_bare _ _).mono ?_
           rintro e w2 ⟨rfl, hb2⟩
           have hb2 : Below w1.heap.size w1 w2 := below_undrew hb2
           have HB2 : Hid (Below w.heap.size w w2) := HB1.out.trans (hb2.mono (by have := HS1.out; show w.heap.size ≤ w1.heap.size; omega))
           have HS2 : Hid (w.heap.size < w2.heap.size) := by have h1 := HS1.out; have h2 : w1.heap.size ≤ w2.heap.size := hb2.size; exact Nat.lt_of_lt_of_le h1 h2
           have d0 : w2.cell? ⟨w.heap.size, 0, none⟩ = some (.int .i64 k) := (hb2.cell (p := ⟨w.heap.size, 0, none⟩) HS1.out).trans c0
           have d1 : w2.cell? ⟨w.heap.size, 1, none⟩ = some (.int .i64 0) := (hb2.cell (p := ⟨w.heap.size, 1, none⟩) HS1.out).trans c1
           have d2 : w2.cell? ⟨w.heap.size, 2, none⟩ = some (.int .i64 0) := (hb2.cell (p := ⟨w.heap.size, 2, none⟩) HS1.out).trans c2
           have d3 : w2.cell? ⟨w.heap.size, 3, none⟩ = some (.string s) := (hb2.cell (p := ⟨w.heap.size, 3, none⟩) HS1.out).trans c3
           clear hb2)
        | (go_at_call 291
           refine (formOk_bare _ _).mono ?_
           rintro e w3 ⟨rfl, hb3⟩
           have HB3 : Hid (Below w.heap.size w w3) := HB2.out.trans (hb3.mono (by have := HS2.out; omega))
           have f0 : w3.cell? ⟨w.heap.size, 0, none⟩ = some (.int .i64 k) := (hb3.cell (p := ⟨w.heap.size, 0, none⟩) HS2.out).trans d0
           have f1 : w3.cell? ⟨w.heap.size, 1, none⟩ = some (.int .i64 0) := (hb3.cell (p := ⟨w.heap.size, 1, none⟩) HS2.out).trans d1
           have f2 : w3.cell? ⟨w.heap.size, 2, none⟩ = some (.int .i64 0) := (hb3.cell (p := ⟨w.heap.size, 2, none⟩) HS2.out).trans d2
           have f3 : w3.cell? ⟨w.heap.size, 3, none⟩ = some (.string s) := (hb3.cell (p := ⟨w.heap.size, 3, none⟩) HS2.out).trans d3
           clear hb3))))
      | (exact absurd rfl (by assumption))
    all_goals go_wp2
    all_goals go_ret
    all_goals exact ⟨ret_bool (by rw [HO.out]; simp [hem]), HB2.out⟩
  have hem : emptyB s = true := by simp [emptyB, hes]
  go_wp2_with fail
  first
    | (go_region_with
    ((first
      | (go_at_call 320
         refine (asOp_bare _ _).mono ?_
         rintro e w2 ⟨rfl, hb2⟩
         have hb2 : Below w1.heap.size w1 w2 := below_undrew hb2
         have HB2 : Hid (Below w.heap.size w w2) := HB1.out.trans (hb2.mono (by have := HS1.out; show w.heap.size ≤ w1.heap.size; omega))
         have HS2 : Hid (w.heap.size < w2.heap.size) := by have h1 := HS1.out; have h2 : w1.heap.size ≤ w2.heap.size := hb2.size; exact Nat.lt_of_lt_of_le h1 h2
         have d0 : w2.cell? ⟨w.heap.size, 0, none⟩ = some (.int .i64 k) := (hb2.cell (p := ⟨w.heap.size, 0, none⟩) HS1.out).trans c0
         have d1 : w2.cell? ⟨w.heap.size, 1, none⟩ = some (.int .i64 0) := (hb2.cell (p := ⟨w.heap.size, 1, none⟩) HS1.out).trans c1
         have d2 : w2.cell? ⟨w.heap.size, 2, none⟩ = some (.int .i64 0) := (hb2.cell (p := ⟨w.heap.size, 2, none⟩) HS1.out).trans c2
         have d3 : w2.cell? ⟨w.heap.size, 3, none⟩ = some (.string s) := (hb2.cell (p := ⟨w.heap.size, 3, none⟩) HS1.out).trans c3
         clear hb2)
      | (go_at_call 291
         refine (formOk_bare _ _).mono ?_
         rintro e w3 ⟨rfl, hb3⟩
         have HB3 : Hid (Below w.heap.size w w3) := HB2.out.trans (hb3.mono (by have := HS2.out; omega))
         have f0 : w3.cell? ⟨w.heap.size, 0, none⟩ = some (.int .i64 k) := (hb3.cell (p := ⟨w.heap.size, 0, none⟩) HS2.out).trans d0
         have f1 : w3.cell? ⟨w.heap.size, 1, none⟩ = some (.int .i64 0) := (hb3.cell (p := ⟨w.heap.size, 1, none⟩) HS2.out).trans d1
         have f2 : w3.cell? ⟨w.heap.size, 2, none⟩ = some (.int .i64 0) := (hb3.cell (p := ⟨w.heap.size, 2, none⟩) HS2.out).trans d2
         have f3 : w3.cell? ⟨w.heap.size, 3, none⟩ = some (.string s) := (hb3.cell (p := ⟨w.heap.size, 3, none⟩) HS2.out).trans d3
         clear hb3))))
    | (exact absurd rfl (by assumption))
  all_goals go_wp2
  all_goals go_ret
  all_goals exact ⟨ret_bool (by rw [HO.out]; simp_all), HB3.out⟩

set_option maxHeartbeats 4000000 in
theorem implOp_none (k n m : Int) (s : ByteArray) (w : World) (hk : ¬ (1 ≤ k ∧ k ≤ 17)) :
    Calls Tryz.prog 287 #[.agg #[.int .i64 k, .int .i64 n, .int .i64 m, .string s]] w fun e w' => e = .returned (.bool (opB k n m s)) ∧ Below w.heap.size w w' := by
  rw [opB_none hk]
  go_enter Tryz.func287, Tryz.ntmps287
  go_wp2_with fail
  refine (formOf_none k n m s _ hk).mono ?_
  rintro e w1 ⟨rfl, hb1⟩
  have HB1 : Hid (Below w.heap.size w w1) := ((Below.refl _ _).alloc (Nat.le_refl _) _).trans (hb1.mono (by simp))
  clear hb1
  go_wp2_with fail
  go_quiet (fail)
  go_wp2
  go_ret
  exact ⟨rfl, below_drewN HB1.out _⟩

theorem implOpOk_any (k n m : Int) (s : ByteArray) (w : World) (hs : s.size ≤ 1048576) :
    Calls Tryz.prog 287 #[.agg #[.int .i64 k, .int .i64 n, .int .i64 m, .string s]] w fun e w' => e = .returned (.bool (opB k n m s)) ∧ Below w.heap.size w w' := by
  by_cases h0 : 1 ≤ k ∧ k ≤ 17
  · by_cases h1 : isNum k
    · exact implOp_num k n m s w h1
    by_cases h2 : isWait k
    · exact implOp_wait k n m s w h2
    by_cases h3 : isText k
    · exact implOp_text k n m s w hs h3
    by_cases h4 : k = 8
    · exact implOp_send k n m s w hs h4
    exact implOp_loop k n m s w (by unfold isNum at h1; unfold isWait at h2; unfold isText at h3; omega)
  · exact implOp_none k n m s w h0

end Go.Proofs.YtkbcplnlehdjfaaGreat

/- What ProgOk answers, the specification's and the program's. -/
namespace Go.Proofs.YtkbcplnlehdjfaaGreat
open Go.RowKit

set_option maxHeartbeats 1000000 in
theorem specProgOk_any (g len cap : Nat) (K N M : Nat → Int) (S : Nat → ByteArray) (w : World) (hl : len ≤ 1048576) (hs : ∀ i, i < len → (S i).size ≤ 1048576) (hr : OpsAt w g len K N M S) :
  Calls Tryz.prog 183 #[.slice (some ⟨g, 0, none⟩) len cap] w fun e w' => e = .returned (.bool (progB len K N M S)) ∧ Below w.heap.size w w' := by
 have HR : Hid (OpsAt w g len K N M S) := hr
 have HS : Hid (∀ i, i < len → (S i).size ≤ 1048576) := hs
 clear hr hs
 go_enter Tryz.func183, Tryz.ntmps183
 go_wp2
 go_loopw [3] (fun i wr => ∃ k : Nat, k ≤ len ∧ i = .int .i64 k ∧ (∀ j, j < k → opAtB K N M S j = true) ∧ Below w.heap.size w wr) (fun i _ => len - (intOf i).toNat)
 case atStart => exact ⟨0, Nat.zero_le _, rfl, fun j hj => absurd hj (by omega), Below.refl _ _⟩
 case round =>
  obtain ⟨k, hk, rfl, hall, hbel⟩ := hrel
  have HA : Hid (∀ j, j < k → opAtB K N M S j = true) := hall
  have HB : Hid (Below w.heap.size w wr) := hbel
  have HW : Hid (OpsAt wr g len K N M S) := HR.out.below hbel
  clear hall hbel
  by_cases hlt : k < len
  ·have c0 := HW.out.c0 hlt
   have c1 := HW.out.c1 hlt
   have c2 := HW.out.c2 hlt
   have c3 := HW.out.c3 hlt
   have i0 : (0 : Int) ≤ (k : Int) := by omega
   have i1 : (k : Int) < (len : Int) := by omega
   go_wp2_with fail
   refine (specOpOk_any (K k) (N k) (M k) (S k) wr (HS.out k hlt)).mono ?_
   rintro e w1 ⟨rfl, hb1⟩
   have HB1 : Hid (Below w.heap.size w w1) := HB.out.trans (hb1.mono HB.out.size)
   have HO : Hid (opB (K k) (N k) (M k) (S k) = opAtB K N M S k) := rfl
   rw [HO.out]
   clear hb1 c0 c1 c2 c3
   cases hop : opAtB K N M S k with
   | true =>
    have HP : Hid (opAtB K N M S k = true) := hop
    clear hop
    go_wp2
    go_roundw
    case rel => exact ⟨k + 1, by omega, by go_num, fun j hj => by
     by_cases e : j = k
     ·subst e; exact HP.out
     ·exact HA.out j (by omega), HB1.out⟩
    case measure => simp [intOf]; omega
   | false =>
    have HP : Hid (opAtB K N M S k = false) := hop
    clear hop
    go_wp2
    go_ret
    exact ⟨ret_bool (progB_false (fun h => by have := h.2.2 k hlt; rw [HP.out] at this; cases this)).symm, HB1.out⟩
  ·have e : k = len := by omega
   subst e
   by_cases h1 : 1 ≤ k
   ·have h1' : (1 : Int) ≤ (k : Int) := by omega
    by_cases h2 : k ≤ 20
    ·have h2' : (k : Int) ≤ 20 := by omega
     go_wp2
     go_ret
     exact ⟨ret_bool (by rw [progB_true ⟨h1, h2, HA.out⟩]), HB.out⟩
    ·have h2' : ¬ (k : Int) ≤ 20 := by omega
     go_wp2
     go_ret
     exact ⟨ret_bool (by rw [progB_false (fun h => h2 h.2.1)]), HB.out⟩
   ·have h1' : ¬ (1 : Int) ≤ (k : Int) := by omega
    go_wp2
    go_ret
    exact ⟨ret_bool (by rw [progB_false (fun h => h1 h.1)]), HB.out⟩

set_option maxHeartbeats 1000000 in
theorem implProgOk_any (g len cap : Nat) (K N M : Nat → Int) (S : Nat → ByteArray) (w : World) (hl : len ≤ 1048576) (hs : ∀ i, i < len → (S i).size ≤ 1048576) (hr : OpsAt w g len K N M S) :
  Calls Tryz.prog 284 #[.slice (some ⟨g, 0, none⟩) len cap] w fun e w' => e = .returned (.bool (progB len K N M S)) ∧ Below w.heap.size w w' := by
 have HR : Hid (OpsAt w g len K N M S) := hr
 have HS : Hid (∀ i, i < len → (S i).size ≤ 1048576) := hs
 clear hr hs
 by_cases h1 : ¬ 1 ≤ len
 ·have h1' : (len : Int) < 1 := by omega
  go_enter Tryz.func284, Tryz.ntmps284
  go_wp2
  go_ret
  exact ⟨ret_bool (progB_false (fun h => h1 h.1)).symm, Below.refl _ _⟩
 have h1' : ¬ (len : Int) < 1 := by omega
 by_cases h2 : 20 < len
 ·have h2' : (20 : Int) < (len : Int) := by omega
  go_enter Tryz.func284, Tryz.ntmps284
  go_wp2
  go_ret
  exact ⟨ret_bool (progB_false (fun h => by omega)).symm, Below.refl _ _⟩
 have h2' : ¬ (20 : Int) < (len : Int) := by omega
 go_enter Tryz.func284, Tryz.ntmps284
 go_wp2_with fail
 go_loopw [15] (fun i wr => ∃ k : Nat, k ≤ len ∧ i = .int .i64 k ∧ (∀ j, j < k → opAtB K N M S j = true) ∧ Below w.heap.size w wr) (fun i _ => len - (intOf i).toNat)
 case atStart => exact ⟨0, Nat.zero_le _, rfl, fun j hj => absurd hj (by omega), Below.refl _ _⟩
 case round =>
  obtain ⟨k, hk, rfl, hall, hbel⟩ := hrel
  have HA : Hid (∀ j, j < k → opAtB K N M S j = true) := hall
  have HB : Hid (Below w.heap.size w wr) := hbel
  have HW : Hid (OpsAt wr g len K N M S) := HR.out.below hbel
  clear hall hbel
  by_cases hlt : k < len
  ·have c0 := HW.out.c0 hlt
   have c1 := HW.out.c1 hlt
   have c2 := HW.out.c2 hlt
   have c3 := HW.out.c3 hlt
   have i0 : (0 : Int) ≤ (k : Int) := by omega
   have i1 : (k : Int) < (len : Int) := by omega
   have hgl := HW.out.1
   go_wp2_with fail
   refine (implOpOk_any (K k) (N k) (M k) (S k) _ (HS.out k hlt)).mono ?_
   rintro e w1 ⟨rfl, hb1⟩
   have HB1 : Hid (Below w.heap.size w w1) := (HB.out.alloc HB.out.size _).trans (hb1.mono (by have := HB.out.size; simp; omega))
   have HO : Hid (opB (K k) (N k) (M k) (S k) = opAtB K N M S k) := rfl
   rw [HO.out]
   clear hb1 c0 c1 c2 c3
   cases hop : opAtB K N M S k with
   | true =>
    have HP : Hid (opAtB K N M S k = true) := hop
    clear hop
    go_wp2
    go_roundw
    case rel => exact ⟨k + 1, by omega, by go_num, fun j hj => by
     by_cases e : j = k
     ·subst e; exact HP.out
     ·exact HA.out j (by omega), HB1.out⟩
    case measure => simp [intOf]; omega
   | false =>
    have HP : Hid (opAtB K N M S k = false) := hop
    clear hop
    go_wp2
    go_ret
    exact ⟨ret_bool (progB_false (fun h => by have := h.2.2 k hlt; rw [HP.out] at this; cases this)).symm, HB1.out⟩
  ·have e : k = len := by omega
   subst e
   go_wp2
   go_ret
   exact ⟨ret_bool (progB_true ⟨by omega, by omega, HA.out⟩).symm, HB.out⟩

end Go.Proofs.YtkbcplnlehdjfaaGreat

/- Whether a program is right, of a list of ops wherever it lies. -/
namespace Go.Proofs.YtkbcplnlehdjfaaGreat
open Go.RowKit

theorem opFlat_get (l : List OpD) {j : Nat} (hj : j < l.length * 4) : (opK.flat l)[j]? = some (opV (kOf l) (nOf l) (mOf l) (sOf l) j) := by
 have hi : j / 4 < l.length := by omega
 have hx : l[j / 4]? = some l[j / 4] := List.getElem?_eq_getElem hi
 have hr : j % 4 < 4 := by omega
 have := opK.flat_get hx (j := j % 4) hr
 have e : j / 4 * opK.n + j % 4 = j := by show j / 4 * 4 + j % 4 = j; omega
 rw [e] at this
 rw [this]
 have h4 : j % 4 = 0 ∨ j % 4 = 1 ∨ j % 4 = 2 ∨ j % 4 = 3 := by omega
 rcases h4 with h | h | h | h <;> rw [h] <;> simp [opK, opVals, opV, h, kOf, nOf, mOf, sOf, hx]
theorem ops_of_row {w : World} {a : Option Addr} {l : List OpD} (h : Row w a (opK.flat l)) (hl : 0 < l.length) : ∃ g, a = some ⟨g, 0, none⟩ ∧ ListAt w g l := by
 obtain ⟨g, e, hc⟩ := h 0 _ (opFlat_get l (j := 0) (by omega))
 refine ⟨g, e, block_lt_of_cell hc, fun j hj => ?_⟩
 obtain ⟨g', e', hc'⟩ := h j _ (opFlat_get l hj)
 rw [e] at e'
 cases e'
 exact hc'
theorem op_at {w : World} {a : Option Addr} {l : List OpD} (h : Row w a (opK.flat l)) {i : Nat} {x : OpD} (hx : l[i]? = some x) : ∃ g, a = some ⟨g, 0, none⟩ ∧ w.cell? ⟨g, i * 4, none⟩ = some (.int .i64 x.1) ∧ w.cell? ⟨g, i * 4 + 1, none⟩ = some (.int .i64 x.2.1) ∧ w.cell? ⟨g, i * 4 + 2, none⟩ = some (.int .i64 x.2.2.1) ∧ w.cell? ⟨g, i * 4 + 3, none⟩ = some (.string x.2.2.2) := by
 have h' : opK.Lies w a l := ⟨h, fun _ _ r hr => by cases hr⟩
 obtain ⟨g, e, hc⟩ := h'.at hx
 exact ⟨g, e, hc 0 _ rfl, hc 1 _ rfl, hc 2 _ rfl, hc 3 _ rfl⟩
theorem sOf_small {l : List OpD} (hs : ∀ o ∈ l, o.2.2.2.size ≤ 1048576) : ∀ i, i < l.length → (sOf l i).size ≤ 1048576 := fun i hi => by
 simp only [sOf, List.getElem?_eq_getElem hi, Option.getD_some]
 exact hs _ (List.getElem_mem hi)
/-- The texts of a process and of its ops are not too long for a machine. -/
structure ProcD.Short (x : ProcD) : Prop where
 prog : x.prog.length ≤ 1048576
 ops : ∀ o ∈ x.prog, o.2.2.2.size ≤ 1048576
 held : x.held.size ≤ 1048576
 got : x.got.size ≤ 1048576
theorem progL_nil : progL [] = false := progB_false (fun h => by have := h.1; simp at this)

set_option maxHeartbeats 1000000 in
theorem specProgOk_none (a : Option Addr) (cap : Nat) (w : World) :
  Calls Tryz.prog 183 #[.slice a 0 cap] w fun e w' => e = .returned (.bool false) ∧ Below w.heap.size w w' := by
 go_enter Tryz.func183, Tryz.ntmps183
 go_wp2
 go_loop [3] (fun i => i = .int .i64 0) (fun _ => 0)
 case atStart => rfl
 case round =>
  subst hrel
  go_wp2
  go_ret
  exact ⟨rfl, Below.refl _ _⟩
theorem specProgL_any (a : Option Addr) (l : List OpD) (cap : Nat) (w : World) (hl : l.length ≤ 1048576) (hs : ∀ o ∈ l, o.2.2.2.size ≤ 1048576) (h : Row w a (opK.flat l)) :
  Calls Tryz.prog 183 #[.slice a l.length cap] w fun e w' => e = .returned (.bool (progL l)) ∧ Below w.heap.size w w' := by
 cases l with
 | nil => rw [progL_nil]; exact specProgOk_none a cap w
 | cons x r =>
  obtain ⟨g, rfl, hr⟩ := ops_of_row h (by simp)
  exact specProgOk_any g _ cap _ _ _ _ w hl (sOf_small hs) hr

set_option maxHeartbeats 1000000 in
theorem implProgOk_none (a : Option Addr) (cap : Nat) (w : World) :
  Calls Tryz.prog 284 #[.slice a 0 cap] w fun e w' => e = .returned (.bool false) ∧ Below w.heap.size w w' := by
 go_enter Tryz.func284, Tryz.ntmps284
 go_wp2
 go_ret
 exact ⟨rfl, Below.refl _ _⟩
theorem implProgL_any (a : Option Addr) (l : List OpD) (cap : Nat) (w : World) (hl : l.length ≤ 1048576) (hs : ∀ o ∈ l, o.2.2.2.size ≤ 1048576) (h : Row w a (opK.flat l)) :
  Calls Tryz.prog 284 #[.slice a l.length cap] w fun e w' => e = .returned (.bool (progL l)) ∧ Below w.heap.size w w' := by
 cases l with
 | nil => rw [progL_nil]; exact implProgOk_none a cap w
 | cons x r =>
  obtain ⟨g, rfl, hr⟩ := ops_of_row h (by simp)
  exact implProgOk_any g _ cap _ _ _ _ w hl (sOf_small hs) hr

end Go.Proofs.YtkbcplnlehdjfaaGreat
