/- What the proof leans on, part 1: Plain, ProgRowB, TameY, MkText, OpSmall, Wild, Res2, OpSpec, OpDt, OpImpl. -/
import Derived.Deep.QuietTactic
import Derived.BigQuiet
import Derived.Deep.OwnRows
import Derived.Lib.ItoaNum
import Derived.Laws.BytesString
import Derived.Deep.RegionHeld
import Derived.Laws.ResultCell
import Derived.Laws.Rows
import Derived.Test.YtkbcplnlehdjfaaGreatOwnR0

namespace Go.Proofs.YtkbcplnlehdjfaaGreat
open Go.RowKit
def byteB (c : UInt8) : Bool := decide (32 ≤ (c.toNat : Int)) && decide ((c.toNat : Int) ≤ 126) && !decide ((c.toNat : Int) = 59)
def plainB (s : ByteArray) : Bool := decide (s.size ≤ 20) && s.data.toList.all byteB
theorem take_snoc (s : ByteArray) (k : Nat) (h : k < s.size) : s.data.toList.take (k + 1) = s.data.toList.take k ++ [s[k]] := by
 rw [List.take_succ_eq_append_getElem (by simpa using h)]; rfl
theorem all_snoc {s : ByteArray} {k : Nat} (h : k < s.size) (ha : (s.data.toList.take k).all byteB = true) (hb : byteB s[k] = true) : (s.data.toList.take (k + 1)).all byteB = true := by
 rw [take_snoc s k h, List.all_append, ha]; simp [hb]
theorem not_all {s : ByteArray} {k : Nat} (h : k < s.size) (hb : byteB s[k] = false) : s.data.toList.all byteB = false := by
 rw [List.all_eq_false]
 exact ⟨s[k], by rw [show s[k] = s.data.toList[k]'(by simpa using h) from rfl]; exact List.getElem_mem _, by simp [hb]⟩
theorem take_all (s : ByteArray) {k : Nat} (h : s.size ≤ k) : s.data.toList.take k = s.data.toList := List.take_of_length_le (by simpa using h)
theorem byteB_low {c : UInt8} (h : (c.toNat : Int) < 32) : byteB c = false := by simp [byteB]; omega
theorem byteB_high {c : UInt8} (h : 126 < (c.toNat : Int)) : byteB c = false := by simp [byteB]; omega
theorem byteB_semi {c : UInt8} (h : (c.toNat : Int) = 59) : byteB c = false := by simp [byteB]; omega
theorem byteB_yes {c : UInt8} (h1 : ¬ (c.toNat : Int) < 32) (h2 : ¬ 126 < (c.toNat : Int)) (h3 : ¬ (c.toNat : Int) = 59) : byteB c = true := by simp [byteB]; omega
set_option maxHeartbeats 1000000 in
theorem l2Plain_any (s : ByteArray) (w : World) (hs : s.size ≤ 1048576) :
  Calls Tryz.prog 181 #[.string s] w fun e w' => e = .returned (.bool (plainB s)) ∧ w' = w := by
 go_enter Tryz.func181, Tryz.ntmps181
 go_wp2
 go_loop [3] (fun i => ∃ k : Nat, k ≤ s.size ∧ i = .int .i64 k ∧ (s.data.toList.take k).all byteB = true) (fun i => s.size - (intOf i).toNat)
 case atStart => exact ⟨0, Nat.zero_le _, rfl, rfl⟩
 case round =>
  obtain ⟨k, hk, rfl, hall⟩ := hrel
  have HA : Hid ((s.data.toList.take k).all byteB = true) := hall
  clear hall
  by_cases hlt : k < s.size
  ·have HY : Hid (byteB s[k] = true → (s.data.toList.take (k + 1)).all byteB = true) := fun h => all_snoc hlt HA.out h
   have HX : Hid (byteB s[k] = false → plainB s = false) := fun h => by simp [plainB, not_all hlt h]
   by_cases h1 : (s[k].toNat : Int) < 32
   ·go_wp2
    go_ret
    exact ⟨ret_bool (HX.out (byteB_low h1)).symm, rfl⟩
   by_cases h2 : 126 < (s[k].toNat : Int)
   ·go_wp2
    go_ret
    exact ⟨ret_bool (HX.out (byteB_high h2)).symm, rfl⟩
   by_cases h3 : (s[k].toNat : Int) = 59
   ·have h3' : ((s[k].toNat : Int) == 59) = true := by simp [h3]
    go_wp2
    go_ret
    exact ⟨ret_bool (HX.out (byteB_semi h3)).symm, rfl⟩
   have h3' : ((s[k].toNat : Int) == 59) = false := by simp [h3]
   have HB : Hid (byteB s[k] = true) := byteB_yes h1 h2 h3
   go_wp2
   go_round
   case rel => exact ⟨k + 1, by omega, by go_num, HY.out HB.out⟩
   case measure => simp [intOf]; omega
  ·have HA' : Hid (s.data.toList.all byteB = true) := by have := HA.out; rwa [take_all s (by omega)] at this
   go_wp2
   go_ret
   exact ⟨ret_bool (by rw [Bool.eq_iff_iff]; simp [plainB, HA'.out]; omega), rfl⟩
set_option maxHeartbeats 1000000 in
theorem isPlain_any (s : ByteArray) (w : World) (hs : s.size ≤ 1048576) :
  Calls Tryz.prog 285 #[.string s] w fun e w' => e = .returned (.bool (plainB s)) ∧ w' = w := by
 by_cases hl : 20 < s.size
 ·have hl' : (20 : Int) < (s.size : Int) := by omega
  go_enter Tryz.func285, Tryz.ntmps285
  go_wp2
  go_ret
  exact ⟨ret_bool (by simp [plainB]; intro h; omega), rfl⟩
 ·have hl' : ¬ (20 : Int) < (s.size : Int) := by omega
  go_enter Tryz.func285, Tryz.ntmps285
  go_wp2
  go_loop [9] (fun i => ∃ k : Nat, k ≤ s.size ∧ i = .int .i64 k ∧ (s.data.toList.take k).all byteB = true) (fun i => s.size - (intOf i).toNat)
  case atStart => exact ⟨0, Nat.zero_le _, rfl, rfl⟩
  case round =>
   obtain ⟨k, hk, rfl, hall⟩ := hrel
   have HA : Hid ((s.data.toList.take k).all byteB = true) := hall
   clear hall
   by_cases hlt : k < s.size
   ·have HY : Hid (byteB s[k] = true → (s.data.toList.take (k + 1)).all byteB = true) := fun h => all_snoc hlt HA.out h
    have HX : Hid (byteB s[k] = false → plainB s = false) := fun h => by simp [plainB, not_all hlt h]
    by_cases h1 : (s[k].toNat : Int) < 32
    ·go_wp2
     go_ret
     exact ⟨ret_bool (HX.out (byteB_low h1)).symm, rfl⟩
    by_cases h2 : 126 < (s[k].toNat : Int)
    ·go_wp2
     go_ret
     exact ⟨ret_bool (HX.out (byteB_high h2)).symm, rfl⟩
    by_cases h3 : (s[k].toNat : Int) = 59
    ·have h3' : ((s[k].toNat : Int) == 59) = true := by simp [h3]
     go_wp2
     go_ret
     exact ⟨ret_bool (HX.out (byteB_semi h3)).symm, rfl⟩
    have h3' : ((s[k].toNat : Int) == 59) = false := by simp [h3]
    have HB : Hid (byteB s[k] = true) := byteB_yes h1 h2 h3
    go_wp2
    go_round
    case rel => exact ⟨k + 1, by omega, by go_num, HY.out HB.out⟩
    case measure => simp [intOf]; omega
   ·have HA' : Hid (s.data.toList.all byteB = true) := by have := HA.out; rwa [take_all s (by omega)] at this
    have hd : decide (s.size ≤ 20) = true := by simp; omega
    go_wp2
    go_ret
    exact ⟨ret_bool (by simp only [plainB, HA'.out, hd]; rfl), rfl⟩
end Go.Proofs.YtkbcplnlehdjfaaGreat

/- The cells of a program, four an op; a row of ops that is filled one by one. -/
namespace Go.Proofs.YtkbcplnlehdjfaaGreat
open Go.RowKit
/-- The cells of a program: four an op. -/
def opV (K N M : Nat → Int) (S : Nat → ByteArray) (j : Nat) : Value := if j % 4 = 0 then .int .i64 (K (j / 4)) else if j % 4 = 1 then .int .i64 (N (j / 4)) else if j % 4 = 2 then .int .i64 (M (j / 4)) else .string (S (j / 4))
def zeroV (j : Nat) : Value := if j % 4 = 3 then .string ⟨#[]⟩ else .int .i64 0
theorem opV_0 (K N M : Nat → Int) (S : Nat → ByteArray) (i : Nat) : opV K N M S (i * 4) = .int .i64 (K i) := by
 have e : i * 4 % 4 = 0 := by omega
 have d : i * 4 / 4 = i := by omega
 simp [opV, d]
theorem opV_1 (K N M : Nat → Int) (S : Nat → ByteArray) (i : Nat) : opV K N M S (i * 4 + 1) = .int .i64 (N i) := by
 have e : (i * 4 + 1) % 4 = 1 := by omega
 have d : (i * 4 + 1) / 4 = i := by omega
 simp [opV, e, d]
theorem opV_2 (K N M : Nat → Int) (S : Nat → ByteArray) (i : Nat) : opV K N M S (i * 4 + 2) = .int .i64 (M i) := by
 have e : (i * 4 + 2) % 4 = 2 := by omega
 have d : (i * 4 + 2) / 4 = i := by omega
 simp [opV, e, d]
theorem opV_3 (K N M : Nat → Int) (S : Nat → ByteArray) (i : Nat) : opV K N M S (i * 4 + 3) = .string (S i) := by
 have e : (i * 4 + 3) % 4 = 3 := by omega
 have d : (i * 4 + 3) / 4 = i := by omega
 simp [opV, e, d]
end Go.Proofs.YtkbcplnlehdjfaaGreat

/- The next operation in the order of the text: runs of operations in one row. -/
namespace Go.Proofs.YtkbcplnlehdjfaaGreat
open Go
section
variable {P : Program} {md : Region.Mode} {ops : Array Oper} {Q : Exit → Act → World → Prop} {S : World → Prop}
/-- The next one in the order of the text. -/
theorem ty {oi : Oper} {v : Value} {fuel : Nat} {listed : Array Bool} {a : Act} (d : Option Tmp) (hi : ops[ops.size - (fuel + 1)]? = some oi) (_hd : oi.dst = d) (hc : tmB md ops listed (ops.size - (fuel + 1)) oi d = true)
  (hQ : ∀ c a w, Q (.panic c) (a.put d v) w → Q (.panic c) a w) (hy : Does P ops S oi v a)
  (h : wpAnyD P md ops Q S fuel (listed.setIfInBounds (ops.size - (fuel + 1)) true) (a.put d v)) : wpAnyD P md ops Q S (fuel + 1) listed a := tm (ops.size - (fuel + 1)) d hi hc hQ hy h
theorem ly {L : Nat} (n : Nat) {oi : Oper} {v : Value} {fuel : Nat} {listed : Array Bool} {a : Act} (d : Option Tmp) (hi : ops[ops.size - (fuel + 1)]? = some oi) (_hd : oi.dst = d) (hc : lsB md ops listed (ops.size - (fuel + 1)) L n oi d = true)
  (hQ : ∀ c a w, Q (.panic c) (a.put d v) w → Q (.panic c) a w) (hy : Does P ops S oi v a)
  (h : wpAnyL P md ops Q S L fuel (listed.setIfInBounds (ops.size - (fuel + 1)) true) (a.put d v)) : wpAnyL P md ops Q S L (fuel + 1) listed a := ls (ops.size - (fuel + 1)) n d hi hc hQ hy h
/-- The same, its checks left to the kernel: an operation that yields, one that is passed over, a call. -/
theorem yl {oi : Oper} {v : Value} {fuel : Nat} {listed : Array Bool} {a : Act} {d : Tmp} (hy : ∀ w, S w → (execOp a.eval oi).run P w = .ok (.value v) w)
  (h : wpAnyD P md ops Q S fuel (listed.setIfInBounds (ops.size - (fuel + 1)) true) (a.put (some d) v)) (hi : ops[ops.size - (fuel + 1)]? = some oi := by rfl) (_hd : oi.dst = some d := by rfl) (hc : tmB md ops listed (ops.size - (fuel + 1)) oi (some d) = true := by kernel_rfl)
  (hQ : ∀ c a w, Q (.panic c) (a.put (some d) v) w → Q (.panic c) a w := by exact fun _ _ _ h => h) (hw : Region.wanted oi (yielded ops a.tmps) = true := by kernel_rfl) : wpAnyD P md ops Q S (fuel + 1) listed a := tm (ops.size - (fuel + 1)) (some d) hi hc hQ (does_yield hw hy) h
theorem nl {oi : Oper} {fuel : Nat} {listed : Array Bool} {a : Act} {d : Tmp}
  (h : wpAnyD P md ops Q S fuel (listed.setIfInBounds (ops.size - (fuel + 1)) true) (a.put (some d) undef)) (hi : ops[ops.size - (fuel + 1)]? = some oi := by rfl) (_hd : oi.dst = some d := by rfl) (hc : tmB md ops listed (ops.size - (fuel + 1)) oi (some d) = true := by kernel_rfl)
  (hQ : ∀ c a w, Q (.panic c) (a.put (some d) undef) w → Q (.panic c) a w := by exact fun _ _ _ h => h) (hw : Region.wanted oi (yielded ops a.tmps) = false := by kernel_rfl) : wpAnyD P md ops Q S (fuel + 1) listed a := tm (ops.size - (fuel + 1)) (some d) hi hc hQ (does_skip hw) h
theorem cl (v : Value) (f : FuncId) (args : Array Value) {oi : Oper} {fuel : Nat} {listed : Array Bool} {a : Act} {d : Tmp} (hy : ∀ w, S w → (execOp a.eval oi).run P w = .ok (.enter f args) w) (hf : ∀ w, S w → Calls P f args w (fun e w' => e = .returned v ∧ S w'))
  (h : wpAnyD P md ops Q S fuel (listed.setIfInBounds (ops.size - (fuel + 1)) true) (a.put (some d) v)) (hi : ops[ops.size - (fuel + 1)]? = some oi := by rfl) (_hd : oi.dst = some d := by rfl) (hc : tmB md ops listed (ops.size - (fuel + 1)) oi (some d) = true := by kernel_rfl)
  (hQ : ∀ c a w, Q (.panic c) (a.put (some d) v) w → Q (.panic c) a w := by exact fun _ _ _ h => h) (hw : Region.wanted oi (yielded ops a.tmps) = true := by kernel_rfl) : wpAnyD P md ops Q S (fuel + 1) listed a := tm (ops.size - (fuel + 1)) (some d) hi hc hQ (does_call hw hy hf) h
end
end Go.Proofs.YtkbcplnlehdjfaaGreat

/- The text that a mark is. -/
namespace Go.Proofs.YtkbcplnlehdjfaaGreat
open Go.RowKit
/-- A number in decimal. -/
def decB (n : Int) : ByteArray := ⟨(Lib.itoa n).toArray⟩
theorem itoa_pos {n : Int} (h : 0 ≤ n) : Lib.itoa n = Lib.decDigits n.toNat := by
 unfold Lib.itoa
 rw [if_neg (by omega)]
theorem dec_len : ∀ (k u : Nat), u < 10 ^ (k + 1) → (Lib.decDigits u).length ≤ k + 1
 | 0, u, h => by rw [Lib.decDigits, dif_pos (by simpa using h)]; simp
 | k + 1, u, h => by
  by_cases h1 : u < 10
  ·rw [Lib.decDigits, dif_pos h1]; simp
  ·rw [Lib.decDigits, dif_neg h1]
   have := dec_len k (u / 10) (by rw [Nat.pow_succ] at h; omega)
   simp; omega
theorem dec_len10 {n : Int} (h : n ≤ 9999999999) : (Lib.decDigits n.toNat).length ≤ 10 := dec_len 9 _ (by simp; omega)
theorem dec_step {a n : Int} {s : ByteArray} (h10 : 10 ≤ a) (h : Lib.decDigits a.toNat ++ s.data.toList = Lib.decDigits n.toNat) :
  Lib.decDigits (a / 10).toNat ++ ((⟨#[UInt8.ofNat (48 + a % 10).toNat]⟩ : ByteArray) ++ s).data.toList = Lib.decDigits n.toNat := by
 rw [← h, Lib.decDigits.eq_def a.toNat, dif_neg (by omega)]
 have e1 : (a / 10).toNat = a.toNat / 10 := by omega
 have e2 : (48 + a % 10).toNat = 48 + a.toNat % 10 := by omega
 simp [e1, e2, ByteArray.data_append]
/-- string of a slice of one byte that has just been laid. -/
theorem conv_one (W : World) (c : Int) : (convert 22 9 (.slice (some ⟨W.heap.size, 0, none⟩) 1 1)).run Tryz.prog (W.alloc (.cells #[.int .u8 c] 5)) = .ok (.string ⟨#[UInt8.ofNat c.toNat]⟩) (W.alloc (.cells #[.int .u8 c] 5)) := by
 rw [run_convert_bytes_string _ 22 9 5 _ 1 1 Tryz.underlying22 Tryz.underlying5 Tryz.underlying9]
 rw [run_bytesToString _ ⟨W.heap.size, 0, none⟩ 1 1 [c] (by simp [go_sem])]
 rfl
theorem bytes_eq {a b : ByteArray} (h : a.data.toList = b.data.toList) : a = b := by
 apply ByteArray.ext
 apply Array.ext'
 exact h
theorem decB_list (n : Int) : (decB n).data.toList = Lib.itoa n := by simp [decB]
/-- The text that a mark is. -/
def markB (n : Int) : ByteArray := ⟨#[109]⟩ ++ decB n
def digs (a : Int) : List UInt8 := if a = 0 then [] else Lib.decDigits a.toNat
theorem digs_step {a n : Int} {s : ByteArray} (h0 : 0 < a) (h : digs a ++ s.data.toList = Lib.decDigits n.toNat) : digs (a / 10) ++ ((⟨#[UInt8.ofNat (48 + a % 10).toNat]⟩ : ByteArray) ++ s).data.toList = Lib.decDigits n.toNat := by
 rw [digs, if_neg (by omega)] at h
 have e2 : (48 + a % 10).toNat = 48 + a.toNat % 10 := by omega
 by_cases h10 : 10 ≤ a
 ·rw [digs, if_neg (by omega)]
  exact dec_step h10 h
 ·rw [digs, if_pos (by omega), ← h, Lib.decDigits, dif_pos (by omega), e2, Nat.mod_eq_of_lt (by omega)]
  simp [ByteArray.data_append]
theorem markB_of {n : Int} {s : ByteArray} (h0 : 1 ≤ n) (h : s.data.toList = Lib.decDigits n.toNat) : (⟨#[109]⟩ : ByteArray) ++ s = markB n := by
 have : s = decB n := bytes_eq (by rw [h, decB_list, itoa_pos (by omega)])
 rw [this, markB]
set_option maxHeartbeats 1000000 in
theorem markText_any (n : Int) (hn0 : 1 ≤ n) (hn : n ≤ 99999999) (w : World) :
  Calls Tryz.prog 134 #[.int .i64 n] w fun e w' => e = .returned (.string (markB n)) ∧ Below w.heap.size w w' := by
 have h0 : ¬ n ≤ 0 := by omega
 have hcv := conv_one
 have HN : Hid (1 ≤ n ∧ n ≤ 99999999) := ⟨hn0, hn⟩
 clear hn0 hn
 go_enter Tryz.func134, Tryz.ntmps134
 go_wp2
 clear h0
 go_loopw [0, 3] (fun i t wr => ∃ (a : Int) (s : ByteArray), i = .int .i64 a ∧ t = .string s ∧ Hid (0 ≤ a ∧ a ≤ n ∧ digs a ++ s.data.toList = Lib.decDigits n.toNat) ∧ Below w.heap.size w wr) (fun i _ _ => (intOf i).toNat)
 case atStart => exact ⟨n, ⟨#[]⟩, rfl, rfl, ⟨by have := HN.out; omega, Int.le_refl _, by rw [digs, if_neg (by have := HN.out; omega)]; simp⟩, Below.refl _ _⟩
 case round =>
  obtain ⟨a, s, rfl, rfl, HD, hbel⟩ := hrel
  have hs : ¬ 9223372036854775807 < 1 + s.size := by
   have h1 := congrArg List.length HD.out.2.2
   have h2 := dec_len10 (n := n) (by have := HN.out; omega)
   have h3 : s.data.toList.length = s.size := by simp
   rw [List.length_append] at h1
   omega
  by_cases h10 : 0 < a
  ·have e1 : wrap64 (48 + a.tmod 10) % 256 = 48 + a % 10 := by
    have := HD.out
    rw [Int.tmod_eq_emod_of_nonneg (by omega)]
    unfold wrap64; omega
   have e2 : a.tdiv 10 = a / 10 := Int.tdiv_eq_ediv_of_nonneg (by have := HD.out; omega)
   have e3 : wrap64 (a / 10) = a / 10 := by have := HD.out; have := HN.out; unfold wrap64; omega
   go_wp2
   go_roundw
   case rel =>
    refine ⟨a / 10, _, by rw [e3], rfl, ?_, hbel.alloc hbel.size _⟩
    have HD' := HD.out
    refine ⟨by omega, by omega, ?_⟩
    exact digs_step h10 HD'.2.2
   case measure => simp only [intOf]; have := HD.out; omega
  ·have HS : Hid (s.data.toList = Lib.decDigits n.toNat) := by
    have h := HD.out
    have h2 := h.2.2
    rw [digs, if_pos (by omega)] at h2
    rw [List.nil_append] at h2
    exact h2
   go_wp2
   go_ret
   refine ⟨?_, hbel⟩
   show Ending.returned (.string ((⟨#[109]⟩ : ByteArray) ++ s)) = _
   rw [markB_of HN.out.1 HS.out]
end Go.Proofs.YtkbcplnlehdjfaaGreat

/- The small functions of the ops' exact laws: an op's measure, and its copy. -/
namespace Go.Proofs.YtkbcplnlehdjfaaGreat
open Go.RowKit
set_option maxHeartbeats 1000000 in
theorem szOp_any (k n m : Int) (s : ByteArray) (left : Int) (w : World) (hl : s.size ≤ maxLen) (h0 : 0 ≤ left) (h1 : left ≤ 1048576) :
  Calls Tryz.prog 125 #[.agg #[.int .i64 k, .int .i64 n, .int .i64 m, .string s], .int .i64 left] w fun e w' => e = .returned (.int .i64 (szOf left s.size)) ∧ Below w.heap.size w w' := by
 unfold maxLen at hl
 by_cases h : left < s.size
 ·have h' : left - (s.size : Int) < 0 := by omega
  go_enter Tryz.func125, Tryz.ntmps125
  go_wp2
  go_ret
  exact ⟨ret_int (szOf_neg h).symm, by go_grown⟩
 ·have h' : ¬ left - (s.size : Int) < 0 := by omega
  go_enter Tryz.func125, Tryz.ntmps125
  go_wp2
  go_ret
  exact ⟨ret_int (szOf_pos (by omega)).symm, by go_grown⟩
set_option maxHeartbeats 1000000 in
theorem toOp_any (k n m : Int) (s : ByteArray) (w : World) :
  Calls Tryz.prog 126 #[.agg #[.int .i64 k, .int .i64 n, .int .i64 m, .string s]] w fun e w' => e = .returned (.agg #[.int .i64 k, .int .i64 n, .int .i64 m, .string s]) ∧ Below w.heap.size w w' := by
 go_enter Tryz.func126, Tryz.ntmps126
 go_wp2
 exact bodyPost_ret (v := .agg #[.int .i64 k, .int .i64 n, .int .i64 m, .string s]) (by simp [results, Tryz.results126, go_sem]) rfl ⟨rfl, by go_grown⟩
set_option maxHeartbeats 1000000 in
theorem eqOp_same (k n m : Int) (s : ByteArray) (w : World) :
  Calls Tryz.prog 127 #[.agg #[.int .i64 k, .int .i64 n, .int .i64 m, .string s], .agg #[.int .i64 k, .int .i64 n, .int .i64 m, .string s]] w fun e w' => e = .returned (.bool true) ∧ Below w.heap.size w w' := by
 go_enter Tryz.func127, Tryz.ntmps127
 go_wp2
 go_ret
 exact ⟨ret_bool (by simp), by go_grown⟩
end Go.Proofs.YtkbcplnlehdjfaaGreat

/- A region that draws its order and makes memory: what is done so far, and what it left, is kept as an invariant; each operation is looked at once, whatever has come ahead of it. -/
namespace Go.Proofs.YtkbcplnlehdjfaaGreat
open Go
section
variable {P : Program} {ops : Array Oper} {Q : Exit → Act → World → Prop} {md : Region.Mode} {S : World → Prop}
def undone (l : Array Bool) : Nat := l.toList.count false
theorem ready_free {l : Array Bool} {i : Nat} (h : i ∈ Region.ready md ops l) : l[i]? = some false := by
 simp only [Region.ready, List.mem_filter, Bool.and_eq_true, Bool.not_eq_true'] at h
 have h1 := h.2.1
 rw [Array.getD_eq_getD_getElem?] at h1
 cases h2 : l[i]? with
 | none => rw [h2] at h1; simp at h1
 | some b => rw [h2] at h1; simp at h1; rw [h1]
/-- What an operation waits for. -/
def needs (md : Region.Mode) (ops : Array Oper) (i : Nat) : List Nat := ((ops[i]?).map fun o => (o.after.toList.filter fun e => Region.binds md e).map fun e => e.on).getD []
theorem ready_needs {l : Array Bool} {i : Nat} (ns : List Nat) (h : i ∈ Region.ready md ops l) (hn : needs md ops i = ns) : ∀ j ∈ ns, l[j]? = some true := fun j hj => by
 simp only [Region.ready, List.mem_filter, Bool.and_eq_true] at h
 have h1 := h.2.2
 subst hn
 unfold needs at hj
 cases ho : ops[i]? with
 | none => rw [ho] at hj; simp at hj
 | some o =>
  rw [ho] at hj h1
  simp only [Option.map_some, Option.getD_some, List.mem_map, List.mem_filter] at hj h1
  obtain ⟨e, ⟨he, hb⟩, rfl⟩ := hj
  rw [Array.all_eq_true_iff_forall_mem] at h1
  have h2 := h1 e (by simpa using he)
  simp only [hb, Bool.not_true, Bool.false_or, Array.getD_eq_getD_getElem?] at h2
  cases h3 : l[e.on]? with
  | none => rw [h3] at h2; simp at h2
  | some b => rw [h3] at h2; simp at h2; rw [h2]
theorem ready_of {l : Array Bool} {i : Nat} (ns : List Nat) (hi : decide (i < ops.size) = true) (hn : needs md ops i = ns) (hf : l[i]? = some false) (hd : ∀ j ∈ ns, l[j]? = some true) : i ∈ Region.ready md ops l := by
 have hi' := of_decide_eq_true hi
 simp only [Region.ready, List.mem_filter, List.mem_range, Bool.and_eq_true, Bool.not_eq_true', Array.getD_eq_getD_getElem?, hf, Option.getD_some, true_and]
 refine ⟨hi', ?_⟩
 subst hn
 rw [Array.getElem?_eq_getElem hi'] at *
 simp only [needs, Array.getElem?_eq_getElem hi', Option.map_some, Option.getD_some] at hd ⊢
 rw [Array.all_eq_true_iff_forall_mem]
 intro e he
 cases hb : Region.binds md e with
 | false => simp
 | true =>
  have := hd e.on (List.mem_map.2 ⟨e, List.mem_filter.2 ⟨by simpa using he, hb⟩, rfl⟩)
  simp [this]
theorem count_set : ∀ {q : List Bool} {i : Nat}, q[i]? = some false → (q.set i true).count false + 1 = q.count false
 | [], _, h => by simp at h
 | b :: r, 0, h => by
  simp only [List.getElem?_cons_zero, Option.some.injEq] at h
  subst h
  simp
 | b :: r, i + 1, h => by
  simp only [List.getElem?_cons_succ] at h
  have := count_set h
  simp only [List.set_cons_succ, List.count_cons]
  omega
theorem undone_set {l : Array Bool} {i : Nat} (h : l[i]? = some false) : undone (l.setIfInBounds i true) + 1 = undone l := by
 unfold undone
 rw [Array.toList_setIfInBounds]
 exact count_set (by rw [Array.getElem?_toList]; exact h)
/-- An operation that may be taken first, its checks left to the kernel. -/
theorem tk (i : Nat) {oi : Oper} {v : Value} {fuel : Nat} {listed : Array Bool} {a : Act} {w : World} {d : Tmp} (hy : ∀ w, S w → (execOp a.eval oi).run P w = .ok (.value v) w) (hS : S w)
  (h : wpAnyH P md ops Q S fuel (listed.setIfInBounds i true) (a.put (some d) v) w) (hi : ops[i]? = some oi := by rfl) (hd : oi.dst = some d := by rfl) (h1 : Region.noSelect ops = true := by kernel_rfl) (h2 : Region.free md ops listed i = true := by kernel_rfl) (h3 : (Region.ready md ops listed).contains i = true := by kernel_rfl)
  (hQ : ∀ c a w, Q (.panic c) (a.put (some d) v) w → Q (.panic c) a w := by exact fun _ _ _ h => h) (hw : Region.wanted oi (yielded ops a.tmps) = true := by kernel_rfl) : wpAnyH P md ops Q S (fuel + 1) listed a w := by
 rw [← hd] at h hQ
 exact wpAnyH_take (i := i) hi h1 h2 h3 hQ (.inl ⟨hw, hy⟩) hS h
theorem wpOp_do {i : Nat} {o : Oper} {K : Act → World → Prop} {a : Act} {w : World} (ho : ops[i]? = some o) (hw : Region.wanted o (yielded ops a.tmps) = true)
  (h : ∀ K' : Act → World → Prop, Shut (∀ a w, K a w → K' a w) → Oper.wp P o a w K' Q) : wpOp P ops Q i K a w :=
 wpOp_step ho fun K' hK => by
  rw [if_pos hw]
  exact h K' hK
theorem wild (Inv : Array Bool → Act → World → Prop) (hS : ∀ l a w, Inv l a w → S w) (hstep : ∀ l a w, Inv l a w → ∀ i ∈ Region.ready md ops l, wpOp P ops Q i (Inv (l.setIfInBounds i true)) a w)
  (hend : ∀ l a w, Inv l a w → Region.ready md ops l = [] → Q .normal a w) : ∀ (fuel : Nat) (l : Array Bool) (a : Act) (w : World), Inv l a w → undone l ≤ fuel → wpAnyH P md ops Q S fuel l a w
 | 0, l, a, w, h, hu => by
  have h0 : Region.ready md ops l = [] := List.eq_nil_iff_forall_not_mem.2 fun i hi => by
   have := undone_set (ready_free hi)
   omega
  exact ⟨h0, hend _ _ _ h h0⟩
 | fuel + 1, l, a, w, h, hu => ⟨fun h0 => hend _ _ _ h h0, fun i hi => wpOp_mono (fun a' w' h' => ⟨hS _ _ _ h', wild Inv hS hstep hend fuel _ a' w' h' (by have := undone_set (ready_free hi); omega)⟩) (hstep _ _ _ h i hi)⟩
end
end Go.Proofs.YtkbcplnlehdjfaaGreat

/- Two results, the first of them a struct in a block. -/
namespace Go.Proofs.YtkbcplnlehdjfaaGreat
open Go
theorem results_row_tmp {P : Program} {fn : Func} {p u : Tmp} {ty : TypeId} (h : fn.results = #[.cell p ty, .tmp u]) (tmps : Array Value) (w : World) (g : Nat) (t : TypeId) (cs : Array Value) (fr : Nat × Nat) (d : TypeDesc)
  (hp : tmps.getD p undef = .pointer (some ⟨g, 0, none⟩)) (hg : w.heap[g]? = some (.cells cs t fr))
  (hu : P.underlying ty = some d) (hd : (match d with | .struct _ | .array _ _ => true | _ => false) = true) (hi : (P.info? ty).map (·.size) = some cs.size) :
  (results fn tmps).run P w = .ok (.tuple #[.agg cs, tmps.getD u undef]) w := by
 rw [results_cell_tmp h, hp]
 simp [asAddr, run_loadVar_row w g t ty cs fr d hg hu hd hi]
end Go.Proofs.YtkbcplnlehdjfaaGreat

/- What OpOk answers, the specification's: by the kind. -/
namespace Go.Proofs.YtkbcplnlehdjfaaGreat
open Go.RowKit
def isNum (k : Int) : Prop := k = 1 ∨ k = 2 ∨ k = 4 ∨ k = 5 ∨ k = 6 ∨ k = 11 ∨ k = 14 ∨ k = 15 ∨ k = 16
def isWait (k : Int) : Prop := k = 3 ∨ k = 7 ∨ k = 9 ∨ k = 12
def isText (k : Int) : Prop := k = 10 ∨ k = 13
def emptyB (s : ByteArray) : Bool := s.toList.isEmpty
/-- Whether an op is right, by its kind. -/
def opB (k n m : Int) (s : ByteArray) : Bool :=
 if k = 1 ∨ k = 2 ∨ k = 4 ∨ k = 5 ∨ k = 6 ∨ k = 11 ∨ k = 14 ∨ k = 15 ∨ k = 16 then inB n 1 1000 && decide (m = 0) && emptyB s
 else if k = 3 ∨ k = 7 ∨ k = 9 ∨ k = 12 then inB n 1 1000 && inB m (-1) 1000 && emptyB s
 else if k = 8 then inB n 1 1000 && inB m (-1) 1000 && plainB s
 else if k = 10 ∨ k = 13 then inB n 1 1000 && decide (m = 0) && plainB s
 else if k = 17 then decide (n = 0) && decide (m = 0) && emptyB s
 else false
set_option maxHeartbeats 4000000 in
theorem specOp_num (k n m : Int) (s : ByteArray) (w : World) (hk : isNum k) :
  Calls Tryz.prog 213 #[.agg #[.int .i64 k, .int .i64 n, .int .i64 m, .string s]] w fun e w' => e = .returned (.bool (opB k n m s)) ∧ Below w.heap.size w w' := by
 rcases hk with rfl | rfl | rfl | rfl | rfl | rfl | rfl | rfl | rfl
 all_goals
  simp only [opB, Int.reduceEq, or_true, or_false, or_self, if_true, if_false]
  go_enter Tryz.func213, Tryz.ntmps213
  go_wp2_with (go_at_call 78; refine (l1In_any _ _ _ _).mono ?_; rintro e w' ⟨rfl, rfl⟩)
  all_goals go_ret
  all_goals exact ⟨ret_bool (by simp_all [emptyB]), by go_grown⟩
set_option maxHeartbeats 4000000 in
theorem specOp_wait (k n m : Int) (s : ByteArray) (w : World) (hk : isWait k) :
  Calls Tryz.prog 213 #[.agg #[.int .i64 k, .int .i64 n, .int .i64 m, .string s]] w fun e w' => e = .returned (.bool (opB k n m s)) ∧ Below w.heap.size w w' := by
 rcases hk with rfl | rfl | rfl | rfl
 all_goals
  simp only [opB, Int.reduceEq, or_true, or_false, or_self, if_true, if_false]
  go_enter Tryz.func213, Tryz.ntmps213
  go_wp2_with (go_at_call 78; refine (l1In_any _ _ _ _).mono ?_; rintro e w' ⟨rfl, rfl⟩)
  all_goals go_ret
  all_goals exact ⟨ret_bool (by simp_all [emptyB]), by go_grown⟩
set_option maxHeartbeats 4000000 in
theorem specOp_text (k n m : Int) (s : ByteArray) (w : World) (hs : s.size ≤ 1048576) (hk : isText k) :
  Calls Tryz.prog 213 #[.agg #[.int .i64 k, .int .i64 n, .int .i64 m, .string s]] w fun e w' => e = .returned (.bool (opB k n m s)) ∧ Below w.heap.size w w' := by
 rcases hk with rfl | rfl
 all_goals
  simp only [opB, Int.reduceEq, or_true, or_false, or_self, if_true, if_false]
  go_enter Tryz.func213, Tryz.ntmps213
  go_wp2_with (first | (go_at_call 78; refine (l1In_any _ _ _ _).mono ?_; rintro e w' ⟨rfl, rfl⟩) | (go_at_call 181; refine (l2Plain_any _ _ hs).mono ?_; rintro e w' ⟨rfl, rfl⟩))
  all_goals go_ret
  all_goals exact ⟨ret_bool (by simp_all), by go_grown⟩
set_option maxHeartbeats 4000000 in
theorem specOp_rest (k n m : Int) (s : ByteArray) (w : World) (hs : s.size ≤ 1048576) (hk : k = 8 ∨ k = 17) :
  Calls Tryz.prog 213 #[.agg #[.int .i64 k, .int .i64 n, .int .i64 m, .string s]] w fun e w' => e = .returned (.bool (opB k n m s)) ∧ Below w.heap.size w w' := by
 rcases hk with rfl | rfl
 all_goals
  simp only [opB, Int.reduceEq, or_self, if_true, if_false]
  go_enter Tryz.func213, Tryz.ntmps213
  go_wp2_with (first | (go_at_call 78; refine (l1In_any _ _ _ _).mono ?_; rintro e w' ⟨rfl, rfl⟩) | (go_at_call 181; refine (l2Plain_any _ _ hs).mono ?_; rintro e w' ⟨rfl, rfl⟩))
  all_goals go_ret
  all_goals exact ⟨ret_bool (by simp_all [emptyB]), by go_grown⟩
theorem opB_none {k n m : Int} {s : ByteArray} (h : ¬ (1 ≤ k ∧ k ≤ 17)) : opB k n m s = false := by
 unfold opB
 rw [if_neg (by omega), if_neg (by omega), if_neg (by omega), if_neg (by omega), if_neg (by omega)]
set_option maxHeartbeats 4000000 in
theorem specOp_none (k n m : Int) (s : ByteArray) (w : World) (hk : ¬ (1 ≤ k ∧ k ≤ 17)) :
  Calls Tryz.prog 213 #[.agg #[.int .i64 k, .int .i64 n, .int .i64 m, .string s]] w fun e w' => e = .returned (.bool (opB k n m s)) ∧ Below w.heap.size w w' := by
 rw [opB_none hk]
 have e1 : (k == 1) = false := by simp; omega
 have e2 : (k == 2) = false := by simp; omega
 have e3 : (k == 3) = false := by simp; omega
 have e4 : (k == 4) = false := by simp; omega
 have e5 : (k == 5) = false := by simp; omega
 have e6 : (k == 6) = false := by simp; omega
 have e7 : (k == 7) = false := by simp; omega
 have e8 : (k == 8) = false := by simp; omega
 have e9 : (k == 9) = false := by simp; omega
 have e10 : (k == 10) = false := by simp; omega
 have e11 : (k == 11) = false := by simp; omega
 have e12 : (k == 12) = false := by simp; omega
 have e13 : (k == 13) = false := by simp; omega
 have e14 : (k == 14) = false := by simp; omega
 have e15 : (k == 15) = false := by simp; omega
 have e16 : (k == 16) = false := by simp; omega
 have e17 : (k == 17) = false := by simp; omega
 go_enter Tryz.func213, Tryz.ntmps213
 go_wp2_with (go_at_call 78; refine (l1In_any _ _ _ _).mono ?_; rintro e w' ⟨rfl, rfl⟩)
 go_ret
 exact ⟨rfl, by go_grown⟩
theorem specOpOk_any (k n m : Int) (s : ByteArray) (w : World) (hs : s.size ≤ 1048576) :
  Calls Tryz.prog 213 #[.agg #[.int .i64 k, .int .i64 n, .int .i64 m, .string s]] w fun e w' => e = .returned (.bool (opB k n m s)) ∧ Below w.heap.size w w' := by
 by_cases h0 : 1 ≤ k ∧ k ≤ 17
 ·by_cases h1 : isNum k
  ·exact specOp_num k n m s w h1
  by_cases h2 : isWait k
  ·exact specOp_wait k n m s w h2
  by_cases h3 : isText k
  ·exact specOp_text k n m s w hs h3
  exact specOp_rest k n m s w hs (by unfold isNum at h1; unfold isWait at h2; unfold isText at h3; omega)
 ·exact specOp_none k n m s w h0
end Go.Proofs.YtkbcplnlehdjfaaGreat

/- An op as data. -/
namespace Go.Proofs.YtkbcplnlehdjfaaGreat
open Go.RowKit
/-- An op: kind, two numbers, a text. -/
abbrev OpD := Int × Int × Int × ByteArray
def opOk (o : OpD) : Bool := opB o.1 o.2.1 o.2.2.1 o.2.2.2
end Go.Proofs.YtkbcplnlehdjfaaGreat

/- What OpOk answers, the program's: by the form of the kind. -/
namespace Go.Proofs.YtkbcplnlehdjfaaGreat
open Go.RowKit
theorem isNumber_any (n : Int) (w : World) : Calls Tryz.prog 164 #[.int .i64 n] w fun e w' => e = .returned (.bool (inB n 1 1000)) ∧ w' = w := by
 by_cases h1 : 1 ≤ n
 ·by_cases h2 : n ≤ 1000
  ·go_enter Tryz.func164, Tryz.ntmps164
   go_wp2
   go_ret
   exact ⟨ret_bool (inB_true h1 h2).symm, rfl⟩
  ·go_enter Tryz.func164, Tryz.ntmps164
   go_wp2
   go_ret
   exact ⟨ret_bool (inB_high (by omega)).symm, rfl⟩
 ·go_enter Tryz.func164, Tryz.ntmps164
  go_wp2
  go_ret
  exact ⟨ret_bool (inB_low (by omega)).symm, rfl⟩
theorem isPatience_any (n : Int) (w : World) : Calls Tryz.prog 292 #[.int .i64 n] w fun e w' => e = .returned (.bool (inB n (-1) 1000)) ∧ w' = w := by
 by_cases h1 : -1 ≤ n
 ·by_cases h2 : n ≤ 1000
  ·go_enter Tryz.func292, Tryz.ntmps292
   go_wp2
   go_ret
   exact ⟨ret_bool (inB_true h1 h2).symm, rfl⟩
  ·go_enter Tryz.func292, Tryz.ntmps292
   go_wp2
   go_ret
   exact ⟨ret_bool (inB_high (by omega)).symm, rfl⟩
 ·go_enter Tryz.func292, Tryz.ntmps292
  go_wp2
  go_ret
  exact ⟨ret_bool (inB_low (by omega)).symm, rfl⟩
/-! ### Which form an interface value bears. -/
theorem as_bare_bare (v : Value) (w : World) : (Instr.typeAssert (.iface 338 v) 325 338 true).run Tryz.prog w = .ok (.tuple #[v, .bool true]) w := by kernel_rfl
theorem as_number_bare (v : Value) (w : World) : (Instr.typeAssert (.iface 330 v) 325 338 true).run Tryz.prog w = .ok (.tuple #[.agg #[.int .i64 0], .bool false]) w := by kernel_rfl
theorem as_number_number (v : Value) (w : World) : (Instr.typeAssert (.iface 330 v) 325 330 true).run Tryz.prog w = .ok (.tuple #[v, .bool true]) w := by kernel_rfl
theorem as_wait_bare (v : Value) (w : World) : (Instr.typeAssert (.iface 332 v) 325 338 true).run Tryz.prog w = .ok (.tuple #[.agg #[.int .i64 0], .bool false]) w := by kernel_rfl
theorem as_wait_number (v : Value) (w : World) : (Instr.typeAssert (.iface 332 v) 325 330 true).run Tryz.prog w = .ok (.tuple #[.agg #[.int .i64 0, .int .i64 0], .bool false]) w := by kernel_rfl
theorem as_wait_wait (v : Value) (w : World) : (Instr.typeAssert (.iface 332 v) 325 332 true).run Tryz.prog w = .ok (.tuple #[v, .bool true]) w := by kernel_rfl
theorem as_send_bare (v : Value) (w : World) : (Instr.typeAssert (.iface 334 v) 325 338 true).run Tryz.prog w = .ok (.tuple #[.agg #[.int .i64 0], .bool false]) w := by kernel_rfl
theorem as_send_number (v : Value) (w : World) : (Instr.typeAssert (.iface 334 v) 325 330 true).run Tryz.prog w = .ok (.tuple #[.agg #[.int .i64 0, .int .i64 0], .bool false]) w := by kernel_rfl
theorem as_send_wait (v : Value) (w : World) : (Instr.typeAssert (.iface 334 v) 325 332 true).run Tryz.prog w = .ok (.tuple #[.agg #[.int .i64 0, .int .i64 0, .int .i64 0], .bool false]) w := by kernel_rfl
theorem as_send_send (v : Value) (w : World) : (Instr.typeAssert (.iface 334 v) 325 334 true).run Tryz.prog w = .ok (.tuple #[v, .bool true]) w := by kernel_rfl
theorem as_text_bare (v : Value) (w : World) : (Instr.typeAssert (.iface 336 v) 325 338 true).run Tryz.prog w = .ok (.tuple #[.agg #[.int .i64 0], .bool false]) w := by kernel_rfl
theorem as_text_number (v : Value) (w : World) : (Instr.typeAssert (.iface 336 v) 325 330 true).run Tryz.prog w = .ok (.tuple #[.agg #[.int .i64 0, .int .i64 0], .bool false]) w := by kernel_rfl
theorem as_text_wait (v : Value) (w : World) : (Instr.typeAssert (.iface 336 v) 325 332 true).run Tryz.prog w = .ok (.tuple #[.agg #[.int .i64 0, .int .i64 0, .int .i64 0], .bool false]) w := by kernel_rfl
theorem as_text_send (v : Value) (w : World) : (Instr.typeAssert (.iface 336 v) 325 334 true).run Tryz.prog w = .ok (.tuple #[.agg #[.int .i64 0, .int .i64 0, .int .i64 0, .string ByteArray.empty], .bool false]) w := by kernel_rfl
theorem as_text_text (v : Value) (w : World) : (Instr.typeAssert (.iface 336 v) 325 336 true).run Tryz.prog w = .ok (.tuple #[v, .bool true]) w := by kernel_rfl
set_option maxHeartbeats 4000000 in
theorem formOk_bare (k : Int) (w : World) :
  Calls Tryz.prog 291 #[.iface 338 (.agg #[.int .i64 k])] w fun e w' => e = .returned (.bool (true)) ∧ Below w.heap.size w w' := by
 have h_bare := as_bare_bare (.agg #[.int .i64 k])
 go_enter Tryz.func291, Tryz.ntmps291
 go_wp2_with (first | (go_at_call 164; refine (isNumber_any _ _).mono ?_; rintro e w' ⟨rfl, rfl⟩) | (go_at_call 292; refine (isPatience_any _ _).mono ?_; rintro e w' ⟨rfl, rfl⟩))
 all_goals go_ret
 all_goals exact ⟨ret_bool (by simp_all), by go_grown⟩
set_option maxHeartbeats 4000000 in
theorem formOk_number (k n : Int) (w : World) :
  Calls Tryz.prog 291 #[.iface 330 (.agg #[.int .i64 k, .int .i64 n])] w fun e w' => e = .returned (.bool (inB n 1 1000)) ∧ Below w.heap.size w w' := by
 have h_bare := as_number_bare (.agg #[.int .i64 k, .int .i64 n])
 have h_number := as_number_number (.agg #[.int .i64 k, .int .i64 n])
 go_enter Tryz.func291, Tryz.ntmps291
 go_wp2_with (first | (go_at_call 164; refine (isNumber_any _ _).mono ?_; rintro e w' ⟨rfl, rfl⟩) | (go_at_call 292; refine (isPatience_any _ _).mono ?_; rintro e w' ⟨rfl, rfl⟩))
 all_goals go_ret
 all_goals exact ⟨ret_bool (by simp_all), by go_grown⟩
set_option maxHeartbeats 4000000 in
theorem formOk_wait (k n m : Int) (w : World) :
  Calls Tryz.prog 291 #[.iface 332 (.agg #[.int .i64 k, .int .i64 n, .int .i64 m])] w fun e w' => e = .returned (.bool (inB n 1 1000 && inB m (-1) 1000)) ∧ Below w.heap.size w w' := by
 have h_bare := as_wait_bare (.agg #[.int .i64 k, .int .i64 n, .int .i64 m])
 have h_number := as_wait_number (.agg #[.int .i64 k, .int .i64 n, .int .i64 m])
 have h_wait := as_wait_wait (.agg #[.int .i64 k, .int .i64 n, .int .i64 m])
 go_enter Tryz.func291, Tryz.ntmps291
 go_wp2_with (first | (go_at_call 164; refine (isNumber_any _ _).mono ?_; rintro e w' ⟨rfl, rfl⟩) | (go_at_call 292; refine (isPatience_any _ _).mono ?_; rintro e w' ⟨rfl, rfl⟩))
 all_goals go_ret
 all_goals exact ⟨ret_bool (by simp_all), by go_grown⟩
set_option maxHeartbeats 4000000 in
theorem formOk_send (k n m : Int) (s : ByteArray) (w : World) (hs : s.size ≤ 1048576) :
  Calls Tryz.prog 291 #[.iface 334 (.agg #[.int .i64 k, .int .i64 n, .int .i64 m, .string s])] w fun e w' => e = .returned (.bool (inB n 1 1000 && inB m (-1) 1000 && plainB s)) ∧ Below w.heap.size w w' := by
 have h_bare := as_send_bare (.agg #[.int .i64 k, .int .i64 n, .int .i64 m, .string s])
 have h_number := as_send_number (.agg #[.int .i64 k, .int .i64 n, .int .i64 m, .string s])
 have h_wait := as_send_wait (.agg #[.int .i64 k, .int .i64 n, .int .i64 m, .string s])
 have h_send := as_send_send (.agg #[.int .i64 k, .int .i64 n, .int .i64 m, .string s])
 go_enter Tryz.func291, Tryz.ntmps291
 go_wp2_with (first | (go_at_call 164; refine (isNumber_any _ _).mono ?_; rintro e w' ⟨rfl, rfl⟩) | (go_at_call 292; refine (isPatience_any _ _).mono ?_; rintro e w' ⟨rfl, rfl⟩) | (go_at_call 285; refine (isPlain_any _ _ hs).mono ?_; rintro e w' ⟨rfl, rfl⟩))
 all_goals go_ret
 all_goals exact ⟨ret_bool (by simp_all), by go_grown⟩
set_option maxHeartbeats 4000000 in
theorem formOk_text (k n : Int) (s : ByteArray) (w : World) (hs : s.size ≤ 1048576) :
  Calls Tryz.prog 291 #[.iface 336 (.agg #[.int .i64 k, .int .i64 n, .string s])] w fun e w' => e = .returned (.bool (inB n 1 1000 && plainB s)) ∧ Below w.heap.size w w' := by
 have h_bare := as_text_bare (.agg #[.int .i64 k, .int .i64 n, .string s])
 have h_number := as_text_number (.agg #[.int .i64 k, .int .i64 n, .string s])
 have h_wait := as_text_wait (.agg #[.int .i64 k, .int .i64 n, .string s])
 have h_send := as_text_send (.agg #[.int .i64 k, .int .i64 n, .string s])
 have h_text := as_text_text (.agg #[.int .i64 k, .int .i64 n, .string s])
 go_enter Tryz.func291, Tryz.ntmps291
 go_wp2_with (first | (go_at_call 164; refine (isNumber_any _ _).mono ?_; rintro e w' ⟨rfl, rfl⟩) | (go_at_call 292; refine (isPatience_any _ _).mono ?_; rintro e w' ⟨rfl, rfl⟩) | (go_at_call 285; refine (isPlain_any _ _ hs).mono ?_; rintro e w' ⟨rfl, rfl⟩))
 all_goals go_ret
 all_goals exact ⟨ret_bool (by simp_all), by go_grown⟩
end Go.Proofs.YtkbcplnlehdjfaaGreat
