/- What the proof leans on, part 13: MkText, MkOp, MkProc, MkHProc. -/
import Derived.Lib.ItoaNum
import Derived.Laws.BytesString
import Derived.Test.YtkbcplnlehdjfaaGreatOwnR0
import Derived.Test.YtkbcplnlehdjfaaGreatOwnR5
import Derived.Test.YtkbcplnlehdjfaaGreatOwnR12

namespace Go.Proofs.YtkbcplnlehdjfaaGreat
open Go.RowKit
/-- A number in decimal. -/
def decB (n : Int) : ByteArray := ⟨(Lib.itoa n).toArray⟩
theorem itoa_pos {n : Int} (h : 0 ≤ n) : Lib.itoa n = Lib.decDigits n.toNat := by
 unfold Lib.itoa
 rw [if_neg (by omega)]
theorem dec_len : ∀ (k u : Nat), u < 10 ^ (k + 1) → (Lib.decDigits u).length ≤ k + 1
 | 0, u, h => by rw [Lib.decDigits, dif_pos (by simpa using h)]; simp
 | k + 1, u, h => by
  by_cases h1 : u < 10
  ·rw [Lib.decDigits, dif_pos h1]; simp
  ·rw [Lib.decDigits, dif_neg h1]
   have := dec_len k (u / 10) (by rw [Nat.pow_succ] at h; omega)
   simp; omega
theorem dec_len10 {n : Int} (h : n ≤ 9999999999) : (Lib.decDigits n.toNat).length ≤ 10 := dec_len 9 _ (by simp; omega)
theorem dec_step {a n : Int} {s : ByteArray} (h10 : 10 ≤ a) (h : Lib.decDigits a.toNat ++ s.data.toList = Lib.decDigits n.toNat) :
  Lib.decDigits (a / 10).toNat ++ ((⟨#[UInt8.ofNat (48 + a % 10).toNat]⟩ : ByteArray) ++ s).data.toList = Lib.decDigits n.toNat := by
 rw [← h, Lib.decDigits.eq_def a.toNat, dif_neg (by omega)]
 have e1 : (a / 10).toNat = a.toNat / 10 := by omega
 have e2 : (48 + a % 10).toNat = 48 + a.toNat % 10 := by omega
 simp [e1, e2, ByteArray.data_append]
/-- string of a slice of one byte that has just been laid. -/
theorem conv_one (W : World) (c : Int) : (convert 22 9 (.slice (some ⟨W.heap.size, 0, none⟩) 1 1)).run Tryz.prog (W.alloc (.cells #[.int .u8 c] 5)) = .ok (.string ⟨#[UInt8.ofNat c.toNat]⟩) (W.alloc (.cells #[.int .u8 c] 5)) := by
 rw [run_convert_bytes_string _ 22 9 5 _ 1 1 Tryz.underlying22 Tryz.underlying5 Tryz.underlying9]
 rw [run_bytesToString _ ⟨W.heap.size, 0, none⟩ 1 1 [c] (by simp [go_sem])]
 rfl
theorem bytes_eq {a b : ByteArray} (h : a.data.toList = b.data.toList) : a = b := by
 apply ByteArray.ext
 apply Array.ext'
 exact h
theorem decB_list (n : Int) : (decB n).data.toList = Lib.itoa n := by simp [decB]
/-- The text that a mark is. -/
def markB (n : Int) : ByteArray := ⟨#[109]⟩ ++ decB n
def digs (a : Int) : List UInt8 := if a = 0 then [] else Lib.decDigits a.toNat
theorem digs_step {a n : Int} {s : ByteArray} (h0 : 0 < a) (h : digs a ++ s.data.toList = Lib.decDigits n.toNat) : digs (a / 10) ++ ((⟨#[UInt8.ofNat (48 + a % 10).toNat]⟩ : ByteArray) ++ s).data.toList = Lib.decDigits n.toNat := by
 rw [digs, if_neg (by omega)] at h
 have e2 : (48 + a % 10).toNat = 48 + a.toNat % 10 := by omega
 by_cases h10 : 10 ≤ a
 ·rw [digs, if_neg (by omega)]
  exact dec_step h10 h
 ·rw [digs, if_pos (by omega), ← h, Lib.decDigits, dif_pos (by omega), e2, Nat.mod_eq_of_lt (by omega)]
  simp [ByteArray.data_append]
theorem markB_of {n : Int} {s : ByteArray} (h0 : 1 ≤ n) (h : s.data.toList = Lib.decDigits n.toNat) : (⟨#[109]⟩ : ByteArray) ++ s = markB n := by
 have : s = decB n := bytes_eq (by rw [h, decB_list, itoa_pos (by omega)])
 rw [this, markB]
set_option maxHeartbeats 1000000 in
theorem markText_any (n : Int) (hn0 : 1 ≤ n) (hn : n ≤ 99999999) (w : World) :
  Calls Tryz.prog 134 #[.int .i64 n] w fun e w' => e = .returned (.string (markB n)) ∧ Below w.heap.size w w' := by
 have h0 : ¬ n ≤ 0 := by omega
 have hcv := conv_one
 have HN : Hid (1 ≤ n ∧ n ≤ 99999999) := ⟨hn0, hn⟩
 clear hn0 hn
 go_enter Tryz.func134, Tryz.ntmps134
 go_wp2
 clear h0
 go_loopw [0, 3] (fun i t wr => ∃ (a : Int) (s : ByteArray), i = .int .i64 a ∧ t = .string s ∧ Hid (0 ≤ a ∧ a ≤ n ∧ digs a ++ s.data.toList = Lib.decDigits n.toNat) ∧ Below w.heap.size w wr) (fun i _ _ => (intOf i).toNat)
 case atStart => exact ⟨n, ⟨#[]⟩, rfl, rfl, ⟨by have := HN.out; omega, Int.le_refl _, by rw [digs, if_neg (by have := HN.out; omega)]; simp⟩, Below.refl _ _⟩
 case round =>
  obtain ⟨a, s, rfl, rfl, HD, hbel⟩ := hrel
  have hs : ¬ 9223372036854775807 < 1 + s.size := by
   have h1 := congrArg List.length HD.out.2.2
   have h2 := dec_len10 (n := n) (by have := HN.out; omega)
   have h3 : s.data.toList.length = s.size := by simp
   rw [List.length_append] at h1
   omega
  by_cases h10 : 0 < a
  ·have e1 : wrap64 (48 + a.tmod 10) % 256 = 48 + a % 10 := by
    have := HD.out
    rw [Int.tmod_eq_emod_of_nonneg (by omega)]
    unfold wrap64; omega
   have e2 : a.tdiv 10 = a / 10 := Int.tdiv_eq_ediv_of_nonneg (by have := HD.out; omega)
   have e3 : wrap64 (a / 10) = a / 10 := by have := HD.out; have := HN.out; unfold wrap64; omega
   go_wp2
   go_roundw
   case rel =>
    refine ⟨a / 10, _, by rw [e3], rfl, ?_, hbel.alloc hbel.size _⟩
    have HD' := HD.out
    refine ⟨by omega, by omega, ?_⟩
    exact digs_step h10 HD'.2.2
   case measure => simp only [intOf]; have := HD.out; omega
  ·have HS : Hid (s.data.toList = Lib.decDigits n.toNat) := by
    have h := HD.out
    have h2 := h.2.2
    rw [digs, if_pos (by omega)] at h2
    rw [List.nil_append] at h2
    exact h2
   go_wp2
   go_ret
   refine ⟨?_, hbel⟩
   show Ending.returned (.string ((⟨#[109]⟩ : ByteArray) ++ s)) = _
   rw [markB_of HN.out.1 HS.out]
end Go.Proofs.YtkbcplnlehdjfaaGreat

/- Lists of the kind Op, marked and read again. (Made by mkmark.py.) -/
namespace Go.Proofs.YtkbcplnlehdjfaaGreat
open Go.RowKit
attribute [local go_sem ↓] Go.wp_at_zero Go.wp_at_succ
/-- The mark of a thing. -/
def mkOp (k : Int) (_ : OpD) : OpD := (k, k + 1, k + 1 + 1, markB (k + 1 + 1 + 1))
set_option maxRecDepth 100000 in
set_option maxHeartbeats 4000000 in
theorem markSOp_l (a : Option Addr) (l : List OpD) (cap : Nat) (k : Int) (w : World) (base : Nat) (hl : l.length ≤ 1048576) (h0 : 1 ≤ k) (h1 : k + (cntL (fun _ => 4) l : Nat) ≤ 90000000) (ho : w.ownsRow base 134 4 (.slice a l.length cap) l.length (opK.flat l)) :
  Calls Tryz.prog 65 #[.slice a l.length cap, .int .i64 k] w fun e w' => e = .returned (.int .i64 (k + (cntL (fun _ => 4) l : Nat))) ∧ w'.ownsRow base 134 4 (.slice a l.length cap) l.length (opK.flat (markL mkOp (fun _ => 4) k l)) ∧ KeptBut w w' (blk a) := by
 by_cases hz : l.length = 0
 ·have hl0 : l = [] := List.eq_nil_of_length_eq_zero hz
  subst hl0
  have HO : Hid (w.ownsRow base 134 4 (.slice a 0 cap) 0 (opK.flat [])) := ho
  clear ho
  go_enter Tryz.func65, Tryz.ntmps65
  go_wp2_with fail
  go_loopw [1, 5] (fun q i wr => q = .int .i64 k ∧ i = .int .i64 0 ∧ wr = w) (fun _ _ _ => 0)
  case atStart => exact ⟨rfl, rfl, rfl⟩
  case round =>
   obtain ⟨rfl, rfl, rfl⟩ := hrel
   go_wp2
   go_ret
   exact ⟨ret_int (by simp [cntL]), HO.out, KeptBut.refl _ _⟩
 obtain ⟨g, rfl, hrow⟩ := RowAt.of_owns (K := opK) ho hz
 have HR : Hid (RowAt opK 134 w base g cap l) := hrow
 have HB : Hid (k + (cntL (fun _ : OpD => 4) l : Nat) ≤ 90000000) := h1
 clear ho hrow h1 hz
 go_enter Tryz.func65, Tryz.ntmps65
 go_wp2_with fail
 go_loopw [1, 5] (fun q i wr => ∃ (j : Nat) (m : Int), j ≤ l.length ∧ i = .int .i64 j ∧ q = .int .i64 m ∧ 1 ≤ m ∧ m ≤ 90000000 ∧ Hid (m = k + (cntL (fun _ : OpD => 4) (l.take j) : Nat) ∧ RowAt opK 134 wr base g cap (markL mkOp (fun _ => 4) k (l.take j) ++ l.drop j) ∧ KeptBut w wr [g])) (fun _ i _ => l.length - (intOf i).toNat)
 case atStart => exact ⟨0, k, Nat.zero_le _, rfl, rfl, h0, by have := HB.out; omega, ⟨by simp [cntL], HR.out, KeptBut.refl _ _⟩⟩
 case round =>
  clear HR
  obtain ⟨j, m, hj, rfl, rfl, m0, m1, HA⟩ := hrel
  by_cases hlt : j < l.length
  ·have i0 : (0 : Int) ≤ (j : Int) := by omega
   have i1 : (j : Int) < (l.length : Int) := by omega
   obtain ⟨x, hx⟩ : ∃ x, l[j]? = some x := ⟨_, List.getElem?_eq_getElem hlt⟩
   have hdr : l.drop j = x :: l.drop (j + 1) := drop_at hx
   have hcn := cntL_take_lt (c := fun _ : OpD => 4) hx
   have hup := cntL_up (c := fun _ : OpD => 4) hx
   have HX : Hid (l[j]? = some x ∧ m + 4 ≤ 90000000 ∧ m + 4 = k + (cntL (fun _ : OpD => 4) (l.take (j + 1)) : Nat)) := ⟨hx, by have := HB.out; have := HA.out.1; omega, by have := HA.out.1; omega⟩
   have HW : Hid (RowAt opK 134 wr base g cap (markL mkOp (fun _ => 4) k (l.take j) ++ x :: l.drop (j + 1)) ∧ (markL mkOp (fun _ => 4) k (l.take j)).length = j) := ⟨by have := HA.out.2.1; rwa [hdr] at this, by rw [markL_length, List.length_take]; omega⟩
   clear hx hdr hcn hup
   have m2 : m + 4 ≤ 90000000 := HX.out.2.1
   have hgl : g < wr.heap.size := HW.out.1.lt
   have q0 := RowAt.at_mid HW.out.1 HW.out.2 (r := 0) (by decide : 0 < opK.n)
   obtain ⟨⟨u0, c0⟩, f0⟩ : (∃ u, wr.cell? ⟨g, j * 4, none⟩ = some u) ∧ wr.frozen? ⟨g, j * 4, none⟩ = false := q0
   have q1 := RowAt.at_mid HW.out.1 HW.out.2 (r := 1) (by decide : 1 < opK.n)
   obtain ⟨⟨u1, c1⟩, f1⟩ : (∃ u, wr.cell? ⟨g, j * 4 + 1, none⟩ = some u) ∧ wr.frozen? ⟨g, j * 4 + 1, none⟩ = false := q1
   have q2 := RowAt.at_mid HW.out.1 HW.out.2 (r := 2) (by decide : 2 < opK.n)
   obtain ⟨⟨u2, c2⟩, f2⟩ : (∃ u, wr.cell? ⟨g, j * 4 + 2, none⟩ = some u) ∧ wr.frozen? ⟨g, j * 4 + 2, none⟩ = false := q2
   have h5 := RowAt.part (K := opK) (x := (x.1, x.2.1, x.2.2.1, x.2.2.2)) (y := (m, m + 1, m + 1 + 1, x.2.2.2)) (j := 0) (vs := [.int .i64 (m), .int .i64 (m + 1), .int .i64 (m + 1 + 1)]) HW.out.1 (by show 0 + 3 ≤ 4; omega) (fun r hr => by match r, hr with | 0, _ => rfl | 1, _ => rfl | 2, _ => rfl) (fun r hr hn => by match r, hr, hn with | 0, _, hn => exact absurd ⟨by omega, by show 0 < 0 + 3; omega⟩ hn | 1, _, hn => exact absurd ⟨by omega, by show 1 < 0 + 3; omega⟩ hn | 2, _, hn => exact absurd ⟨by omega, by show 2 < 0 + 3; omega⟩ hn | 3, _, _ => rfl )
   rw [HW.out.2, show opK.n = 4 from rfl] at h5
   simp only [setAllW, Nat.add_assoc, Nat.reduceAdd, Nat.add_zero] at h5
   have HS0 : Hid (RowAt opK 134 (((wr.setCell ⟨g, j * 4, none⟩ (.int .i64 (m))).setCell ⟨g, j * 4 + 1, none⟩ (.int .i64 (m + 1))).setCell ⟨g, j * 4 + 2, none⟩ (.int .i64 (m + 1 + 1))) base g cap (markL mkOp (fun _ => 4) k (l.take j) ++ (m, m + 1, m + 1 + 1, x.2.2.2) :: l.drop (j + 1)) ∧ (markL mkOp (fun _ => 4) k (l.take j)).length = j) := ⟨h5, HW.out.2⟩
   have h6 : KeptBut w (setAllW wr g (j * 4) [.int .i64 (m), .int .i64 (m + 1), .int .i64 (m + 1 + 1)]) [g] := HA.out.2.2.trans (KeptBut.set _ (by simp))
   simp only [setAllW, Nat.add_assoc, Nat.reduceAdd] at h6
   have HS0K : Hid (KeptBut w (((wr.setCell ⟨g, j * 4, none⟩ (.int .i64 (m))).setCell ⟨g, j * 4 + 1, none⟩ (.int .i64 (m + 1))).setCell ⟨g, j * 4 + 2, none⟩ (.int .i64 (m + 1 + 1))) [g]) := h6
   clear h6
   clear h5
   go_wp2_with fail
   refine (markText_any (m + 1 + 1 + 1) (by omega) (by omega) _).mono ?_
   rintro e v3 ⟨rfl, hb3⟩
   have HV3 : Hid (RowAt opK 134 v3 base g cap (markL mkOp (fun _ => 4) k (l.take j) ++ (m, m + 1, m + 1 + 1, x.2.2.2) :: l.drop (j + 1)) ∧ (markL mkOp (fun _ => 4) k (l.take j)).length = j) := ⟨HS0.out.1.same (hb3.block g HS0.out.1.lt), HS0.out.2⟩
   have HV3K : Hid (KeptBut w v3 [g]) := HS0K.out.trans (KeptBut.of_below hb3)
   clear hb3
   have q3 := RowAt.at_mid HV3.out.1 HV3.out.2 (r := 3) (by decide : 3 < opK.n)
   obtain ⟨⟨u3, c3⟩, f3⟩ : (∃ u, v3.cell? ⟨g, j * 4 + 3, none⟩ = some u) ∧ v3.frozen? ⟨g, j * 4 + 3, none⟩ = false := q3
   have h5 := RowAt.part (K := opK) (x := (m, m + 1, m + 1 + 1, x.2.2.2)) (y := (m, m + 1, m + 1 + 1, markB (m + 1 + 1 + 1))) (j := 3) (vs := [.string (markB (m + 1 + 1 + 1))]) HV3.out.1 (by show 3 + 1 ≤ 4; omega) (fun r hr => by match r, hr with | 0, _ => rfl) (fun r hr hn => by match r, hr, hn with | 0, _, _ => rfl | 1, _, _ => rfl | 2, _, _ => rfl | 3, _, hn => exact absurd ⟨by omega, by show 3 < 3 + 1; omega⟩ hn )
   rw [HV3.out.2, show opK.n = 4 from rfl] at h5
   simp only [setAllW] at h5
   have HS1 : Hid (RowAt opK 134 (v3.setCell ⟨g, j * 4 + 3, none⟩ (.string (markB (m + 1 + 1 + 1)))) base g cap (markL mkOp (fun _ => 4) k (l.take j) ++ (m, m + 1, m + 1 + 1, markB (m + 1 + 1 + 1)) :: l.drop (j + 1)) ∧ (markL mkOp (fun _ => 4) k (l.take j)).length = j) := ⟨h5, HV3.out.2⟩
   have h6 : KeptBut w (setAllW v3 g (j * 4 + 3) [.string (markB (m + 1 + 1 + 1))]) [g] := HV3K.out.trans (KeptBut.set _ (by simp))
   simp only [setAllW] at h6
   have HS1K : Hid (KeptBut w (v3.setCell ⟨g, j * 4 + 3, none⟩ (.string (markB (m + 1 + 1 + 1)))) [g]) := h6
   clear h6
   clear h5
   have HN : Hid (RowAt opK 134 (v3.setCell ⟨g, j * 4 + 3, none⟩ (.string (markB (m + 1 + 1 + 1)))) base g cap (markL mkOp (fun _ => 4) k (l.take (j + 1)) ++ l.drop (j + 1)) ∧ KeptBut w (v3.setCell ⟨g, j * 4 + 3, none⟩ (.string (markB (m + 1 + 1 + 1)))) [g]) := ⟨by rw [markL_up HX.out.1, List.append_assoc, ← HA.out.1]; exact HS1.out.1, HS1K.out⟩
   go_wp2
   go_roundw
   case rel => exact ⟨j + 1, m + 4, by omega, by go_num, by go_num, by omega, by omega, ⟨HX.out.2.2, HN.out.1, HN.out.2⟩⟩
   case measure => simp [intOf]; omega
  ·have i1 : ¬ (j : Int) < (l.length : Int) := by omega
   have ej : j = l.length := by omega
   subst ej
   have HE : Hid (RowAt opK 134 wr base g cap (markL mkOp (fun _ => 4) k l) ∧ m = k + (cntL (fun _ : OpD => 4) l : Nat)) := by have h5 := HA.out.2.1; have h6 := HA.out.1; rw [List.take_length, List.drop_length, List.append_nil] at h5; rw [List.take_length] at h6; exact ⟨h5, h6⟩
   go_wp2
   go_ret
   refine ⟨ret_int HE.out.2, ?_, HA.out.2.2.mono (by simp [blk])⟩
   have h7 := HE.out.1.owns
   rw [markL_length] at h7
   exact h7
def HeldOp3 (w : World) (a : Option Addr) (l : List OpD) (g j : Nat) (m : Int) (w' : World) : Prop := w'.cell? ⟨g, j * 4 + 3, none⟩ = some (.string (markB m)) ∧ Hid (opK.Lies w' a l ∧ Below w.heap.size w w')
set_option maxRecDepth 100000 in
set_option maxHeartbeats 4000000 in
theorem heldSOp_l (a : Option Addr) (l : List OpD) (cap : Nat) (k : Int) (w : World) (hl : l.length ≤ 1048576) (h0 : 1 ≤ k) (h1 : k + (cntL (fun _ => 4) l : Nat) ≤ 90000000) (hr : opK.Lies w a (markL mkOp (fun _ => 4) k l)) :
  Calls Tryz.prog 145 #[.slice a l.length cap, .int .i64 k] w fun e w' => e = .returned (.int .i64 (k + (cntL (fun _ => 4) l : Nat))) ∧ Below w.heap.size w w' := by
 have HR : Hid (opK.Lies w a (markL mkOp (fun _ => 4) k l) ∧ k + (cntL (fun _ : OpD => 4) l : Nat) ≤ 90000000) := ⟨hr, h1⟩
 clear hr h1
 go_enter Tryz.func145, Tryz.ntmps145
 go_wp2_with fail
 go_loopw [1, 5] (fun q i wr => ∃ (j : Nat) (m : Int), j ≤ l.length ∧ i = .int .i64 j ∧ q = .int .i64 m ∧ 1 ≤ m ∧ m ≤ 90000000 ∧ Hid (m = k + (cntL (fun _ : OpD => 4) (l.take j) : Nat) ∧ Below w.heap.size w wr)) (fun _ i _ => l.length - (intOf i).toNat)
 case atStart => exact ⟨0, k, Nat.zero_le _, rfl, rfl, h0, by have := HR.out.2; omega, ⟨by simp [cntL], Below.refl _ _⟩⟩
 case round =>
  obtain ⟨j, m, hj, rfl, rfl, m0, m1, HA⟩ := hrel
  by_cases hlt : j < l.length
  ·have i0 : (0 : Int) ≤ (j : Int) := by omega
   have i1 : (j : Int) < (l.length : Int) := by omega
   obtain ⟨x, hx⟩ : ∃ x, l[j]? = some x := ⟨_, List.getElem?_eq_getElem hlt⟩
   have hcn := cntL_take_lt (c := fun _ : OpD => 4) hx
   have hup := cntL_up (c := fun _ : OpD => 4) hx
   have hg := markL_get (f := mkOp) (c := fun _ : OpD => 4) (k := k) hx
   rw [← HA.out.1] at hg
   obtain ⟨g, ha, hat⟩ := (HR.out.1.below HA.out.2).at hg
   have c0 : wr.cell? ⟨g, j * 4, none⟩ = some (.int .i64 (m)) := hat 0 _ rfl
   have c1 : wr.cell? ⟨g, j * 4 + 1, none⟩ = some (.int .i64 (m + 1)) := hat 1 _ rfl
   have c2 : wr.cell? ⟨g, j * 4 + 2, none⟩ = some (.int .i64 (m + 1 + 1)) := hat 2 _ rfl
   have c3 : wr.cell? ⟨g, j * 4 + 3, none⟩ = some (.string (markB (m + 1 + 1 + 1))) := hat 3 _ rfl
   have HX : Hid (m + 4 ≤ 90000000 ∧ m + 4 = k + (cntL (fun _ : OpD => 4) (l.take (j + 1)) : Nat) ∧ a = some ⟨g, 0, none⟩ ∧ (markL mkOp (fun _ => 4) k l)[j]? = some (mkOp m x)) := ⟨by have := HR.out.2; have := HA.out.1; omega, by have := HA.out.1; omega, ha, hg⟩
   have m2 : m + 4 ≤ 90000000 := HX.out.1
   subst ha
   clear hx hcn hup hg hat
   go_wp2_with fail
   have HT : Hid (HeldOp3 w (some ⟨g, 0, none⟩) (markL mkOp (fun _ => 4) k l) g j (m + 1 + 1 + 1) wr.drew) := ⟨c3, (HR.out.1.below HA.out.2).below (Below.refl _ _).drew, HA.out.2.drew⟩
   clear c0 c1 c2 c3
   refine tame_region (HeldOp3 w (some ⟨g, 0, none⟩) (markL mkOp (fun _ => 4) k l) g j (m + 1 + 1 + 1)) (by kernel_rfl) HT.out ?_
   iterate 6 (refine yl (v := ?_) ?_ ?_; rotate_left; (intro w0 hS0; obtain ⟨q0, hH⟩ := hS0; go_simp; try with_reducible rfl); simp only [pt, sb, s0, s1])
   refine cl (.string (markB (m + 1 + 1 + 1))) 134 #[.int .i64 (m + 1 + 1 + 1)] ?_ ?_ ?_
   ·intro w0 hS0
    obtain ⟨q0, hH⟩ := hS0
    go_simp
    try with_reducible rfl
   ·intro w0 hS0
    refine (markText_any (m + 1 + 1 + 1) (by omega) (by omega) w0).mono ?_
    rintro e w2 ⟨rfl, hb2⟩
    exact ⟨rfl, (World.cell?_of_block (hb2.block g (block_lt_of_cell hS0.1))).trans hS0.1, hS0.2.out.1.below hb2, hS0.2.out.2.trans (hb2.mono hS0.2.out.2.size)⟩
   simp only [pt, sb, s0, s1]
   (refine yl (v := ?_) ?_ ?_; rotate_left; (intro w0 hS0; obtain ⟨q0, hH⟩ := hS0; go_simp; try with_reducible rfl); simp only [pt, sb, s0, s1])
   refine tame_done (by kernel_rfl) ?_ _
   intro w1 hS1
   have HZ : Hid (Below w.heap.size w w1) := hS1.2.out.2
   clear hS1 HT
   go_wp2
   go_roundw
   case rel => exact ⟨j + 1, m + 4, by omega, by go_num, by go_num, by omega, by omega, ⟨HX.out.2.1, HZ.out⟩⟩
   case measure => simp [intOf]; omega
  ·have i1 : ¬ (j : Int) < (l.length : Int) := by omega
   have HE : Hid (m = k + (cntL (fun _ : OpD => 4) l : Nat)) := by have h6 := HA.out.1; rw [List.take_of_length_le (by omega)] at h6; exact h6
   go_wp2
   go_ret
   exact ⟨ret_int HE.out, HA.out.2⟩
end Go.Proofs.YtkbcplnlehdjfaaGreat

/- Lists of the kind Proc, marked. (Made by mkmarkp.py.) -/
namespace Go.Proofs.YtkbcplnlehdjfaaGreat
open Go.RowKit
attribute [local go_sem ↓] Go.wp_at_zero Go.wp_at_succ
def cProc (x : ProcD) : Nat := 2 + cntL (fun _ : OpD => 4) x.prog + 9
def mkProcAt (k k2 : Int) (x : ProcD) : ProcD := { x with id := k, prio := k + 1, prog := markL mkOp (fun _ => 4) (k + 1 + 1) x.prog, state := k2, pc := k2 + 1, left := k2 + 1 + 1, wake := k2 + 1 + 1 + 1, on := k2 + 1 + 1 + 1 + 1, held := markB (k2 + 1 + 1 + 1 + 1 + 1), got := markB (k2 + 1 + 1 + 1 + 1 + 1 + 1), code := k2 + 1 + 1 + 1 + 1 + 1 + 1 + 1, since := k2 + 1 + 1 + 1 + 1 + 1 + 1 + 1 + 1 }
def mkProc (k : Int) (x : ProcD) : ProcD := mkProcAt k (k + 1 + 1 + (cntL (fun _ : OpD => 4) x.prog : Nat)) x
set_option maxRecDepth 100000 in
set_option maxHeartbeats 4000000 in
theorem markSProc_l (a : Option Addr) (l : List ProcD) (cap : Nat) (k : Int) (w : World) (base : Nat) (hl : l.length ≤ 1048576) (hk : ∀ x ∈ l, x.prog.length ≤ 1048576) (h0 : 1 ≤ k) (h1 : k + (cntL cProc l : Nat) ≤ 90000000) (ho : w.ownsRow base 43 12 (.slice a l.length cap) l.length (procK.flat l)) (hm : ∀ x ∈ l, procN.Mine w base x) (hn : (blk a ++ l.filterMap procN.kid).Nodup) :
  Calls Tryz.prog 128 #[.slice a l.length cap, .int .i64 k] w fun e w' => e = .returned (.int .i64 (k + (cntL cProc l : Nat))) ∧ w'.ownsRow base 43 12 (.slice a l.length cap) l.length (procK.flat (markL mkProc cProc k l)) ∧ (∀ y ∈ markL mkProc cProc k l, procN.Mine w' base y) ∧ KeptBut w w' (blk a ++ l.filterMap procN.kid) := by
 by_cases hz : l.length = 0
 ·have hl0 : l = [] := List.eq_nil_of_length_eq_zero hz
  subst hl0
  have HO : Hid (w.ownsRow base 43 12 (.slice a 0 cap) 0 (procK.flat [])) := ho
  clear ho
  go_enter Tryz.func128, Tryz.ntmps128
  go_wp2_with fail
  go_loopw [1, 5] (fun q i wr => q = .int .i64 k ∧ i = .int .i64 0 ∧ wr = w) (fun _ _ _ => 0)
  case atStart => exact ⟨rfl, rfl, rfl⟩
  case round =>
   obtain ⟨rfl, rfl, rfl⟩ := hrel
   go_wp2
   go_ret
   exact ⟨ret_int (by simp [cntL]), HO.out, (fun y hy => by cases hy), KeptBut.refl _ _⟩
 obtain ⟨g, rfl, hrow⟩ := RowAt.of_owns (K := procK) ho hz
 have HR : Hid (RowAt procK 43 w base g cap l ∧ Mines procN w base g l) := ⟨hrow, hm, hn⟩
 have HB : Hid (k + (cntL cProc l : Nat) ≤ 90000000 ∧ ∀ x ∈ l, x.prog.length ≤ 1048576) := ⟨h1, hk⟩
 clear ho hrow h1 hz hm hn hk
 go_enter Tryz.func128, Tryz.ntmps128
 go_wp2_with fail
 go_loopw [1, 5] (fun q i wr => ∃ (j : Nat) (m : Int), j ≤ l.length ∧ i = .int .i64 j ∧ q = .int .i64 m ∧ 1 ≤ m ∧ m ≤ 90000000 ∧ Hid (m = k + (cntL cProc (l.take j) : Nat) ∧ RowAt procK 43 wr base g cap (markL mkProc cProc k (l.take j) ++ l.drop j) ∧ Mines procN wr base g (markL mkProc cProc k (l.take j) ++ l.drop j) ∧ KeptBut w wr (g :: l.filterMap procN.kid))) (fun _ i _ => l.length - (intOf i).toNat)
 case atStart => exact ⟨0, k, Nat.zero_le _, rfl, rfl, h0, by have := HB.out.1; omega, ⟨by simp [cntL], HR.out.1, HR.out.2, KeptBut.refl _ _⟩⟩
 case round =>
  clear HR
  obtain ⟨j, m, hj, rfl, rfl, m0, m1, HA⟩ := hrel
  by_cases hlt : j < l.length
  ·have i0 : (0 : Int) ≤ (j : Int) := by omega
   have i1 : (j : Int) < (l.length : Int) := by omega
   obtain ⟨x, hx⟩ : ∃ x, l[j]? = some x := ⟨_, List.getElem?_eq_getElem hlt⟩
   have hdr : l.drop j = x :: l.drop (j + 1) := drop_at hx
   have hcn := cntL_take_lt (c := cProc) hx
   have hup := cntL_up (c := cProc) hx
   have hcx : cProc x = 2 + cntL (fun _ : OpD => 4) x.prog + 9 := rfl
   have HX : Hid (l[j]? = some x ∧ x.prog.length ≤ 1048576 ∧ m + 1 + 1 + (cntL (fun _ : OpD => 4) x.prog : Nat) + 9 ≤ 90000000 ∧ m + 1 + 1 + (cntL (fun _ : OpD => 4) x.prog : Nat) + 9 = k + (cntL cProc (l.take (j + 1)) : Nat)) := ⟨hx, HB.out.2 x (List.mem_of_getElem? hx), by have := HB.out.1; have := HA.out.1; omega, by have := HA.out.1; omega⟩
   have HW : Hid (RowAt procK 43 wr base g cap (markL mkProc cProc k (l.take j) ++ x :: l.drop (j + 1)) ∧ (markL mkProc cProc k (l.take j)).length = j) := ⟨by have := HA.out.2.1; rwa [hdr] at this, by rw [markL_length, List.length_take]; omega⟩
   have HM : Hid (Mines procN wr base g (markL mkProc cProc k (l.take j) ++ x :: l.drop (j + 1))) := by have := HA.out.2.2.1; rwa [hdr] at this
   have m2 : m + 1 + 1 ≤ 90000000 := by have := HX.out.2.2.1; omega
   have hgl : g < wr.heap.size := HW.out.1.lt
   clear hx hdr hcn hup hcx
   obtain ⟨⟨u0, c0⟩, f0⟩ : (∃ u, wr.cell? ⟨g, j * 12, none⟩ = some u) ∧ wr.frozen? ⟨g, j * 12, none⟩ = false := RowAt.at_mid HW.out.1 HW.out.2 (r := 0) (by decide : 0 < procK.n)
   obtain ⟨⟨u1, c1⟩, f1⟩ : (∃ u, wr.cell? ⟨g, j * 12 + 1, none⟩ = some u) ∧ wr.frozen? ⟨g, j * 12 + 1, none⟩ = false := RowAt.at_mid HW.out.1 HW.out.2 (r := 1) (by decide : 1 < procK.n)
   have c2 : wr.cell? ⟨g, j * 12 + 2, none⟩ = some (.slice x.progA x.prog.length x.progC) := (RowAt.mid_cell HW.out.1 HW.out.2 (r := 2) (by decide : 2 < procK.n))
   have h5 := RowAt.part (K := procK) (x := x) (y := ({ x with id := m, prio := m + 1 } : ProcD)) (j := 0) (vs := [.int .i64 m, .int .i64 (m + 1)]) HW.out.1 (by show 0 + 2 ≤ 12; omega) (fun r hr => by match r, hr with | 0, _ => rfl | 1, _ => rfl) (fun r hr hn => by match r, hr, hn with | 0, _, hn => exact absurd ⟨by omega, by show 0 < 0 + 2; omega⟩ hn | 1, _, hn => exact absurd ⟨by omega, by show 1 < 0 + 2; omega⟩ hn | 2, _, _ => rfl | 3, _, _ => rfl | 4, _, _ => rfl | 5, _, _ => rfl | 6, _, _ => rfl | 7, _, _ => rfl | 8, _, _ => rfl | 9, _, _ => rfl | 10, _, _ => rfl | 11, _, _ => rfl)
   rw [HW.out.2, show procK.n = 12 from rfl] at h5
   have h6 : KeptBut wr (setAllW wr g (j * 12) [.int .i64 m, .int .i64 (m + 1)]) [g] := KeptBut.set _ (by simp)
   simp only [setAllW, Nat.add_zero] at h5 h6
   have HS : Hid (RowAt procK 43 ((wr.setCell ⟨g, j * 12, none⟩ (.int .i64 m)).setCell ⟨g, j * 12 + 1, none⟩ (.int .i64 (m + 1))) base g cap (markL mkProc cProc k (l.take j) ++ ({ x with id := m, prio := m + 1 } : ProcD) :: l.drop (j + 1)) ∧ Mines procN ((wr.setCell ⟨g, j * 12, none⟩ (.int .i64 m)).setCell ⟨g, j * 12 + 1, none⟩ (.int .i64 (m + 1))) base g (markL mkProc cProc k (l.take j) ++ ({ x with id := m, prio := m + 1 } : ProcD) :: l.drop (j + 1)) ∧ KeptBut w ((wr.setCell ⟨g, j * 12, none⟩ (.int .i64 m)).setCell ⟨g, j * 12 + 1, none⟩ (.int .i64 (m + 1))) (g :: l.filterMap procN.kid)) := ⟨h5, (HM.out.keep h6).turn rfl ((HM.out.keep h6).mine x (by simp)), HA.out.2.2.2.trans (h6.mono (by simp))⟩
   clear h5 h6
   go_wp2_with fail
   generalize (wr.setCell ⟨g, j * 12, none⟩ (.int .i64 m)).setCell ⟨g, j * 12 + 1, none⟩ (.int .i64 (m + 1)) = W1 at *
   clear c2
   refine (markSOp_l x.progA x.prog x.progC (m + 1 + 1) W1 base HX.out.2.1 (by omega) (by have := HX.out.2.2.1; omega) (HS.out.2.1.mine ({ x with id := m, prio := m + 1 } : ProcD) (by simp))).mono ?_
   rintro e v ⟨rfl, hown, hkb⟩
   have HV : Hid (RowAt procK 43 v base g cap (markL mkProc cProc k (l.take j) ++ ({ x with id := m, prio := m + 1, prog := markL mkOp (fun _ => 4) (m + 1 + 1) x.prog } : ProcD) :: l.drop (j + 1)) ∧ Mines procN v base g (markL mkProc cProc k (l.take j) ++ ({ x with id := m, prio := m + 1, prog := markL mkOp (fun _ => 4) (m + 1 + 1) x.prog } : ProcD) :: l.drop (j + 1)) ∧ KeptBut w v (g :: l.filterMap procN.kid)) := by
    have hap := HS.out.2.1.apart (z := ({ x with id := m, prio := m + 1 } : ProcD)) (by simp)
    have h7 := HS.out.1.same (hkb.same g HS.out.1.lt hap)
    have hm7 : procN.Mine v base ({ x with id := m, prio := m + 1, prog := markL mkOp (fun _ => 4) (m + 1 + 1) x.prog } : ProcD) := by
     show v.ownsRow base _ 4 (.slice x.progA (markL mkOp (fun _ => 4) (m + 1 + 1) x.prog).length x.progC) (markL mkOp (fun _ => 4) (m + 1 + 1) x.prog).length (opK.flat (markL mkOp (fun _ => 4) (m + 1 + 1) x.prog))
     rw [markL_length]
     exact hown
    refine ⟨?_, HS.out.2.1.inner hkb rfl hm7, HS.out.2.2.trans (hkb.mono fun b hb => ?_)⟩
    ·exact RowAt.part (K := procK) (x := ({ x with id := m, prio := m + 1 } : ProcD)) (y := ({ x with id := m, prio := m + 1, prog := markL mkOp (fun _ => 4) (m + 1 + 1) x.prog } : ProcD)) (j := 0) (vs := []) h7 (by show 0 + 0 ≤ 12; omega) (fun r hr => absurd hr (by simp)) (fun r hr _ => by match r, hr with | 0, _ => rfl | 1, _ => rfl | 2, _ => (show some (Value.slice x.progA (markL mkOp (fun _ => 4) (m + 1 + 1) x.prog).length x.progC) = some (.slice x.progA x.prog.length x.progC); rw [markL_length]) | 3, _ => rfl | 4, _ => rfl | 5, _ => rfl | 6, _ => rfl | 7, _ => rfl | 8, _ => rfl | 9, _ => rfl | 10, _ => rfl | 11, _ => rfl)
    ·exact List.mem_cons_of_mem _ (List.mem_filterMap.2 ⟨x, List.mem_of_getElem? HX.out.1, mem_blk.1 hb⟩)
   obtain ⟨m', hm'⟩ : ∃ q : Int, q = m + 1 + 1 + (cntL (fun _ : OpD => 4) x.prog : Nat) := ⟨_, rfl⟩
   rw [← hm']
   have HQ : Hid (m' = m + 1 + 1 + (cntL (fun _ : OpD => 4) x.prog : Nat)) := hm'
   have p0 : 1 ≤ m' := by omega
   have p1 : m' + 9 ≤ 90000000 := by have := HX.out.2.2.1; omega
   clear hown hkb HS hm'
   obtain ⟨⟨u3, c3⟩, f3⟩ : (∃ u, v.cell? ⟨g, j * 12 + 3, none⟩ = some u) ∧ v.frozen? ⟨g, j * 12 + 3, none⟩ = false := RowAt.at_mid HV.out.1 HW.out.2 (r := 3) (by decide : 3 < procK.n)
   obtain ⟨⟨u4, c4⟩, f4⟩ : (∃ u, v.cell? ⟨g, j * 12 + 4, none⟩ = some u) ∧ v.frozen? ⟨g, j * 12 + 4, none⟩ = false := RowAt.at_mid HV.out.1 HW.out.2 (r := 4) (by decide : 4 < procK.n)
   obtain ⟨⟨u5, c5⟩, f5⟩ : (∃ u, v.cell? ⟨g, j * 12 + 5, none⟩ = some u) ∧ v.frozen? ⟨g, j * 12 + 5, none⟩ = false := RowAt.at_mid HV.out.1 HW.out.2 (r := 5) (by decide : 5 < procK.n)
   obtain ⟨⟨u6, c6⟩, f6⟩ : (∃ u, v.cell? ⟨g, j * 12 + 6, none⟩ = some u) ∧ v.frozen? ⟨g, j * 12 + 6, none⟩ = false := RowAt.at_mid HV.out.1 HW.out.2 (r := 6) (by decide : 6 < procK.n)
   obtain ⟨⟨u7, c7⟩, f7⟩ : (∃ u, v.cell? ⟨g, j * 12 + 7, none⟩ = some u) ∧ v.frozen? ⟨g, j * 12 + 7, none⟩ = false := RowAt.at_mid HV.out.1 HW.out.2 (r := 7) (by decide : 7 < procK.n)
   have h5 := RowAt.part (K := procK) (x := ({ x with id := m, prio := m + 1, prog := markL mkOp (fun _ => 4) (m + 1 + 1) x.prog } : ProcD)) (y := ({ x with id := m, prio := m + 1, prog := markL mkOp (fun _ => 4) (m + 1 + 1) x.prog, state := m', pc := m' + 1, left := m' + 1 + 1, wake := m' + 1 + 1 + 1, on := m' + 1 + 1 + 1 + 1 } : ProcD)) (j := 3) (vs := [.int .i64 (m'), .int .i64 (m' + 1), .int .i64 (m' + 1 + 1), .int .i64 (m' + 1 + 1 + 1), .int .i64 (m' + 1 + 1 + 1 + 1)]) HV.out.1 (by show 3 + 5 ≤ 12; omega) (fun r hr => by match r, hr with | 0, _ => rfl | 1, _ => rfl | 2, _ => rfl | 3, _ => rfl | 4, _ => rfl) (fun r hr hn => by match r, hr, hn with | 0, _, _ => rfl | 1, _, _ => rfl | 2, _, _ => rfl | 3, _, hn => exact absurd ⟨by omega, by show 3 < 3 + 5; omega⟩ hn | 4, _, hn => exact absurd ⟨by omega, by show 4 < 3 + 5; omega⟩ hn | 5, _, hn => exact absurd ⟨by omega, by show 5 < 3 + 5; omega⟩ hn | 6, _, hn => exact absurd ⟨by omega, by show 6 < 3 + 5; omega⟩ hn | 7, _, hn => exact absurd ⟨by omega, by show 7 < 3 + 5; omega⟩ hn | 8, _, _ => rfl | 9, _, _ => rfl | 10, _, _ => rfl | 11, _, _ => rfl)
   rw [HW.out.2, show procK.n = 12 from rfl] at h5
   have h6 : KeptBut v (setAllW v g (j * 12 + 3) [.int .i64 (m'), .int .i64 (m' + 1), .int .i64 (m' + 1 + 1), .int .i64 (m' + 1 + 1 + 1), .int .i64 (m' + 1 + 1 + 1 + 1)]) [g] := KeptBut.set _ (by simp)
   simp only [setAllW, Nat.add_assoc, Nat.reduceAdd] at h5 h6
   have HS1 : Hid (RowAt procK 43 (((((v.setCell ⟨g, j * 12 + 3, none⟩ (.int .i64 (m'))).setCell ⟨g, j * 12 + 4, none⟩ (.int .i64 (m' + 1))).setCell ⟨g, j * 12 + 5, none⟩ (.int .i64 (m' + 1 + 1))).setCell ⟨g, j * 12 + 6, none⟩ (.int .i64 (m' + 1 + 1 + 1))).setCell ⟨g, j * 12 + 7, none⟩ (.int .i64 (m' + 1 + 1 + 1 + 1))) base g cap (markL mkProc cProc k (l.take j) ++ ({ x with id := m, prio := m + 1, prog := markL mkOp (fun _ => 4) (m + 1 + 1) x.prog, state := m', pc := m' + 1, left := m' + 1 + 1, wake := m' + 1 + 1 + 1, on := m' + 1 + 1 + 1 + 1 } : ProcD) :: l.drop (j + 1)) ∧ Mines procN (((((v.setCell ⟨g, j * 12 + 3, none⟩ (.int .i64 (m'))).setCell ⟨g, j * 12 + 4, none⟩ (.int .i64 (m' + 1))).setCell ⟨g, j * 12 + 5, none⟩ (.int .i64 (m' + 1 + 1))).setCell ⟨g, j * 12 + 6, none⟩ (.int .i64 (m' + 1 + 1 + 1))).setCell ⟨g, j * 12 + 7, none⟩ (.int .i64 (m' + 1 + 1 + 1 + 1))) base g (markL mkProc cProc k (l.take j) ++ ({ x with id := m, prio := m + 1, prog := markL mkOp (fun _ => 4) (m + 1 + 1) x.prog, state := m', pc := m' + 1, left := m' + 1 + 1, wake := m' + 1 + 1 + 1, on := m' + 1 + 1 + 1 + 1 } : ProcD) :: l.drop (j + 1)) ∧ KeptBut w (((((v.setCell ⟨g, j * 12 + 3, none⟩ (.int .i64 (m'))).setCell ⟨g, j * 12 + 4, none⟩ (.int .i64 (m' + 1))).setCell ⟨g, j * 12 + 5, none⟩ (.int .i64 (m' + 1 + 1))).setCell ⟨g, j * 12 + 6, none⟩ (.int .i64 (m' + 1 + 1 + 1))).setCell ⟨g, j * 12 + 7, none⟩ (.int .i64 (m' + 1 + 1 + 1 + 1))) (g :: l.filterMap procN.kid)) := ⟨h5, (HV.out.2.1.keep h6).turn rfl ((HV.out.2.1.keep h6).mine ({ x with id := m, prio := m + 1, prog := markL mkOp (fun _ => 4) (m + 1 + 1) x.prog } : ProcD) (by simp)), HV.out.2.2.trans (h6.mono (by simp))⟩
   clear h5 h6
   go_wp2_with fail
   refine (markText_any (m' + 1 + 1 + 1 + 1 + 1) (by omega) (by omega) _).mono ?_
   rintro e v1 ⟨rfl, hb⟩
   have HT1 : Hid (RowAt procK 43 v1 base g cap (markL mkProc cProc k (l.take j) ++ ({ x with id := m, prio := m + 1, prog := markL mkOp (fun _ => 4) (m + 1 + 1) x.prog, state := m', pc := m' + 1, left := m' + 1 + 1, wake := m' + 1 + 1 + 1, on := m' + 1 + 1 + 1 + 1 } : ProcD) :: l.drop (j + 1)) ∧ Mines procN v1 base g (markL mkProc cProc k (l.take j) ++ ({ x with id := m, prio := m + 1, prog := markL mkOp (fun _ => 4) (m + 1 + 1) x.prog, state := m', pc := m' + 1, left := m' + 1 + 1, wake := m' + 1 + 1 + 1, on := m' + 1 + 1 + 1 + 1 } : ProcD) :: l.drop (j + 1)) ∧ KeptBut w v1 (g :: l.filterMap procN.kid)) := ⟨HS1.out.1.same (hb.block g HS1.out.1.lt), HS1.out.2.1.keep (KeptBut.of_below hb), HS1.out.2.2.trans (KeptBut.of_below hb)⟩
   clear hb
   obtain ⟨⟨u8, c8⟩, f8⟩ : (∃ u, v1.cell? ⟨g, j * 12 + 8, none⟩ = some u) ∧ v1.frozen? ⟨g, j * 12 + 8, none⟩ = false := RowAt.at_mid HT1.out.1 HW.out.2 (r := 8) (by decide : 8 < procK.n)
   have h5 := RowAt.part (K := procK) (x := ({ x with id := m, prio := m + 1, prog := markL mkOp (fun _ => 4) (m + 1 + 1) x.prog, state := m', pc := m' + 1, left := m' + 1 + 1, wake := m' + 1 + 1 + 1, on := m' + 1 + 1 + 1 + 1 } : ProcD)) (y := ({ x with id := m, prio := m + 1, prog := markL mkOp (fun _ => 4) (m + 1 + 1) x.prog, state := m', pc := m' + 1, left := m' + 1 + 1, wake := m' + 1 + 1 + 1, on := m' + 1 + 1 + 1 + 1, held := markB (m' + 1 + 1 + 1 + 1 + 1) } : ProcD)) (j := 8) (vs := [.string (markB (m' + 1 + 1 + 1 + 1 + 1))]) HT1.out.1 (by show 8 + 1 ≤ 12; omega) (fun r hr => by match r, hr with | 0, _ => rfl) (fun r hr hn => by match r, hr, hn with | 0, _, _ => rfl | 1, _, _ => rfl | 2, _, _ => rfl | 3, _, _ => rfl | 4, _, _ => rfl | 5, _, _ => rfl | 6, _, _ => rfl | 7, _, _ => rfl | 8, _, hn => exact absurd ⟨by omega, by show 8 < 8 + 1; omega⟩ hn | 9, _, _ => rfl | 10, _, _ => rfl | 11, _, _ => rfl)
   rw [HW.out.2, show procK.n = 12 from rfl] at h5
   have h6 : KeptBut v1 (setAllW v1 g (j * 12 + 8) [.string (markB (m' + 1 + 1 + 1 + 1 + 1))]) [g] := KeptBut.set _ (by simp)
   simp only [setAllW] at h5 h6
   have HS2 : Hid (RowAt procK 43 (v1.setCell ⟨g, j * 12 + 8, none⟩ (.string (markB (m' + 1 + 1 + 1 + 1 + 1)))) base g cap (markL mkProc cProc k (l.take j) ++ ({ x with id := m, prio := m + 1, prog := markL mkOp (fun _ => 4) (m + 1 + 1) x.prog, state := m', pc := m' + 1, left := m' + 1 + 1, wake := m' + 1 + 1 + 1, on := m' + 1 + 1 + 1 + 1, held := markB (m' + 1 + 1 + 1 + 1 + 1) } : ProcD) :: l.drop (j + 1)) ∧ Mines procN (v1.setCell ⟨g, j * 12 + 8, none⟩ (.string (markB (m' + 1 + 1 + 1 + 1 + 1)))) base g (markL mkProc cProc k (l.take j) ++ ({ x with id := m, prio := m + 1, prog := markL mkOp (fun _ => 4) (m + 1 + 1) x.prog, state := m', pc := m' + 1, left := m' + 1 + 1, wake := m' + 1 + 1 + 1, on := m' + 1 + 1 + 1 + 1, held := markB (m' + 1 + 1 + 1 + 1 + 1) } : ProcD) :: l.drop (j + 1)) ∧ KeptBut w (v1.setCell ⟨g, j * 12 + 8, none⟩ (.string (markB (m' + 1 + 1 + 1 + 1 + 1)))) (g :: l.filterMap procN.kid)) := ⟨h5, (HT1.out.2.1.keep h6).turn rfl ((HT1.out.2.1.keep h6).mine ({ x with id := m, prio := m + 1, prog := markL mkOp (fun _ => 4) (m + 1 + 1) x.prog, state := m', pc := m' + 1, left := m' + 1 + 1, wake := m' + 1 + 1 + 1, on := m' + 1 + 1 + 1 + 1 } : ProcD) (by simp)), HT1.out.2.2.trans (h6.mono (by simp))⟩
   clear h5 h6
   go_wp2_with fail
   refine (markText_any (m' + 1 + 1 + 1 + 1 + 1 + 1) (by omega) (by omega) _).mono ?_
   rintro e v2 ⟨rfl, hb⟩
   have HT2 : Hid (RowAt procK 43 v2 base g cap (markL mkProc cProc k (l.take j) ++ ({ x with id := m, prio := m + 1, prog := markL mkOp (fun _ => 4) (m + 1 + 1) x.prog, state := m', pc := m' + 1, left := m' + 1 + 1, wake := m' + 1 + 1 + 1, on := m' + 1 + 1 + 1 + 1, held := markB (m' + 1 + 1 + 1 + 1 + 1) } : ProcD) :: l.drop (j + 1)) ∧ Mines procN v2 base g (markL mkProc cProc k (l.take j) ++ ({ x with id := m, prio := m + 1, prog := markL mkOp (fun _ => 4) (m + 1 + 1) x.prog, state := m', pc := m' + 1, left := m' + 1 + 1, wake := m' + 1 + 1 + 1, on := m' + 1 + 1 + 1 + 1, held := markB (m' + 1 + 1 + 1 + 1 + 1) } : ProcD) :: l.drop (j + 1)) ∧ KeptBut w v2 (g :: l.filterMap procN.kid)) := ⟨HS2.out.1.same (hb.block g HS2.out.1.lt), HS2.out.2.1.keep (KeptBut.of_below hb), HS2.out.2.2.trans (KeptBut.of_below hb)⟩
   clear hb
   obtain ⟨⟨u9, c9⟩, f9⟩ : (∃ u, v2.cell? ⟨g, j * 12 + 9, none⟩ = some u) ∧ v2.frozen? ⟨g, j * 12 + 9, none⟩ = false := RowAt.at_mid HT2.out.1 HW.out.2 (r := 9) (by decide : 9 < procK.n)
   obtain ⟨⟨u10, c10⟩, f10⟩ : (∃ u, v2.cell? ⟨g, j * 12 + 10, none⟩ = some u) ∧ v2.frozen? ⟨g, j * 12 + 10, none⟩ = false := RowAt.at_mid HT2.out.1 HW.out.2 (r := 10) (by decide : 10 < procK.n)
   obtain ⟨⟨u11, c11⟩, f11⟩ : (∃ u, v2.cell? ⟨g, j * 12 + 11, none⟩ = some u) ∧ v2.frozen? ⟨g, j * 12 + 11, none⟩ = false := RowAt.at_mid HT2.out.1 HW.out.2 (r := 11) (by decide : 11 < procK.n)
   have h5 := RowAt.part (K := procK) (x := ({ x with id := m, prio := m + 1, prog := markL mkOp (fun _ => 4) (m + 1 + 1) x.prog, state := m', pc := m' + 1, left := m' + 1 + 1, wake := m' + 1 + 1 + 1, on := m' + 1 + 1 + 1 + 1, held := markB (m' + 1 + 1 + 1 + 1 + 1) } : ProcD)) (y := ({ x with id := m, prio := m + 1, prog := markL mkOp (fun _ => 4) (m + 1 + 1) x.prog, state := m', pc := m' + 1, left := m' + 1 + 1, wake := m' + 1 + 1 + 1, on := m' + 1 + 1 + 1 + 1, held := markB (m' + 1 + 1 + 1 + 1 + 1), got := markB (m' + 1 + 1 + 1 + 1 + 1 + 1), code := m' + 1 + 1 + 1 + 1 + 1 + 1 + 1, since := m' + 1 + 1 + 1 + 1 + 1 + 1 + 1 + 1 } : ProcD)) (j := 9) (vs := [.string (markB (m' + 1 + 1 + 1 + 1 + 1 + 1)), .int .i64 (m' + 1 + 1 + 1 + 1 + 1 + 1 + 1), .int .i64 (m' + 1 + 1 + 1 + 1 + 1 + 1 + 1 + 1)]) HT2.out.1 (by show 9 + 3 ≤ 12; omega) (fun r hr => by match r, hr with | 0, _ => rfl | 1, _ => rfl | 2, _ => rfl) (fun r hr hn => by match r, hr, hn with | 0, _, _ => rfl | 1, _, _ => rfl | 2, _, _ => rfl | 3, _, _ => rfl | 4, _, _ => rfl | 5, _, _ => rfl | 6, _, _ => rfl | 7, _, _ => rfl | 8, _, _ => rfl | 9, _, hn => exact absurd ⟨by omega, by show 9 < 9 + 3; omega⟩ hn | 10, _, hn => exact absurd ⟨by omega, by show 10 < 9 + 3; omega⟩ hn | 11, _, hn => exact absurd ⟨by omega, by show 11 < 9 + 3; omega⟩ hn)
   rw [HW.out.2, show procK.n = 12 from rfl] at h5
   have h6 : KeptBut v2 (setAllW v2 g (j * 12 + 9) [.string (markB (m' + 1 + 1 + 1 + 1 + 1 + 1)), .int .i64 (m' + 1 + 1 + 1 + 1 + 1 + 1 + 1), .int .i64 (m' + 1 + 1 + 1 + 1 + 1 + 1 + 1 + 1)]) [g] := KeptBut.set _ (by simp)
   simp only [setAllW, Nat.add_assoc, Nat.reduceAdd] at h5 h6
   have HS3 : Hid (RowAt procK 43 (((v2.setCell ⟨g, j * 12 + 9, none⟩ (.string (markB (m' + 1 + 1 + 1 + 1 + 1 + 1)))).setCell ⟨g, j * 12 + 10, none⟩ (.int .i64 (m' + 1 + 1 + 1 + 1 + 1 + 1 + 1))).setCell ⟨g, j * 12 + 11, none⟩ (.int .i64 (m' + 1 + 1 + 1 + 1 + 1 + 1 + 1 + 1))) base g cap (markL mkProc cProc k (l.take j) ++ ({ x with id := m, prio := m + 1, prog := markL mkOp (fun _ => 4) (m + 1 + 1) x.prog, state := m', pc := m' + 1, left := m' + 1 + 1, wake := m' + 1 + 1 + 1, on := m' + 1 + 1 + 1 + 1, held := markB (m' + 1 + 1 + 1 + 1 + 1), got := markB (m' + 1 + 1 + 1 + 1 + 1 + 1), code := m' + 1 + 1 + 1 + 1 + 1 + 1 + 1, since := m' + 1 + 1 + 1 + 1 + 1 + 1 + 1 + 1 } : ProcD) :: l.drop (j + 1)) ∧ Mines procN (((v2.setCell ⟨g, j * 12 + 9, none⟩ (.string (markB (m' + 1 + 1 + 1 + 1 + 1 + 1)))).setCell ⟨g, j * 12 + 10, none⟩ (.int .i64 (m' + 1 + 1 + 1 + 1 + 1 + 1 + 1))).setCell ⟨g, j * 12 + 11, none⟩ (.int .i64 (m' + 1 + 1 + 1 + 1 + 1 + 1 + 1 + 1))) base g (markL mkProc cProc k (l.take j) ++ ({ x with id := m, prio := m + 1, prog := markL mkOp (fun _ => 4) (m + 1 + 1) x.prog, state := m', pc := m' + 1, left := m' + 1 + 1, wake := m' + 1 + 1 + 1, on := m' + 1 + 1 + 1 + 1, held := markB (m' + 1 + 1 + 1 + 1 + 1), got := markB (m' + 1 + 1 + 1 + 1 + 1 + 1), code := m' + 1 + 1 + 1 + 1 + 1 + 1 + 1, since := m' + 1 + 1 + 1 + 1 + 1 + 1 + 1 + 1 } : ProcD) :: l.drop (j + 1)) ∧ KeptBut w (((v2.setCell ⟨g, j * 12 + 9, none⟩ (.string (markB (m' + 1 + 1 + 1 + 1 + 1 + 1)))).setCell ⟨g, j * 12 + 10, none⟩ (.int .i64 (m' + 1 + 1 + 1 + 1 + 1 + 1 + 1))).setCell ⟨g, j * 12 + 11, none⟩ (.int .i64 (m' + 1 + 1 + 1 + 1 + 1 + 1 + 1 + 1))) (g :: l.filterMap procN.kid)) := ⟨h5, (HT2.out.2.1.keep h6).turn rfl ((HT2.out.2.1.keep h6).mine ({ x with id := m, prio := m + 1, prog := markL mkOp (fun _ => 4) (m + 1 + 1) x.prog, state := m', pc := m' + 1, left := m' + 1 + 1, wake := m' + 1 + 1 + 1, on := m' + 1 + 1 + 1 + 1, held := markB (m' + 1 + 1 + 1 + 1 + 1) } : ProcD) (by simp)), HT2.out.2.2.trans (h6.mono (by simp))⟩
   clear h5 h6
   have HN : Hid (RowAt procK 43 (((v2.setCell ⟨g, j * 12 + 9, none⟩ (.string (markB (m' + 1 + 1 + 1 + 1 + 1 + 1)))).setCell ⟨g, j * 12 + 10, none⟩ (.int .i64 (m' + 1 + 1 + 1 + 1 + 1 + 1 + 1))).setCell ⟨g, j * 12 + 11, none⟩ (.int .i64 (m' + 1 + 1 + 1 + 1 + 1 + 1 + 1 + 1))) base g cap (markL mkProc cProc k (l.take (j + 1)) ++ l.drop (j + 1)) ∧ Mines procN (((v2.setCell ⟨g, j * 12 + 9, none⟩ (.string (markB (m' + 1 + 1 + 1 + 1 + 1 + 1)))).setCell ⟨g, j * 12 + 10, none⟩ (.int .i64 (m' + 1 + 1 + 1 + 1 + 1 + 1 + 1))).setCell ⟨g, j * 12 + 11, none⟩ (.int .i64 (m' + 1 + 1 + 1 + 1 + 1 + 1 + 1 + 1))) base g (markL mkProc cProc k (l.take (j + 1)) ++ l.drop (j + 1)) ∧ KeptBut w (((v2.setCell ⟨g, j * 12 + 9, none⟩ (.string (markB (m' + 1 + 1 + 1 + 1 + 1 + 1)))).setCell ⟨g, j * 12 + 10, none⟩ (.int .i64 (m' + 1 + 1 + 1 + 1 + 1 + 1 + 1))).setCell ⟨g, j * 12 + 11, none⟩ (.int .i64 (m' + 1 + 1 + 1 + 1 + 1 + 1 + 1 + 1))) (g :: l.filterMap procN.kid)) := by
    rw [markL_up HX.out.1, List.append_assoc, ← HA.out.1, show mkProc m x = mkProcAt m m' x by rw [HQ.out]; rfl]
    exact HS3.out
   go_wp2
   go_roundw
   case rel => exact ⟨j + 1, m' + 9, by omega, by go_num, by go_num, by omega, by omega, ⟨by have := HX.out.2.2.2; have := HQ.out; omega, HN.out.1, HN.out.2.1, HN.out.2.2⟩⟩
   case measure => simp [intOf]; omega
  ·have i1 : ¬ (j : Int) < (l.length : Int) := by omega
   have ej : j = l.length := by omega
   subst ej
   have HE : Hid (RowAt procK 43 wr base g cap (markL mkProc cProc k l) ∧ Mines procN wr base g (markL mkProc cProc k l) ∧ m = k + (cntL cProc l : Nat)) := by have h5 := HA.out.2.1; have h6 := HA.out.1; have h7 := HA.out.2.2.1; rw [List.take_length, List.drop_length, List.append_nil] at h5 h7; rw [List.take_length] at h6; exact ⟨h5, h7, h6⟩
   go_wp2
   go_ret
   refine ⟨ret_int HE.out.2.2, ?_, HE.out.2.1.mine, HA.out.2.2.2⟩
   have h7 := HE.out.1.owns
   rw [markL_length] at h7
   exact h7
end Go.Proofs.YtkbcplnlehdjfaaGreat

/- Lists of processes, read again behind their marks. (Made by mkhproc.py.) -/
namespace Go.Proofs.YtkbcplnlehdjfaaGreat
open Go.RowKit
attribute [local go_sem ↓] Go.wp_at_zero Go.wp_at_succ
def HeldP (w : World) (a : Option Addr) (l : List ProcD) (g j : Nat) (mm : Int) (w' : World) : Prop := (w'.cell? ⟨g, j * 12 + 8, none⟩ = some (.string (markB (mm + 1 + 1 + 1 + 1 + 1))) ∧ w'.cell? ⟨g, j * 12 + 9, none⟩ = some (.string (markB (mm + 1 + 1 + 1 + 1 + 1 + 1)))) ∧ Hid (procK.Lies w' a l ∧ Below w.heap.size w w')
set_option maxRecDepth 100000 in
set_option maxHeartbeats 4000000 in
theorem heldSProc_l (a : Option Addr) (l : List ProcD) (cap : Nat) (k : Int) (w : World) (hl : l.length ≤ 1048576) (hk : ∀ x ∈ l, x.prog.length ≤ 1048576) (h0 : 1 ≤ k) (h1 : k + (cntL cProc l : Nat) ≤ 90000000) (hr : procK.Lies w a (markL mkProc cProc k l)) :
  Calls Tryz.prog 135 #[.slice a l.length cap, .int .i64 k] w fun e w' => e = .returned (.int .i64 (k + (cntL cProc l : Nat))) ∧ Below w.heap.size w w' := by
 have HR : Hid (procK.Lies w a (markL mkProc cProc k l) ∧ k + (cntL cProc l : Nat) ≤ 90000000 ∧ ∀ x ∈ l, x.prog.length ≤ 1048576) := ⟨hr, h1, hk⟩
 clear hr h1 hk
 go_enter Tryz.func135, Tryz.ntmps135
 go_wp2_with fail
 go_loopw [1, 5] (fun q i wr => ∃ (j : Nat) (m : Int), j ≤ l.length ∧ i = .int .i64 j ∧ q = .int .i64 m ∧ 1 ≤ m ∧ m ≤ 90000000 ∧ Hid (m = k + (cntL cProc (l.take j) : Nat) ∧ Below w.heap.size w wr)) (fun _ i _ => l.length - (intOf i).toNat)
 case atStart => exact ⟨0, k, Nat.zero_le _, rfl, rfl, h0, by have := HR.out.2.1; omega, ⟨by simp [cntL], Below.refl _ _⟩⟩
 case round =>
  obtain ⟨j, m, hj, rfl, rfl, m0, m1, HA⟩ := hrel
  by_cases hlt : j < l.length
  ·have i0 : (0 : Int) ≤ (j : Int) := by omega
   have i1 : (j : Int) < (l.length : Int) := by omega
   obtain ⟨x, hx⟩ : ∃ x, l[j]? = some x := ⟨_, List.getElem?_eq_getElem hlt⟩
   have hcn := cntL_take_lt (c := cProc) hx
   have hup := cntL_up (c := cProc) hx
   have hcx : cProc x = 2 + cntL (fun _ : OpD => 4) x.prog + 9 := rfl
   have hg := markL_get (f := mkProc) (c := cProc) (k := k) hx
   rw [← HA.out.1] at hg
   have hls : procK.Lies wr a (markL mkProc cProc k l) := HR.out.1.below HA.out.2
   obtain ⟨g, ha, hat⟩ := hls.at hg
   obtain ⟨m', hm'⟩ : ∃ q : Int, q = m + 1 + 1 + (cntL (fun _ : OpD => 4) x.prog : Nat) := ⟨_, rfl⟩
   have hg2 : (markL mkProc cProc k l)[j]? = some (mkProcAt m m' x) := by rw [hg, hm']; rfl
   have c0 : wr.cell? ⟨g, j * 12, none⟩ = some (.int .i64 (m)) := hat 0 _ rfl
   have c1 : wr.cell? ⟨g, j * 12 + 1, none⟩ = some (.int .i64 (m + 1)) := hat 1 _ rfl
   have c2 : wr.cell? ⟨g, j * 12 + 2, none⟩ = some (.slice x.progA x.prog.length x.progC) := (hat 2 _ rfl).trans (show some (Value.slice x.progA (markL mkOp (fun _ => 4) (m + 1 + 1) x.prog).length x.progC) = _ by rw [markL_length])
   have HX : Hid (x.prog.length ≤ 1048576 ∧ m' + 9 ≤ 90000000 ∧ m' + 9 = k + (cntL cProc (l.take (j + 1)) : Nat) ∧ opK.Lies wr x.progA (markL mkOp (fun _ => 4) (m + 1 + 1) x.prog) ∧ (markL mkProc cProc k l)[j]? = some (mkProcAt m m' x) ∧ m' = m + 1 + 1 + (cntL (fun _ : OpD => 4) x.prog : Nat) ∧ procK.Lies wr (some ⟨g, 0, none⟩) (markL mkProc cProc k l)) := ⟨HR.out.2.2 x (List.mem_of_getElem? hx), by have := HR.out.2.1; have := HA.out.1; omega, by have := HA.out.1; omega, ⟨hls.2 _ (List.mem_of_getElem? hg) (x.progA, opK.flat (markL mkOp (fun _ => 4) (m + 1 + 1) x.prog)) (List.mem_singleton.2 rfl), fun _ _ r hr => by cases hr⟩, hg2, hm', ha ▸ hls⟩
   have p1 : m' + 9 ≤ 90000000 := HX.out.2.1
   have p0 : 1 ≤ m' := by omega
   have m2 : m + 1 + 1 ≤ 90000000 := by omega
   subst ha
   clear hx hcn hup hcx hg hat hls hg2 hm'
   go_wp2_with fail
   refine (heldSOp_l x.progA x.prog x.progC (m + 1 + 1) wr HX.out.1 (by omega) (by have := HX.out.2.1; have := HX.out.2.2.2.2.2.1; omega) HX.out.2.2.2.1).mono ?_
   rintro e v ⟨rfl, hb⟩
   rw [← HX.out.2.2.2.2.2.1]
   have HV : Hid (procK.Lies v (some ⟨g, 0, none⟩) (markL mkProc cProc k l) ∧ Below w.heap.size w v) := ⟨HX.out.2.2.2.2.2.2.below hb, HA.out.2.trans (hb.mono HA.out.2.size)⟩
   clear hb c0 c1 c2
   obtain ⟨g2, hg2, hat⟩ := HV.out.1.at HX.out.2.2.2.2.1
   cases hg2
   have c3 : v.cell? ⟨g, j * 12 + 3, none⟩ = some (.int .i64 (m')) := hat 3 _ rfl
   have c4 : v.cell? ⟨g, j * 12 + 4, none⟩ = some (.int .i64 (m' + 1)) := hat 4 _ rfl
   have c5 : v.cell? ⟨g, j * 12 + 5, none⟩ = some (.int .i64 (m' + 1 + 1)) := hat 5 _ rfl
   have c6 : v.cell? ⟨g, j * 12 + 6, none⟩ = some (.int .i64 (m' + 1 + 1 + 1)) := hat 6 _ rfl
   have c7 : v.cell? ⟨g, j * 12 + 7, none⟩ = some (.int .i64 (m' + 1 + 1 + 1 + 1)) := hat 7 _ rfl
   have c8 : v.cell? ⟨g, j * 12 + 8, none⟩ = some (.string (markB (m' + 1 + 1 + 1 + 1 + 1))) := hat 8 _ rfl
   have c9 : v.cell? ⟨g, j * 12 + 9, none⟩ = some (.string (markB (m' + 1 + 1 + 1 + 1 + 1 + 1))) := hat 9 _ rfl
   have c10 : v.cell? ⟨g, j * 12 + 10, none⟩ = some (.int .i64 (m' + 1 + 1 + 1 + 1 + 1 + 1 + 1)) := hat 10 _ rfl
   have c11 : v.cell? ⟨g, j * 12 + 11, none⟩ = some (.int .i64 (m' + 1 + 1 + 1 + 1 + 1 + 1 + 1 + 1)) := hat 11 _ rfl
   clear hat
   go_wp2_with fail
   have HT : Hid (HeldP w (some ⟨g, 0, none⟩) (markL mkProc cProc k l) g j m' v.drew) := ⟨⟨c8, c9⟩, HV.out.1.below (Below.refl _ _).drew, HV.out.2.drew⟩
   clear c3 c4 c5 c6 c7 c8 c9 c10 c11
   refine tame_region (HeldP w (some ⟨g, 0, none⟩) (markL mkProc cProc k l) g j m') (by kernel_rfl) HT.out ?_
   iterate 6 (refine yl (v := ?_) ?_ ?_; rotate_left; (intro w0 hS0; obtain ⟨⟨q8, q9⟩, hH⟩ := hS0; go_simp; try with_reducible rfl); simp only [pt, sb, s0, s1])
   refine cl (.string (markB (m' + 1 + 1 + 1 + 1 + 1))) 134 #[.int .i64 (m' + 1 + 1 + 1 + 1 + 1)] ?_ ?_ ?_
   ·intro w0 hS0
    obtain ⟨⟨q8, q9⟩, hH⟩ := hS0
    go_simp
    try with_reducible rfl
   ·intro w0 hS0
    refine (markText_any (m' + 1 + 1 + 1 + 1 + 1) (by omega) (by omega) w0).mono ?_
    rintro e w2 ⟨rfl, hb2⟩
    exact ⟨rfl, ⟨(World.cell?_of_block (hb2.block g (block_lt_of_cell hS0.1.1))).trans hS0.1.1, (World.cell?_of_block (hb2.block g (block_lt_of_cell hS0.1.1))).trans hS0.1.2⟩, hS0.2.out.1.below hb2, hS0.2.out.2.trans (hb2.mono hS0.2.out.2.size)⟩
   simp only [pt, sb, s0, s1]
   (refine yl (v := ?_) ?_ ?_; rotate_left; (intro w0 hS0; obtain ⟨⟨q8, q9⟩, hH⟩ := hS0; go_simp; try with_reducible rfl); simp only [pt, sb, s0, s1])
   refine tame_done (by kernel_rfl) ?_ _
   intro w1 hS1
   have HT1 : Hid (HeldP w (some ⟨g, 0, none⟩) (markL mkProc cProc k l) g j m' w1.drew) := ⟨hS1.1, hS1.2.out.1.below (Below.refl _ _).drew, hS1.2.out.2.drew⟩
   clear hS1 HT
   have HT := HT1
   clear HT1
   go_wp2_with fail
   refine tame_region (HeldP w (some ⟨g, 0, none⟩) (markL mkProc cProc k l) g j m') (by kernel_rfl) HT.out ?_
   iterate 6 (refine yl (v := ?_) ?_ ?_; rotate_left; (intro w0 hS0; obtain ⟨⟨q8, q9⟩, hH⟩ := hS0; go_simp; try with_reducible rfl); simp only [pt, sb, s0, s1])
   refine cl (.string (markB (m' + 1 + 1 + 1 + 1 + 1 + 1))) 134 #[.int .i64 (m' + 1 + 1 + 1 + 1 + 1 + 1)] ?_ ?_ ?_
   ·intro w0 hS0
    obtain ⟨⟨q8, q9⟩, hH⟩ := hS0
    go_simp
    try with_reducible rfl
   ·intro w0 hS0
    refine (markText_any (m' + 1 + 1 + 1 + 1 + 1 + 1) (by omega) (by omega) w0).mono ?_
    rintro e w2 ⟨rfl, hb2⟩
    exact ⟨rfl, ⟨(World.cell?_of_block (hb2.block g (block_lt_of_cell hS0.1.1))).trans hS0.1.1, (World.cell?_of_block (hb2.block g (block_lt_of_cell hS0.1.1))).trans hS0.1.2⟩, hS0.2.out.1.below hb2, hS0.2.out.2.trans (hb2.mono hS0.2.out.2.size)⟩
   simp only [pt, sb, s0, s1]
   (refine yl (v := ?_) ?_ ?_; rotate_left; (intro w0 hS0; obtain ⟨⟨q8, q9⟩, hH⟩ := hS0; go_simp; try with_reducible rfl); simp only [pt, sb, s0, s1])
   refine tame_done (by kernel_rfl) ?_ _
   intro w1 hS1
   obtain ⟨g2, hg2, hat⟩ := hS1.2.out.1.at HX.out.2.2.2.2.1
   cases hg2
   have c10 : w1.cell? ⟨g, j * 12 + 10, none⟩ = some (.int .i64 (m' + 1 + 1 + 1 + 1 + 1 + 1 + 1)) := hat 10 _ rfl
   have c11 : w1.cell? ⟨g, j * 12 + 11, none⟩ = some (.int .i64 (m' + 1 + 1 + 1 + 1 + 1 + 1 + 1 + 1)) := hat 11 _ rfl
   have HZ : Hid (Below w.heap.size w w1) := hS1.2.out.2
   clear hS1 hat HT
   go_wp2
   go_roundw
   case rel => exact ⟨j + 1, m' + 9, by omega, by go_num, by go_num, by omega, by omega, ⟨HX.out.2.2.1, HZ.out⟩⟩
   case measure => simp [intOf]; omega
  ·have i1 : ¬ (j : Int) < (l.length : Int) := by omega
   have HE : Hid (m = k + (cntL cProc l : Nat)) := by have h6 := HA.out.1; rw [List.take_of_length_le (by omega)] at h6; exact h6
   go_wp2
   go_ret
   exact ⟨ret_int HE.out, HA.out.2⟩
end Go.Proofs.YtkbcplnlehdjfaaGreat
