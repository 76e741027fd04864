/- Rows of ops: held against each other, marked, and read again. -/
import Derived.Test.YtlaeilcipibelaaDoorOpRd
import Derived.Test.YtlaeilcipibelaaDoorProgSpec
import Derived.Test.YtlaeilcipibelaaDoorDec
import Derived.Deep.RegionHeld3
namespace Go.Proofs.YtlaeilcipibelaaDoor
open Go.RowKit

def kOf (os : List OpD) (i : Nat) : Int := (os[i]?.getD (0, 0, 0, ⟨#[]⟩)).1
def nOf (os : List OpD) (i : Nat) : Int := (os[i]?.getD (0, 0, 0, ⟨#[]⟩)).2.1
def mOf (os : List OpD) (i : Nat) : Int := (os[i]?.getD (0, 0, 0, ⟨#[]⟩)).2.2.1
def sOf (os : List OpD) (i : Nat) : ByteArray := (os[i]?.getD (0, 0, 0, ⟨#[]⟩)).2.2.2
/-- The ops of a list lie in block g. -/
def ListAt (w : World) (g : Nat) (os : List OpD) : Prop := OpsAt w g os.length (kOf os) (nOf os) (mOf os) (sOf os)
/-- A list of ops, wherever it lies; a list of none may lie nowhere. -/
def LiesO (w : World) (a : Option Addr) (os : List OpD) : Prop := 0 < os.length → ∃ g, a = some ⟨g, 0, none⟩ ∧ ListAt w g os
theorem LiesO.below {w w' : World} {a : Option Addr} {os : List OpD} (h : LiesO w a os) (hb : Below w.heap.size w w') : LiesO w' a os := fun hl => by
  obtain ⟨g, rfl, hw⟩ := h hl
  exact ⟨g, rfl, OpsAt.below hw hb⟩
theorem LiesO.low {w w' : World} {a : Option Addr} {base : Nat} {os : List OpD} (h : LiesO w a os) (ha : ∀ q, a = some q → q.block < base) (hb : Below base w w') : LiesO w' a os := fun hl => by
  obtain ⟨g, rfl, hw⟩ := h hl
  exact ⟨g, rfl, OpsAt.of_block hw (hb.block g (ha _ rfl))⟩

set_option maxHeartbeats 1000000 in
theorem eqOpS_own (a a' : Option Addr) (cap cap' : Nat) (os : List OpD) (w : World) (hl : os.length ≤ 1048576) (hr : LiesO w a os) (hr' : LiesO w a' os) :
    Calls Tryd.prog 26 #[.slice a os.length cap, .slice a' os.length cap'] w fun e w' => e = .returned (.bool true) ∧ Below w.heap.size w w' := by
  have HR : Hid (LiesO w a os ∧ LiesO w a' os) := ⟨hr, hr'⟩
  clear hr hr'
  go_enter Tryd.func26, Tryd.ntmps26
  go_wp2
  go_loopw [5] (fun i wr => ∃ k : Nat, k ≤ os.length ∧ i = .int .i64 k ∧ Below w.heap.size w wr) (fun i _ => os.length - (intOf i).toNat)
  case atStart => exact ⟨0, Nat.zero_le _, rfl, Below.refl _ _⟩
  case round =>
    obtain ⟨k, hk, rfl, hbel⟩ := hrel
    by_cases hlt : k < os.length
    · obtain ⟨g, rfl, hra⟩ := (HR.out.1.below hbel) (by omega)
      obtain ⟨g', rfl, hrb⟩ := (HR.out.2.below hbel) (by omega)
      have c0 := OpsAt.c0 hra hlt
      have c1 := OpsAt.c1 hra hlt
      have c2 := OpsAt.c2 hra hlt
      have c3 := OpsAt.c3 hra hlt
      have d0 := OpsAt.c0 hrb hlt
      have d1 := OpsAt.c1 hrb hlt
      have d2 := OpsAt.c2 hrb hlt
      have d3 := OpsAt.c3 hrb hlt
      clear hra hrb HR
      have i0 : (0 : Int) ≤ (k : Int) := by omega
      have i1 : (k : Int) < (os.length : Int) := by omega
      have hgr : g < wr.heap.size := block_lt_of_cell c0
      have hgr' : g' < wr.heap.size := block_lt_of_cell d0
      generalize kOf os k = K at *
      generalize nOf os k = N at *
      generalize mOf os k = M at *
      generalize sOf os k = S at *
      go_wp2_with fail
      go_region_held3 (fun w' => w'.cell? ⟨g, k * 4, none⟩ = some (.int .i64 K) ∧ w'.cell? ⟨g, k * 4 + 1, none⟩ = some (.int .i64 N) ∧ w'.cell? ⟨g, k * 4 + 2, none⟩ = some (.int .i64 M) ∧ w'.cell? ⟨g, k * 4 + 3, none⟩ = some (.string S) ∧ w'.cell? ⟨g', k * 4, none⟩ = some (.int .i64 K) ∧ w'.cell? ⟨g', k * 4 + 1, none⟩ = some (.int .i64 N) ∧ w'.cell? ⟨g', k * 4 + 2, none⟩ = some (.int .i64 M) ∧ w'.cell? ⟨g', k * 4 + 3, none⟩ = some (.string S)) (first | go_keep | exact ⟨(hb1.cell (p := ⟨g, k * 4, none⟩) hgr).trans c0, (hb1.cell (p := ⟨g, k * 4 + 1, none⟩) hgr).trans c1, (hb1.cell (p := ⟨g, k * 4 + 2, none⟩) hgr).trans c2, (hb1.cell (p := ⟨g, k * 4 + 3, none⟩) hgr).trans c3, (hb1.cell (p := ⟨g', k * 4, none⟩) hgr').trans d0, (hb1.cell (p := ⟨g', k * 4 + 1, none⟩) hgr').trans d1, (hb1.cell (p := ⟨g', k * 4 + 2, none⟩) hgr').trans d2, (hb1.cell (p := ⟨g', k * 4 + 3, none⟩) hgr').trans d3⟩) (first | (go_at_call 58; refine (eqOp_same _ _ _ _ _).mono ?_; rintro e w1 ⟨rfl, hb1⟩))
      clear c0 c1 c2 c3 d0 d1 d2 d3
      go_wp2
      go_roundw
      case rel => exact ⟨k + 1, by omega, by go_num, hbel.drew.trans (hb1.mono hbel.size)⟩
      case measure => simp [intOf]; omega
    · go_wp2
      go_ret
      exact ⟨rfl, hbel⟩

/-- The text that a mark is. -/
def markB (n : Int) : ByteArray := ⟨#[109]⟩ ++ decB n
def digs (a : Int) : List UInt8 := if a = 0 then [] else Lib.decDigits a.toNat
theorem digs_step {a n : Int} {s : ByteArray} (h0 : 0 < a) (h : digs a ++ s.data.toList = Lib.decDigits n.toNat) : digs (a / 10) ++ ((⟨#[UInt8.ofNat (48 + a % 10).toNat]⟩ : ByteArray) ++ s).data.toList = Lib.decDigits n.toNat := by
  rw [digs, if_neg (by omega)] at h
  have e2 : (48 + a % 10).toNat = 48 + a.toNat % 10 := by omega
  by_cases h10 : 10 ≤ a
  · rw [digs, if_neg (by omega)]
    exact dec_step h10 h
  · rw [digs, if_pos (by omega), ← h, Lib.decDigits, dif_pos (by omega), e2, Nat.mod_eq_of_lt (by omega)]
    simp [ByteArray.data_append]
theorem markB_of {n : Int} {s : ByteArray} (h0 : 1 ≤ n) (h : s.data.toList = Lib.decDigits n.toNat) : (⟨#[109]⟩ : ByteArray) ++ s = markB n := by
  have : s = decB n := bytes_eq (by rw [h, decB_list, itoa_pos (by omega)])
  rw [this, markB]

set_option maxHeartbeats 1000000 in
theorem markText_any (n : Int) (hn0 : 1 ≤ n) (hn : n ≤ 9999999) (w : World) :
    Calls Tryd.prog 61 #[.int .i64 n] w fun e w' => e = .returned (.string (markB n)) ∧ Below w.heap.size w w' := by
  have h0 : ¬ n ≤ 0 := by omega
  have hcv := conv_one
  have HN : Hid (1 ≤ n ∧ n ≤ 9999999) := ⟨hn0, hn⟩
  clear hn0 hn
  go_enter Tryd.func61, Tryd.ntmps61
  go_wp2
  clear h0
  go_loopw [0, 3] (fun i t wr => ∃ (a : Int) (s : ByteArray), i = .int .i64 a ∧ t = .string s ∧ Hid (0 ≤ a ∧ a ≤ n ∧ digs a ++ s.data.toList = Lib.decDigits n.toNat) ∧ Below w.heap.size w wr) (fun i _ _ => (intOf i).toNat)
  case atStart => exact ⟨n, ⟨#[]⟩, rfl, rfl, ⟨by have := HN.out; omega, Int.le_refl _, by rw [digs, if_neg (by have := HN.out; omega)]; simp⟩, Below.refl _ _⟩
  case round =>
    obtain ⟨a, s, rfl, rfl, HD, hbel⟩ := hrel
    have hs : ¬ 9223372036854775807 < 1 + s.size := by
      have h1 := congrArg List.length HD.out.2.2
      have h2 := dec_len10 (n := n) (by have := HN.out; omega)
      have h3 : s.data.toList.length = s.size := by simp
      rw [List.length_append] at h1
      omega
    by_cases h10 : 0 < a
    · have e1 : wrap64 (48 + a.tmod 10) % 256 = 48 + a % 10 := by
        have := HD.out
        rw [Int.tmod_eq_emod_of_nonneg (by omega)]
        unfold wrap64; omega
      have e2 : a.tdiv 10 = a / 10 := Int.tdiv_eq_ediv_of_nonneg (by have := HD.out; omega)
      have e3 : wrap64 (a / 10) = a / 10 := by have := HD.out; have := HN.out; unfold wrap64; omega
      go_wp2
      go_roundw
      case rel =>
        refine ⟨a / 10, _, by rw [e3], rfl, ?_, hbel.alloc hbel.size _⟩
        have HD' := HD.out
        refine ⟨by omega, by omega, ?_⟩
        exact digs_step h10 HD'.2.2
      case measure => simp only [intOf]; have := HD.out; omega
    · have HS : Hid (s.data.toList = Lib.decDigits n.toNat) := by
        have h := HD.out
        have h2 := h.2.2
        rw [digs, if_pos (by omega)] at h2
        rw [List.nil_append] at h2
        exact h2
      go_wp2
      go_ret
      refine ⟨?_, hbel⟩
      show Ending.returned (.string ((⟨#[109]⟩ : ByteArray) ++ s)) = _
      rw [markB_of HN.out.1 HS.out]

/-- What a mark writes into the j-th cell. -/
def markV (j : Nat) : Value := if j % 4 = 3 then .string (markB (1 + j)) else .int .i64 (1 + j)
theorem markV_i {j : Nat} {m : Int} (h : j % 4 ≠ 3) (hm : m = 1 + j) : Value.int .i64 m = markV j := by rw [markV, if_neg h, hm]
theorem markV_s {j : Nat} {m : Int} (h : j % 4 = 3) (hm : m = 1 + j) : Value.string (markB m) = markV j := by rw [markV, if_pos h, hm]
/-- The first k cells are marked. -/
structure MarkO (w wr : World) (base g len k : Nat) : Prop where
  row : ∃ cur : Array Value, wr.heap[g]? = some (.cells cur 85 (0, 0)) ∧ len * 4 ≤ cur.size ∧ ∀ j, j < k → cur[j]? = some (markV j)
  bel : Below base w wr
  oth : ∀ k, k < w.heap.size → k ≠ g → wr.heap[k]? = w.heap[k]?
theorem MarkO.at_ {w wr : World} {base g len k : Nat} (h : MarkO w wr base g len k) : (∃ u : Nat → Value, ∀ j, j < len * 4 → wr.cell? ⟨g, j, none⟩ = some (u j)) ∧ ∀ j, wr.frozen? ⟨g, j, none⟩ = false := by
  obtain ⟨cur, h1, h2, h3⟩ := h.row
  refine ⟨⟨fun j => cur.getD j undef, fun j hj => ?_⟩, fun j => frozen_of_row _ _ _ _ _ h1⟩
  rw [cell_of_row _ _ _ _ _ _ h1]
  simp [Array.getD, show j < cur.size by omega]
theorem MarkO.lt {w wr : World} {base g len k : Nat} (h : MarkO w wr base g len k) : g < wr.heap.size := by
  obtain ⟨cur, h1, _⟩ := h.row
  exact (Array.getElem?_eq_some_iff.1 h1).1
theorem MarkO.below {w wr w' : World} {base g len k : Nat} (h : MarkO w wr base g len k) (hb : Below wr.heap.size wr w') (hw : w.heap.size ≤ wr.heap.size) (hB : base ≤ wr.heap.size) : MarkO w w' base g len k := by
  obtain ⟨cur, h1, h2⟩ := h.row
  exact ⟨⟨cur, (hb.block g h.lt).trans h1, h2⟩, h.bel.trans (hb.mono hB), fun k hk hne => (hb.block k (by omega)).trans (h.oth k hk hne)⟩
theorem MarkO.set {w wr : World} {base g len k : Nat} (h : MarkO w wr base g len k) (hk : k < len * 4) (hg : base ≤ g) {v : Value} (hv : v = markV k) : MarkO w (wr.setCell ⟨g, k, none⟩ v) base g len (k + 1) := by
  subst hv
  obtain ⟨cur, h1, h2, h3⟩ := h.row
  refine ⟨⟨_, heap_setCell_same _ _ _ _ _ _ h1, by simp; omega, fun j hj => ?_⟩, h.bel.setCell hg _, fun k hk hne => (Below.heap_setCell _ _ _ _ (by simpa using hne)).trans (h.oth k hk hne)⟩
  by_cases e : j = k
  · subst e
    simp [show j < cur.size by omega]
  · rw [Array.getElem?_setIfInBounds_ne (by omega)]
    exact h3 j (by omega)

end Go.Proofs.YtlaeilcipibelaaDoor
