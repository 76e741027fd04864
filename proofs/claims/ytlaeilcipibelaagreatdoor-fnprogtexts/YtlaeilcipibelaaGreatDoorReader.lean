/- The reader that draws numbers out of the code: what each of its steps may answer, and what it leaves. -/
import Derived.Test.YtlaeilcipibelaaGreatDoorBase
import Derived.Deep.RegionHeld3
namespace Go.Proofs.YtlaeilcipibelaaGreatDoor
open Go.RowKit

/-- All blocks but r are as they were. -/
structure But (r : Nat) (w w' : World) : Prop where
  os : w'.os = w.os
  tape : w'.tape = w.tape
  output : w'.output = w.output
  size : w.heap.size ≤ w'.heap.size
  block : ∀ k, k < w.heap.size → k ≠ r → w'.heap[k]? = w.heap[k]?

theorem But.refl (r : Nat) (w : World) : But r w w := ⟨rfl, rfl, rfl, Nat.le_refl _, fun _ _ _ => rfl⟩
theorem But.trans {r : Nat} {a b c : World} (h : But r a b) (k : But r b c) : But r a c :=
  ⟨k.os.trans h.os, k.tape.trans h.tape, k.output.trans h.output, Nat.le_trans h.size k.size, fun i hi hr => (k.block i (Nat.lt_of_lt_of_le hi h.size) hr).trans (h.block i hi hr)⟩
theorem But.drew {r : Nat} {a w : World} (h : But r a w) : But r a w.drew := ⟨h.os, h.tape, h.output, h.size, h.block⟩
theorem But.setCell {r : Nat} {a w : World} (h : But r a w) (i : Nat) (v : Value) : But r a (w.setCell ⟨r, i, none⟩ v) :=
  h.trans ⟨rfl, rfl, rfl, by simp, fun k _ hr => Below.heap_setCell _ _ _ _ hr⟩
theorem But.of_below {r : Nat} {w w' : World} (h : Below w.heap.size w w') : But r w w' := ⟨h.os, h.tape, h.output, h.size, fun k hk _ => h.block k hk⟩
theorem But.below {r B : Nat} {w w' : World} (h : But r w w') (hr : B ≤ r) (hB : B ≤ w.heap.size) : Below B w w' := ⟨h.os, h.tape, h.output, h.size, fun k hk => h.block k (by omega) (by omega)⟩
theorem But.alloc {r : Nat} {a w : World} (h : But r a w) (o : Obj) : But r a (w.alloc o) := h.trans (But.of_below ((Below.refl _ _).alloc (Nat.le_refl _) _))
theorem But.cell {r : Nat} {w w' : World} (h : But r w w') {p : Addr} (hp : p.block < w.heap.size) (hr : p.block ≠ r) : w'.cell? p = w.cell? p := World.cell?_of_block (w := w) (h.block p.block hp hr)

/-- The code that is read, and the reader over it. -/
def Buf (w : World) (r : Nat) (a : Option Addr) (len : Nat) : Prop := len = 0 ∨ ∃ b off, a = some ⟨b, off, none⟩ ∧ b ≠ r ∧ ∀ i, i < len → ∃ v : Int, w.cell? ⟨b, off + i, none⟩ = some (.int .u8 v) ∧ 0 ≤ v ∧ v ≤ 255
def Rd (r : Nat) (a : Option Addr) (len cap : Nat) (w : World) : Prop := (∃ p : Nat, p ≤ len ∧ w.heap[r]? = some (.cells #[.slice a len cap, .int .i64 p] 51 (0, 0))) ∧ Buf w r a len

theorem Buf.but {w w' : World} {r : Nat} {a : Option Addr} {len : Nat} (h : Buf w r a len) (hb : But r w w') : Buf w' r a len := by
  rcases h with h | ⟨b, off, e, hr, hc⟩
  · exact .inl h
  · refine .inr ⟨b, off, e, hr, fun i hi => ?_⟩
    obtain ⟨v, hv, hv'⟩ := hc i hi
    exact ⟨v, (hb.cell (p := ⟨b, off + i, none⟩) (block_lt_of_cell hv) hr).trans hv, hv'⟩
theorem Rd.lt {r : Nat} {a : Option Addr} {len cap : Nat} {w : World} (h : Rd r a len cap w) : r < w.heap.size := by
  obtain ⟨⟨p, _, hp⟩, _⟩ := h
  exact (Array.getElem?_eq_some_iff.1 hp).1
theorem Rd.below {r : Nat} {a : Option Addr} {len cap : Nat} {w w' : World} (h : Rd r a len cap w) (hb : Below w.heap.size w w') : Rd r a len cap w' := by
  have hl := h.lt
  obtain ⟨⟨p, h1, hp⟩, hbuf⟩ := h
  exact ⟨⟨p, h1, (hb.block _ hl).trans hp⟩, hbuf.but (But.of_below hb)⟩

set_option maxHeartbeats 1000000 in
theorem next_any (r : Nat) (a : Option Addr) (len cap : Nat) (w : World) (hl : len ≤ 1048576) (h : Rd r a len cap w) :
    Calls Tryz.prog 39 #[.pointer (some ⟨r, 0, none⟩)] w fun e w' => ∃ v : Int, 0 ≤ v ∧ v ≤ 255 ∧ e = .returned (.int .i64 v) ∧ But r w w' ∧ Rd r a len cap w' := by
  obtain ⟨⟨p, hp, hr⟩, hb⟩ := h
  have c0 : w.cell? ⟨r, 0, none⟩ = some (.slice a len cap) := by simp [World.cell?, hr]
  have c1 : w.cell? ⟨r, 1, none⟩ = some (.int .i64 p) := by simp [World.cell?, hr]
  have f1 : w.frozen? ⟨r, 1, none⟩ = false := frozen_of_row w _ _ _ _ hr
  have HR : Hid (w.heap[r]? = some (.cells #[.slice a len cap, .int .i64 p] 51 (0, 0))) := hr
  have HB : Hid (Buf w r a len) := hb
  clear hr hb
  by_cases hlt : len ≤ p
  · have hd : decide ((len : Int) ≤ (p : Int)) = true := by simp; omega
    go_enter Tryz.func39, Tryz.ntmps39
    go_wp2
    go_region_held3 (fun w' => w'.cell? ⟨r, 0, none⟩ = some (.slice a len cap) ∧ w'.cell? ⟨r, 1, none⟩ = some (.int .i64 p)) (go_keep) (fail)
    go_wp2
    go_ret
    exact ⟨0, by omega, by omega, rfl, (But.refl _ _).drew, ⟨p, hp, HR.out⟩, HB.out.but (But.refl _ _).drew⟩
  · have hd : decide ((len : Int) ≤ (p : Int)) = false := by simp; omega
    rcases HB.out with h0 | ⟨b, off, rfl, hbr, hc⟩
    · omega
    obtain ⟨v, hv, v0, v1⟩ := hc p (by omega)
    have vl := block_lt_of_cell hv
    have hpw : IntKind.i64.wrap (p : Int) = (p : Int) := by rw [IntKind.wrap_i64]; omega
    have hbr' : ¬ r = b := fun e => hbr e.symm
    have i0 : (0 : Int) ≤ (p : Int) := by omega
    have i1 : (p : Int) < (len : Int) := by omega
    clear hc
    go_enter Tryz.func39, Tryz.ntmps39
    go_wp2
    go_region_held3 (fun w' => w'.cell? ⟨r, 0, none⟩ = some (.slice (some ⟨b, off, none⟩) len cap) ∧ w'.cell? ⟨r, 1, none⟩ = some (.int .i64 p)) (go_keep) (fail)
    go_wp2
    have k0 : (w.setCell ⟨r, 1, none⟩ (.int .i64 ((p : Int) + 1))).cell? ⟨r, 0, none⟩ = some (.slice (some ⟨b, off, none⟩) len cap) := by rw [World.cell?_setCell_other _ _ _ _ (by simp)]; exact c0
    have k1 : (w.setCell ⟨r, 1, none⟩ (.int .i64 ((p : Int) + 1))).cell? ⟨r, 1, none⟩ = some (.int .i64 ((p : Int) + 1)) := World.cell?_setCell_same' _ _ _ (by rw [c1]; rfl)
    have k2 : (w.setCell ⟨r, 1, none⟩ (.int .i64 ((p : Int) + 1))).cell? ⟨b, off + p, none⟩ = some (.int .u8 v) := by rw [World.cell?_setCell_other _ _ _ _ (by intro h; have := congrArg Addr.block h; simp at this; omega)]; exact hv
    have k3 : (w.setCell ⟨r, 1, none⟩ (.int .i64 ((p : Int) + 1))).heap[r]? = some (.cells #[.slice (some ⟨b, off, none⟩) len cap, .int .i64 ((p : Int) + 1)] 51 (0, 0)) := heap_setCell_same _ _ _ _ _ _ HR.out
    have HK : Hid ((w.setCell ⟨r, 1, none⟩ (.int .i64 ((p : Int) + 1))).heap[r]? = some (.cells #[.slice (some ⟨b, off, none⟩) len cap, .int .i64 ((p : Int) + 1)] 51 (0, 0)) ∧ But r w (w.setCell ⟨r, 1, none⟩ (.int .i64 ((p : Int) + 1)))) := ⟨k3, (But.refl _ _).setCell _ _⟩
    clear k3 c0 c1 hv f1
    generalize w.setCell ⟨r, 1, none⟩ (.int .i64 ((p : Int) + 1)) = W1 at *
    go_region_held3 (fun w' => w'.cell? ⟨r, 0, none⟩ = some (.slice (some ⟨b, off, none⟩) len cap) ∧ w'.cell? ⟨r, 1, none⟩ = some (.int .i64 ((p : Int) + 1)) ∧ w'.cell? ⟨b, off + p, none⟩ = some (.int .u8 v)) (go_keep) (fail)
    have hvw : IntKind.i64.wrap v = v := by rw [IntKind.wrap_i64]; omega
    go_wp2
    go_ret
    exact ⟨v, v0, v1, ret_int (by first | rfl | exact hvw), HK.out.2.drew.drew, ⟨p + 1, by omega, by have := HK.out.1; exact this⟩, HB.out.but HK.out.2.drew.drew⟩

set_option maxHeartbeats 1000000 in
theorem below_any (r : Nat) (a : Option Addr) (len cap : Nat) (n : Int) (w : World) (hl : len ≤ 1048576) (n0 : 2 ≤ n) (n1 : n ≤ 256) (h : Rd r a len cap w) :
    Calls Tryz.prog 25 #[.pointer (some ⟨r, 0, none⟩), .int .i64 n] w fun e w' => ∃ v : Int, 0 ≤ v ∧ v < n ∧ e = .returned (.int .i64 v) ∧ But r w w' ∧ Rd r a len cap w' := by
  have k1 : ¬ n ≤ 1 := by omega
  have k2 : ¬ n = 0 := by omega
  go_enter Tryz.func25, Tryz.ntmps25
  go_wp2_with fail
  refine (next_any r a len cap _ hl h).mono ?_
  rintro e w1 ⟨v, v0, v1, rfl, hb, hr⟩
  have m0 : 0 ≤ v % n := Int.emod_nonneg _ k2
  have m1 : v % n < n := Int.emod_lt_of_pos _ (by omega)
  go_wp2
  go_ret
  exact ⟨v % n, m0, m1, rfl, hb, hr⟩

set_option maxHeartbeats 1000000 in
theorem once_any (r : Nat) (a : Option Addr) (len cap : Nat) (n : Int) (w : World) (hl : len ≤ 1048576) (n0 : 2 ≤ n) (n1 : n ≤ 256) (h : Rd r a len cap w) :
    Calls Tryz.prog 27 #[.pointer (some ⟨r, 0, none⟩), .int .i64 n] w fun e w' => ∃ v : Bool, e = .returned (.bool v) ∧ But r w w' ∧ Rd r a len cap w' := by
  go_enter Tryz.func27, Tryz.ntmps27
  go_wp2_with fail
  refine (below_any r a len cap n _ hl n0 n1 h).mono ?_
  rintro e w1 ⟨v, v0, v1, rfl, hb, hr⟩
  go_wp2
  go_ret
  exact ⟨_, rfl, hb, hr⟩

set_option maxHeartbeats 1000000 in
theorem word_any (r : Nat) (a : Option Addr) (len cap : Nat) (w : World) (hl : len ≤ 1048576) (h : Rd r a len cap w) :
    Calls Tryz.prog 63 #[.pointer (some ⟨r, 0, none⟩)] w fun e w' => ∃ v : Int, e = .returned (.int .u64 v) ∧ But r w w' ∧ Rd r a len cap w' := by
  go_enter Tryz.func63, Tryz.ntmps63
  go_wp2
  go_loopw [3, 4] (fun x i wr => ∃ (k : Nat) (y : Int), k ≤ 8 ∧ i = .int .i64 k ∧ x = .int .u64 y ∧ But r w wr ∧ Rd r a len cap wr) (fun _ i _ => 8 - (intOf i).toNat)
  case atStart => exact ⟨0, 0, by omega, rfl, rfl, But.refl _ _, h⟩
  case round =>
    obtain ⟨k, y, hk, rfl, rfl, hb, hr⟩ := hrel
    by_cases hlt : k < 8
    · go_wp2_with fail
      refine (next_any r a len cap _ hl hr).mono ?_
      rintro e w1 ⟨v, v0, v1, rfl, hb1, hr1⟩
      go_wp2
      go_roundw
      case rel => exact ⟨k + 1, _, by omega, by go_num, rfl, hb.trans hb1, hr1⟩
      case measure => simp [intOf]; omega
    · go_wp2
      go_ret
      exact ⟨y, rfl, hb, hr⟩

set_option maxHeartbeats 1000000 in
theorem near_any (r : Nat) (a : Option Addr) (len cap : Nat) (low high : Int) (w : World) (hl : len ≤ 1048576) (l0 : -1 ≤ low) (l1 : low ≤ high) (l2 : high ≤ 1000000000) (h : Rd r a len cap w) :
    Calls Tryz.prog 54 #[.pointer (some ⟨r, 0, none⟩), .int .i64 low, .int .i64 high] w fun e w' => ∃ v : Int, e = .returned (.int .i64 v) ∧ But r w w' ∧ Rd r a len cap w' := by
  have k1 : ¬ high < low := by omega
  have k2 : ¬ high - low + 1 = 0 := by omega
  go_enter Tryz.func54, Tryz.ntmps54
  go_wp2_with fail
  refine (below_any r a len cap 8 _ hl (by omega) (by omega) h).mono ?_
  rintro e w1 ⟨v, v0, v1, rfl, hb, hr⟩
  by_cases e0 : v = 0
  · have b0 : (v == 0) = true := by simp [e0]
    go_wp2
    go_ret
    exact ⟨_, rfl, hb, hr⟩
  have b0 : (v == 0) = false := by simp [e0]
  by_cases e1 : v = 1
  · have b1 : (v == 1) = true := by simp [e1]
    go_wp2
    go_ret
    exact ⟨_, rfl, hb, hr⟩
  have b1 : (v == 1) = false := by simp [e1]
  go_wp2_with fail
  refine (word_any r a len cap _ hl hr).mono ?_
  rintro e w2 ⟨x, rfl, hb2, hr2⟩
  go_wp2
  go_ret
  exact ⟨_, rfl, hb.trans hb2, hr2⟩

set_option maxHeartbeats 1000000 in
theorem off_any (r : Nat) (a : Option Addr) (len cap : Nat) (low high : Int) (w : World) (hl : len ≤ 1048576) (l0 : -1 ≤ low) (l1 : low ≤ high) (l2 : high ≤ 1000000000) (h : Rd r a len cap w) :
    Calls Tryz.prog 42 #[.pointer (some ⟨r, 0, none⟩), .int .i64 low, .int .i64 high] w fun e w' => ∃ v : Int, e = .returned (.int .i64 v) ∧ But r w w' ∧ Rd r a len cap w' := by
  go_enter Tryz.func42, Tryz.ntmps42
  go_wp2_with fail
  refine (once_any r a len cap 24 _ hl (by omega) (by omega) h).mono ?_
  rintro e w1 ⟨v, rfl, hb, hr⟩
  cases v with
  | true =>
    have rl := hr.lt
    go_wp2_with fail
    refine (below_any r a len cap 4 _ hl (by omega) (by omega) (hr.below ((Below.refl _ _).alloc (Nat.le_refl _) _))).mono ?_
    rintro e w2 ⟨v, v0, v1, rfl, hb2, hr2⟩
    obtain ⟨n, rfl⟩ := Int.eq_ofNat_of_zero_le v0
    have hn : n < 4 := by omega
    have hy : ∃ y, w2.cell? ⟨w1.heap.size, n, none⟩ = some (.int .i64 y) := by
      rw [hb2.cell (p := ⟨w1.heap.size, n, none⟩) (by simp) (by simp; omega), World.cell?_alloc_new]
      match n, hn with
      | 0, _ => exact ⟨_, rfl⟩
      | 1, _ => exact ⟨_, rfl⟩
      | 2, _ => exact ⟨_, rfl⟩
      | 3, _ => exact ⟨_, rfl⟩
    obtain ⟨y, hy⟩ := hy
    have HB : Hid (But r w w2) := (hb.alloc _).trans hb2
    clear hb2 hb
    go_wp2
    go_ret
    exact ⟨y, rfl, HB.out, hr2⟩
  | false =>
    go_wp2_with fail
    refine (near_any r a len cap low high _ hl l0 l1 l2 hr).mono ?_
    rintro e w2 ⟨x, rfl, hb2, hr2⟩
    go_wp2
    go_ret
    exact ⟨_, rfl, hb.trans hb2, hr2⟩

theorem ownsRow_but {w w' : World} {base e size n r : Nat} {v : Value} {xs : List Value} (h : w.ownsRow base e size v n xs) (hb : But r w w') (hr : r < base) : w'.ownsRow base e size v n xs := by
  obtain ⟨h1, h2⟩ := h
  refine ⟨h1, ?_⟩
  rcases h2 with h2 | ⟨g, cap, cur, hv, hg, hh, rest⟩
  · exact .inl h2
  · exact .inr ⟨g, cap, cur, hv, hg, (hb.block g (Array.getElem?_eq_some_iff.1 hh).1 (by omega)).trans hh, rest⟩
theorem But.grown {r : Nat} {a w w' : World} {row : Option Nat} (h : But r a w) (hg : w.grownBy w' row) (hr : ∀ k, row = some k → a.heap.size ≤ k) : But r a w' :=
  ⟨hg.os.trans h.os, hg.tape.trans h.tape, hg.output.trans h.output, Nat.le_trans h.size hg.size, fun k hk hkr =>
    (hg.block k (Nat.lt_of_lt_of_le hk h.size) (fun e => by have := hr k e.symm; omega)).trans (h.block k hk hkr)⟩
theorem But.undrew {r : Nat} {w w' : World} (h : But r w.drew w') : But r w w' := ⟨h.os, h.tape, h.output, h.size, h.block⟩
theorem But.setFar {r : Nat} {a w : World} (h : But r a w) (b i : Nat) (v : Value) (hb : a.heap.size ≤ b) : But r a (w.setCell ⟨b, i, none⟩ v) :=
  ⟨h.os, h.tape, h.output, by simpa using h.size, fun k hk hr => (Below.heap_setCell _ _ _ _ (by simp; omega)).trans (h.block k hk hr)⟩

end Go.Proofs.YtlaeilcipibelaaGreatDoor
