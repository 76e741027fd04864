/- The program's reader of words: how each of its parts ends, in a value or in giving up. -/
import Derived.Test.YtlaeilcipibelaaGreatDoorOpRd
import Derived.Test.YtlaeilcipibelaaGreatDoorDecRd
import Derived.Test.YtlaeilcipibelaaGreatDoorCutLay
import Derived.WalkLawsBesides
import Derived.Deep.RegionHeld3
namespace Go.Proofs.YtlaeilcipibelaaGreatDoor
open Go.RowKit

/-- Giving up. -/
def upC : List PanicEntry := [{ v := .iface 9 (.string ⟨#[110, 111, 116, 32, 116, 104, 101, 32, 116, 101, 120, 116, 32, 111, 102, 32, 97, 32, 112, 114, 111, 103, 114, 97, 109]⟩), recovered := false }]
theorem giveUp_any (w : World) : Calls Tryz.prog 47 #[] w fun e w' => e = .panicked upC ∧ w' = w := by
  go_enter Tryz.func47, Tryz.ntmps47
  go_wp2
  exact ⟨rfl, rfl, rfl⟩

theorem indexByte_no {c : UInt8} : ∀ {l : List UInt8}, c ∉ l → Lib.indexByte l c = -1
  | [], _ => by simp [Lib.indexByte]
  | x :: l, h => by
    have h1 : ¬ x = c := fun e => h (by simp [e])
    have h2 := indexByte_no (c := c) (l := l) (fun e => h (List.mem_cons_of_mem _ e))
    rw [Lib.indexByte, if_neg (by simpa using h1), h2]
    rfl
theorem libCut_is (s : ByteArray) (c : UInt8) : CutIs s c ⟨(Lib.cut s.data.toList [c]).1.toArray⟩ ⟨(Lib.cut s.data.toList [c]).2.1.toArray⟩ (Lib.cut s.data.toList [c]).2.2 := by
  by_cases hm : c ∈ s.data.toList
  · obtain ⟨a, b, e, ha⟩ := first_of hm
    have hi : Lib.index s.data.toList [c] = a.length := by rw [Lib.index_one, e]; exact indexByte_first ha
    have e1 : ((a.length : Int)).toNat = a.length := Int.toNat_natCast _
    have hc : Lib.cut s.data.toList [c] = (a, b, true) := by
      rw [Lib.cut, if_pos (by rw [hi]; omega), hi, e1, e, List.take_left, show a.length + [c].length = a.length + 1 from rfl]
      rw [← List.drop_drop, List.drop_left]
      rfl
    rw [hc]
    exact .inl ⟨rfl, by simpa using e, by simpa using ha⟩
  · have hi : Lib.index s.data.toList [c] = -1 := by rw [Lib.index_one]; exact indexByte_no hm
    have hc : Lib.cut s.data.toList [c] = (s.data.toList, [], false) := by
      rw [Lib.cut, if_neg (by rw [hi]; omega)]
    rw [hc]
    exact .inr ⟨rfl, bytes_eq rfl, rfl, hm⟩
theorem cut_any (s : ByteArray) (c : UInt8) (w : World) (hs : s.size ≤ 1048576) (he : Env w) :
    Calls Tryz.prog 71 #[.string s, .string ⟨#[c]⟩] w fun e w' => ∃ a b f, e = .returned (.tuple #[.string a, .string b, .bool f]) ∧ CutIs s c a b f ∧ Below w.heap.size w w' := by
  obtain ⟨m, hm⟩ := he.max
  refine (show Calls Tryz.prog 71 _ w _ from Go.Proofs.Any.strings_Cut Tryz.lays145 s ⟨#[c]⟩ m w (by omega) hm).mono ?_
  rintro e w' ⟨h1, n, h2⟩
  refine ⟨_, _, _, h1, libCut_is s c, ?_⟩
  subst h2
  exact ⟨rfl, rfl, rfl, Nat.le_refl _, fun _ _ => rfl⟩

/-- The library's variables and the program's words. -/
structure EnvW (w : World) : Prop where
  env : Env w
  words : NamesAt w 0
theorem EnvW.below {w w' : World} (h : EnvW w) (hb : Below w.heap.size w w') : EnvW w' := ⟨h.env.below hb, h.words.below hb⟩

/-- Of what was there the block p alone may have turned. -/
structure Bt (p : Nat) (w w' : World) : Prop where
  size : w.heap.size ≤ w'.heap.size
  block : ∀ k, k < w.heap.size → k ≠ p → w'.heap[k]? = w.heap[k]?
theorem Bt.of_below {p : Nat} {w w' : World} (h : Below w.heap.size w w') : Bt p w w' := ⟨h.size, fun k hk _ => h.block k hk⟩
theorem Bt.trans {p : Nat} {a b c : World} (h : Bt p a b) (k : Bt p b c) : Bt p a c := ⟨Nat.le_trans h.size k.size, fun i hi hne => (k.block i (Nat.lt_of_lt_of_le hi h.size) hne).trans (h.block i hi hne)⟩

/-- A reader of words lies in block p, behind all that the world w0 had. -/
structure RdOn (w0 : World) (p : Nat) (w : World) (s : ByteArray) (f : Bool) : Prop where
  row : w.heap[p]? = some (.cells #[.string s, .bool f] 96 (0, 0))
  bel : Below w0.heap.size w0 w
  env : EnvW w0
  new : w0.heap.size ≤ p
  sz : s.size ≤ 1048576
theorem RdOn.lt {w0 w : World} {p : Nat} {s : ByteArray} {f : Bool} (h : RdOn w0 p w s f) : p < w.heap.size := (Array.getElem?_eq_some_iff.1 h.row).1
theorem RdOn.now {w0 w : World} {p : Nat} {s : ByteArray} {f : Bool} (h : RdOn w0 p w s f) : EnvW w := h.env.below h.bel
theorem RdOn.c0 {w0 w : World} {p : Nat} {s : ByteArray} {f : Bool} (h : RdOn w0 p w s f) : w.cell? ⟨p, 0, none⟩ = some (.string s) := by rw [cell_of_row _ _ _ _ _ _ h.row]; rfl
theorem RdOn.c1 {w0 w : World} {p : Nat} {s : ByteArray} {f : Bool} (h : RdOn w0 p w s f) : w.cell? ⟨p, 1, none⟩ = some (.bool f) := by rw [cell_of_row _ _ _ _ _ _ h.row]; rfl
theorem RdOn.below {w0 w w' : World} {p : Nat} {s : ByteArray} {f : Bool} (h : RdOn w0 p w s f) (hb : Below w.heap.size w w') : RdOn w0 p w' s f := ⟨(hb.block p h.lt).trans h.row, h.bel.trans (hb.mono h.bel.size), h.env, h.new, h.sz⟩
theorem RdOn.set {w0 w : World} {p : Nat} {s : ByteArray} {f : Bool} (h : RdOn w0 p w s f) (t : ByteArray) (g : Bool) (ht : t.size ≤ 1048576) : RdOn w0 p ((w.setCell ⟨p, 0, none⟩ (.string t)).setCell ⟨p, 1, none⟩ (.bool g)) t g := by
  refine ⟨?_, (h.bel.setCell h.new _).setCell h.new _, h.env, h.new, ht⟩
  have h0 := heap_setCell_same _ p 0 _ _ (.string t) h.row
  have h1 := heap_setCell_same _ p 1 _ _ (.bool g) h0
  simpa using h1
theorem Bt.set2 {p : Nat} {w : World} (u v : Value) : Bt p w ((w.setCell ⟨p, 0, none⟩ u).setCell ⟨p, 1, none⟩ v) := by
  refine ⟨by simp, fun k hk hne => ?_⟩
  exact (Below.heap_setCell _ _ _ _ (by simpa using hne)).trans (Below.heap_setCell _ _ _ _ (by simpa using hne))
theorem cut_size {s a b : ByteArray} {c : UInt8} {f : Bool} (h : CutIs s c a b f) : a.size ≤ s.size ∧ b.size ≤ s.size := by
  rcases h with ⟨_, h, _⟩ | ⟨_, rfl, rfl, _⟩
  · have := congrArg List.length h
    rw [len_is, List.length_append, List.length_cons, len_is, len_is] at this
    omega
  · exact ⟨Nat.le_refl _, Nat.zero_le _⟩

theorem word_no {w0 w : World} {p : Nat} {s : ByteArray} (h : RdOn w0 p w s false) :
    Calls Tryz.prog 60 #[.pointer (some ⟨p, 0, none⟩)] w fun e w' => e = .panicked upC ∧ w' = w := by
  have c1 := h.c1
  clear h
  go_enter Tryz.func60, Tryz.ntmps60
  go_wp2_with (go_at_call 47; refine (giveUp_any _).mono ?_; rintro e w' ⟨rfl, rfl⟩)
  exact ⟨rfl, rfl, rfl⟩

set_option maxHeartbeats 1000000 in
theorem word_yes {w0 w : World} {p : Nat} {s : ByteArray} (h : RdOn w0 p w s true) :
    Calls Tryz.prog 60 #[.pointer (some ⟨p, 0, none⟩)] w fun e w' => ∃ a b f, CutIs s 32 a b f ∧ e = .returned (.string a) ∧ RdOn w0 p w' b f ∧ Bt p w w' := by
  have c0 := h.c0
  have c1 := h.c1
  have H : Hid (RdOn w0 p w s true) := h
  clear h
  go_enter Tryz.func60, Tryz.ntmps60
  go_wp2_with fail
  refine (cut_any s 32 w H.out.sz H.out.now.env).mono ?_
  rintro e w1 ⟨a, b, f, rfl, hc, hb⟩
  have H1 : Hid (RdOn w0 p w1 s true ∧ Bt p w w1) := ⟨H.out.below hb, Bt.of_below hb⟩
  have HC : Hid (CutIs s 32 a b f) := hc
  clear hb hc c0 c1
  have c0 := H1.out.1.c0
  have c1 := H1.out.1.c1
  have z0 : w1.frozen? ⟨p, 0, none⟩ = false := frozen_of_row _ _ _ _ _ H1.out.1.row
  have z1 : w1.frozen? ⟨p, 1, none⟩ = false := frozen_of_row _ _ _ _ _ H1.out.1.row
  go_wp2
  go_ret
  have hz := (cut_size HC.out).2
  have hz2 := H.out.sz
  exact ⟨a, b, f, HC.out, rfl, H1.out.1.set b f (by omega), H1.out.2.trans (Bt.set2 _ _)⟩

theorem text_no {w0 w : World} {p : Nat} {s : ByteArray} (h : RdOn w0 p w s false) :
    Calls Tryz.prog 62 #[.pointer (some ⟨p, 0, none⟩)] w fun e w' => e = .panicked upC ∧ w' = w := by
  have c1 := h.c1
  clear h
  go_enter Tryz.func62, Tryz.ntmps62
  go_wp2_with (go_at_call 47; refine (giveUp_any _).mono ?_; rintro e w' ⟨rfl, rfl⟩)
  exact ⟨rfl, rfl, rfl⟩
set_option maxHeartbeats 1000000 in
theorem text_yes {w0 w : World} {p : Nat} {s : ByteArray} (h : RdOn w0 p w s true) :
    Calls Tryz.prog 62 #[.pointer (some ⟨p, 0, none⟩)] w fun e w' => e = .returned (.string s) ∧ RdOn w0 p w' ⟨#[]⟩ false ∧ Bt p w w' := by
  have c0 := h.c0
  have c1 := h.c1
  have z0 : w.frozen? ⟨p, 0, none⟩ = false := frozen_of_row _ _ _ _ _ h.row
  have z1 : w.frozen? ⟨p, 1, none⟩ = false := frozen_of_row _ _ _ _ _ h.row
  have H : Hid (RdOn w0 p w s true) := h
  clear h
  go_enter Tryz.func62, Tryz.ntmps62
  go_wp2
  go_ret
  exact ⟨rfl, H.out.set ⟨#[]⟩ false (Nat.zero_le _), Bt.set2 _ _⟩

/-- How the reading of a number ends: with the next word's number, or by giving up. -/
def NumEnds (w0 : World) (p : Nat) (w : World) (s : ByteArray) (f : Bool) (e : Ending) (w' : World) : Prop :=
  (f = true ∧ ∃ a b g n, CutIs s 32 a b g ∧ DecIs a n ∧ e = .returned (.int .i64 n) ∧ RdOn w0 p w' b g ∧ Bt p w w') ∨
  (e = .panicked upC ∧ (f = true → ∀ a b g n, CutIs s 32 a b g → ¬ DecIs a n) ∧ Below w0.heap.size w0 w')
theorem cut_same {s a b a' b' : ByteArray} {c : UInt8} {f f' : Bool} (h : CutIs s c a b f) (k : CutIs s c a' b' f') : a = a' ∧ b = b' ∧ f = f' := by
  rcases k with ⟨k1, k2, k3⟩ | ⟨k1, k2, k3, k4⟩
  · obtain ⟨h1, h2, h3⟩ := cut_at h k2 k3
    exact ⟨bytes_eq h2, bytes_eq h3, h1.trans k1.symm⟩
  · obtain ⟨h1, h2, h3⟩ := cut_no h k4
    exact ⟨h2.trans k2.symm, h3.trans k3.symm, h1.trans k1.symm⟩

set_option maxHeartbeats 1000000 in
theorem number_any {w0 w : World} {p : Nat} {s : ByteArray} {f : Bool} (h : RdOn w0 p w s f) :
    Calls Tryz.prog 61 #[.pointer (some ⟨p, 0, none⟩)] w fun e w' => NumEnds w0 p w s f e w' := by
  have H : Hid (RdOn w0 p w s f) := h
  clear h
  go_enter Tryz.func61, Tryz.ntmps61
  go_wp2_with fail
  cases f with
  | false =>
    refine (word_no H.out).mono ?_
    rintro e w' ⟨rfl, rfl⟩
    go_wp2
    exact ⟨rfl, .inr ⟨rfl, (fun h => by cases h), H.out.bel⟩⟩
  | true =>
    refine (word_yes H.out).mono ?_
    rintro e w1 ⟨a, b, g, hc, rfl, h1, hb1⟩
    have HC : Hid (CutIs s 32 a b g) := hc
    have H1 : Hid (RdOn w0 p w1 b g ∧ Bt p w w1) := ⟨h1, hb1⟩
    clear hc h1 hb1
    go_wp2_with fail
    refine (readDecimal_any a w1 (by have := (cut_size HC.out).1; have := H.out.sz; omega) H1.out.1.now.env).mono ?_
    rintro e w2 ⟨he, hb2⟩
    have H2 : Hid (RdOn w0 p w2 b g ∧ Bt p w w2) := ⟨H1.out.1.below hb2, H1.out.2.trans (Bt.of_below hb2)⟩
    clear hb2
    rcases he with ⟨n, rfl, hd⟩ | ⟨rfl, hd⟩
    · have HD : Hid (DecIs a n) := hd
      clear hd
      go_wp2
      go_ret
      exact .inl ⟨rfl, a, b, g, n, HC.out, HD.out, rfl, H2.out.1, H2.out.2⟩
    · have HD : Hid (∀ n, ¬ DecIs a n) := hd
      clear hd
      go_wp2_with (go_at_call 47; refine (giveUp_any _).mono ?_; rintro e w' ⟨rfl, rfl⟩)
      refine ⟨rfl, .inr ⟨rfl, ?_, H2.out.1.bel⟩⟩
      intro _ a' b' g' n' hc'
      obtain ⟨rfl, _, _⟩ := cut_same HC.out hc'
      exact HD.out n'

set_option maxHeartbeats 1000000 in
theorem kind_any (s : ByteArray) (w : World) (hn : NamesAt w 0) :
    Calls Tryz.prog 59 #[.string s] w fun e w' => ((∃ k : Int, (1 ≤ k ∧ k ≤ 17) ∧ nameB k = s ∧ e = .returned (.int .i64 k)) ∨ (e = .panicked upC ∧ ∀ k : Int, 1 ≤ k ∧ k ≤ 17 → nameB k ≠ s)) ∧ w' = w := by
  have HN : Hid (NamesAt w 0) := hn
  clear hn
  go_enter Tryz.func59, Tryz.ntmps59
  go_wp2_with fail
  go_loop [3] (fun i => ∃ k : Nat, (1 ≤ k ∧ k ≤ 18) ∧ i = .int .i64 k ∧ Hid (∀ j : Nat, 1 ≤ j → j < k → nameB j ≠ s)) (fun i => 18 - (intOf i).toNat)
  case atStart => exact ⟨1, by omega, rfl, fun j h1 h2 => by omega⟩
  case round =>
    obtain ⟨k, hk, rfl, HA⟩ := hrel
    by_cases hlt : k ≤ 17
    · have i0 : (0 : Int) ≤ (k : Int) := by omega
      have i1 : (k : Int) ≤ 17 := by omega
      have i2 : (k : Int) < 18 := by omega
      have c0 := HN.out.one k hlt
      by_cases hc : nameB k = s
      · have HC : Hid (nameB (k : Int) = s) := hc
        have h1 : ((nameB (k : Int)).toList == s.toList) = true := by simp [hc]
        clear hc
        go_wp2
        go_ret
        exact ⟨.inl ⟨k, by omega, HC.out, rfl⟩, rfl⟩
      · have HC : Hid (¬ nameB (k : Int) = s) := hc
        have h1 : ((nameB (k : Int)).toList == s.toList) = false := by
          simp only [beq_eq_false_iff_ne, ne_eq]
          intro e
          exact hc (bytes_of_toList e)
        clear hc
        go_wp2
        go_round
        case rel => exact ⟨k + 1, by omega, by go_num, fun j h1 h2 => by
          by_cases e : j = k
          · subst e; exact HC.out
          · exact HA.out j h1 (by omega)⟩
        case measure => simp [intOf]; omega
    · have HK : Hid (k = 18) := (by omega : k = 18)
      have i1 : ¬ (k : Int) ≤ 17 := by omega
      go_wp2_with (go_at_call 47; refine (giveUp_any _).mono ?_; rintro e w' ⟨rfl, rfl⟩)
      refine ⟨rfl, .inr ⟨rfl, fun j hj => ?_⟩, rfl⟩
      have := HA.out j.toNat (by omega) (by have := HK.out; omega)
      rwa [Int.toNat_of_nonneg (by omega)] at this

end Go.Proofs.YtlaeilcipibelaaGreatDoor
