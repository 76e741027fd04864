/- A number in decimal, read by the program. -/
import Derived.Test.YtlaeilcipibelaaGreatDoorIntRd
import Derived.Test.YtlaeilcipibelaaGreatDoorPow
import Derived.Test.YtlaeilcipibelaaGreatDoorParseLay
import Derived.Test.YtlaeilcipibelaaGreatDoorSplitLay
namespace Go.Proofs.YtlaeilcipibelaaGreatDoor
open Go.RowKit

/-- What the library's variables hold. -/
structure Env (w : World) : Prop where
  pow : Pow w
  syn : ∃ tp p, w.var? Tryz.prog "strconv.ErrSyntax" = some #[.iface tp p]
  rng : ∃ tp p, w.var? Tryz.prog "strconv.ErrRange" = some #[.iface tp p]
  max : ∃ m, w.cell? ⟨1, 0, none⟩ = some (.int .i64 m)
theorem var_stays {w w' : World} {n : String} {g : Nat} {cs : Array Value} (hg : Tryz.prog.globalNamed n = some g) (h : w.var? Tryz.prog n = some cs) (hb : Below w.heap.size w w') : w'.var? Tryz.prog n = some cs := by
  unfold World.var? at h ⊢
  rw [hg] at h ⊢
  simp only [Option.bind_some] at h ⊢
  cases ho : w.heap[g]? with
  | none => rw [ho] at h; cases h
  | some o =>
    rw [hb.block g (Array.getElem?_eq_some_iff.1 ho).1]
    exact h
theorem Env.below {w w' : World} (h : Env w) (hb : Below w.heap.size w w') : Env w' := by
  obtain ⟨h1, ⟨a, b, h2⟩, ⟨c, d, h3⟩, m, h4⟩ := h
  exact ⟨h1.below hb (Nat.le_refl _), ⟨a, b, var_stays (g := 7) (by kernel_rfl) h2 hb⟩, ⟨c, d, var_stays (g := 8) (by kernel_rfl) h3 hb⟩, m, (hb.cell (p := ⟨1, 0, none⟩) (block_lt_of_cell h4)).trans h4⟩
theorem bytes_of_toList {a b : ByteArray} (h : a.toList = b.toList) : a = b := by
  apply ByteArray.ext
  apply Array.ext'
  simpa [ByteArray.toList_eq] using h

/-- How the library's reader of numbers ends. -/
def ParseEnds (s : ByteArray) (e : Ending) : Prop :=
  (∃ v, Lib.parseIntB 64 s.data.toList = .ok v ∧ e = .returned (.tuple #[.int .i64 v, .nilIface])) ∨ ((∀ n, ¬ DecIs s n) ∧ ∃ v tp p, e = .returned (.tuple #[.int .i64 v, .iface tp p]))
theorem parse_any (s : ByteArray) (w : World) (hs : s.size ≤ 1048576) (he : Env w) :
    Calls Tryz.prog 83 #[.string s, .int .i64 10, .int .i64 64] w fun e w' => ParseEnds s e ∧ Below w.heap.size w w' := by
  cases hp : Lib.parseIntB 64 s.data.toList with
  | ok v =>
    refine (show Calls Tryz.prog 83 _ w _ from Go.Proofs.Any.strconv_ParseInt_10_at64_ok Tryz.laysC174 s (by omega) v hp w).mono ?_
    rintro e w' ⟨h1, h2⟩
    refine ⟨.inl ⟨v, hp, h1⟩, ?_⟩
    rcases h2 with rfl | ⟨t, rfl⟩
    · exact Below.refl _ _
    · exact Lib.bytesWorld_below _ _ _
  | «syntax» =>
    obtain ⟨tp, p, hv⟩ := he.syn
    refine (show Calls Tryz.prog 83 _ w _ from Go.Proofs.Any.strconv_ParseInt_10_at64_syntax_var Tryz.laysC174 s (by omega) hp tp p w hv).mono ?_
    rintro e w' ⟨N, h1, _, _, h2⟩
    exact ⟨.inr ⟨(fun n hn => by have := parse_itoa hn.2.1 hn.2.2; rw [← hn.1, hp] at this; cases this), _, _, _, h1⟩, h2⟩
  | range =>
    obtain ⟨tp, p, hv⟩ := he.rng
    refine (show Calls Tryz.prog 83 _ w _ from Go.Proofs.Any.strconv_ParseInt_10_at64_range_var Tryz.laysC174 s (by omega) hp tp p w hv).mono ?_
    rintro e w' ⟨N, h1, _, _, h2⟩
    exact ⟨.inr ⟨(fun n hn => by have := parse_itoa hn.2.1 hn.2.2; rw [← hn.1, hp] at this; cases this), _, _, _, h1⟩, h2⟩

set_option maxHeartbeats 1000000 in
theorem readDecimal_any (s : ByteArray) (w : World) (hs : s.size ≤ 1048576) (he : Env w) :
    Calls Tryz.prog 72 #[.string s] w fun e w' => IntEnds s e ∧ Below w.heap.size w w' := by
  have HE : Hid (Env w) := he
  clear he
  go_enter Tryz.func72, Tryz.ntmps72
  go_wp2_with fail
  refine (parse_any s w hs HE.out).mono ?_
  rintro e w1 ⟨⟨v, hp, rfl⟩ | ⟨hz, v, tp, p, rfl⟩, hb1⟩
  · have HB1 : Hid (Below w.heap.size w w1) := hb1
    have HPZ : Hid (∀ n, DecIs s n → n = v) := fun n hn => by
      have h1 := parse_itoa hn.2.1 hn.2.2
      rw [← hn.1, hp] at h1
      injection h1 with h1
      exact h1.symm
    clear hb1 hp
    by_cases b0 : v < -9999999999
    · have HZ : Hid (∀ n, ¬ DecIs s n) := fun n hn => by have := HPZ.out n hn; have := hn.2.1; omega
      go_wp2
      go_ret2
      exact ⟨.inr ⟨rfl, HZ.out⟩, HB1.out⟩
    by_cases b1 : 9999999999 < v
    · have HZ : Hid (∀ n, ¬ DecIs s n) := fun n hn => by have := HPZ.out n hn; have := hn.2.2; omega
      go_wp2
      go_ret2
      exact ⟨.inr ⟨rfl, HZ.out⟩, HB1.out⟩
    have HBD : Hid (-9999999999 ≤ v ∧ v ≤ 9999999999) := ⟨by omega, by omega⟩
    by_cases b2 : decB v = s
    · have HR : Hid (DecIs s v) := ⟨by rw [← b2]; simp [decB], HBD.out.1, HBD.out.2⟩
      have h1 : ((decB v).toList == s.toList) = true := by simp [b2]
      clear b2
      go_wp2_with (go_at_call 28; refine (decimal_any v (by have := HBD.out; omega) (by have := HBD.out; omega) w1 (HE.out.below HB1.out).pow).mono ?_; rintro e w2 ⟨rfl, hb2⟩)
      go_ret2
      exact ⟨.inl ⟨v, rfl, HR.out⟩, HB1.out.trans (hb2.mono HB1.out.size)⟩
    · have HZ : Hid (∀ n, ¬ DecIs s n) := fun n hn => by
        have := HPZ.out n hn
        subst this
        apply b2
        apply ByteArray.ext
        apply Array.ext'
        rw [hn.1]
        simp [decB]
      have h1 : ((decB v).toList == s.toList) = false := by
        simp only [beq_eq_false_iff_ne, ne_eq]
        intro e
        exact b2 (bytes_of_toList e)
      clear b2
      go_wp2_with (go_at_call 28; refine (decimal_any v (by have := HBD.out; omega) (by have := HBD.out; omega) w1 (HE.out.below HB1.out).pow).mono ?_; rintro e w2 ⟨rfl, hb2⟩)
      go_ret2
      exact ⟨.inr ⟨rfl, HZ.out⟩, HB1.out.trans (hb2.mono HB1.out.size)⟩
  · have HB1 : Hid (Below w.heap.size w w1) := hb1
    have HZ : Hid (∀ n, ¬ DecIs s n) := hz
    clear hb1 hz
    go_wp2
    go_ret2
    exact ⟨.inr ⟨rfl, HZ.out⟩, HB1.out⟩

end Go.Proofs.YtlaeilcipibelaaGreatDoor
