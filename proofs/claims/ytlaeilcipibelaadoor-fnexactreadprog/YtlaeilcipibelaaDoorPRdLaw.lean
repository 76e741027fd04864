/- The exact law of ReadProg: the walk through the law. -/
import Derived.Test.YtlaeilcipibelaaDoorPRdSpec
import Derived.Test.YtlaeilcipibelaaDoorRdOrNone
import Derived.Test.YtlaeilcipibelaaDoorPHeld
namespace Go.Proofs.YtlaeilcipibelaaDoor
open Go.RowKit

/-- What a reader of programs says of a text. -/
def PVal (s : ByteArray) (os : List OpD) (ok : Bool) : Prop := (ok = true ∧ ProgIs s os) ∨ (ok = false ∧ os = [] ∧ ∀ os', ¬ ProgIs s os')
theorem PVal.inj {s : ByteArray} {os os' : List OpD} {ok ok' : Bool} (h : PVal s os ok) (k : PVal s os' ok') : os' = os ∧ ok' = ok := by
  rcases h with ⟨rfl, h1⟩ | ⟨rfl, rfl, h1⟩
  · rcases k with ⟨rfl, k1⟩ | ⟨rfl, rfl, k1⟩
    · exact ⟨h1.inj k1, rfl⟩
    · exact absurd h1 (k1 _)
  · rcases k with ⟨rfl, k1⟩ | ⟨rfl, rfl, k1⟩
    · exact absurd k1 (h1 _)
    · exact ⟨rfl, rfl⟩
theorem PVal.len {s : ByteArray} {os : List OpD} {ok : Bool} (h : PVal s os ok) : os.length ≤ 20 := by
  rcases h with ⟨_, h⟩ | ⟨_, rfl, _⟩
  · exact h.2.1
  · simp
/-- The ops lie in a row of their own, at base or behind it. -/
def ROwn (w : World) (base : Nat) (a : Option Addr) (os : List OpD) : Prop := (a = none ∧ os.length = 0) ∨ ∃ g, a = some ⟨g, 0, none⟩ ∧ base ≤ g ∧ ∃ cur : Array Value, w.heap[g]? = some (.cells cur 85 (0, 0)) ∧ os.length * 4 ≤ cur.size ∧ ∀ j, j < os.length * 4 → cur[j]? = some (opVs os j)
theorem ROwn.lies {w : World} {base : Nat} {a : Option Addr} {os : List OpD} (h : ROwn w base a os) : LiesO w a os := fun hl => by
  rcases h with ⟨_, h⟩ | ⟨g, rfl, _, cur, h1, h2, h3⟩
  · omega
  · exact ⟨g, rfl, (Array.getElem?_eq_some_iff.1 h1).1, fun j hj => by rw [cell_of_row _ _ _ _ _ _ h1]; exact h3 j hj⟩
theorem ROwn.lt {w : World} {base : Nat} {a : Option Addr} {os : List OpD} (h : ROwn w base a os) : ∀ q, a = some q → q.block < w.heap.size := by
  intro q hq
  rcases h with ⟨h, _⟩ | ⟨g, h, _, cur, h1, _⟩
  · rw [h] at hq; cases hq
  · rw [h] at hq; cases hq; exact (Array.getElem?_eq_some_iff.1 h1).1
theorem ROwn.below {w w' : World} {base : Nat} {a : Option Addr} {os : List OpD} (h : ROwn w base a os) (hb : Below w.heap.size w w') : ROwn w' base a os := by
  rcases h with h | ⟨g, h, hg, cur, h1, h2⟩
  · exact .inl h
  · exact .inr ⟨g, h, hg, cur, (hb.block g (Array.getElem?_eq_some_iff.1 h1).1).trans h1, h2⟩
theorem PRdEnds.val {s : ByteArray} {w w' : World} {e : Ending} (h : PRdEnds s w e w') : ∃ a os c ok, e = .returned (.tuple #[.slice a os.length c, .bool ok]) ∧ PVal s os ok ∧ ROwn w' w.heap.size a os := by
  rcases h with ⟨g, os, c, h1, rfl, h2, h3⟩ | ⟨rfl, h1⟩
  · exact ⟨_, os, c, true, rfl, .inl ⟨rfl, h1⟩, .inr ⟨g, rfl, h2, h3⟩⟩
  · exact ⟨none, [], 0, false, rfl, .inr ⟨rfl, rfl, h1⟩, .inl ⟨rfl, rfl⟩⟩
def MarkedO (w : World) (a : Option Addr) (len : Nat) : Prop := (len = 0) ∨ ∃ g, a = some ⟨g, 0, none⟩ ∧ Marked w g len
theorem MarkedO.below {w w' : World} {a : Option Addr} {len : Nat} (h : MarkedO w a len) (hb : Below w.heap.size w w') : MarkedO w' a len := by
  rcases h with h | ⟨g, h, hm⟩
  · exact .inl h
  · exact .inr ⟨g, h, hm.of_block (hb.block g hm.1)⟩
theorem markOpS_any (base : Nat) (a : Option Addr) (os : List OpD) (cap : Nat) (w : World) (h : ROwn w base a os) (hb : base ≤ w.heap.size) (hl : os.length ≤ 20) :
    Calls Tryd.prog 29 #[.slice a os.length cap, .int .i64 1] w fun e w' => e = .returned (.int .i64 (1 + os.length * 4)) ∧ Below base w w' ∧ MarkedO w' a os.length := by
  rcases h with ⟨rfl, h0⟩ | ⟨g, rfl, hg, cur, h1, h2, h3⟩
  · rw [h0]
    refine (markOpS_nil none cap w).mono ?_
    rintro e w' ⟨rfl, rfl⟩
    exact ⟨rfl, Below.refl _ _, .inl rfl⟩
  · refine (markOpS_own base g os.length cap w hl hg hb ⟨⟨cur, h1, h2, fun j hj => by omega⟩, Below.refl _ _, fun _ _ _ => rfl⟩).mono ?_
    rintro e w' ⟨rfl, hm⟩
    exact ⟨rfl, hm.bel, .inr ⟨g, rfl, hm.marked⟩⟩
theorem heldOpS_any (a : Option Addr) (len cap : Nat) (w : World) (h : MarkedO w a len) (hl : len ≤ 20) :
    Calls Tryd.prog 30 #[.slice a len cap, .int .i64 1] w fun e w' => e = .returned (.int .i64 (1 + len * 4)) ∧ Below w.heap.size w w' := by
  rcases h with rfl | ⟨g, rfl, hm⟩
  · refine (heldOpS_nil a cap w).mono ?_
    rintro e w' ⟨rfl, rfl⟩
    exact ⟨rfl, Below.refl _ _⟩
  · exact heldOpS_own g len cap w hl hm

set_option maxHeartbeats 1000000 in
theorem readProgLaw_big (s : ByteArray) (w : World) (hs : ¬ s.size ≤ 1048576) :
    Calls Tryd.prog 7 #[.string s] w fun e w' => e = .returned (.bool true) ∧ Below w.heap.size w w' := by
  have hs' : (1048576 : Int) < (s.size : Int) := by omega
  go_enter Tryd.func7, Tryd.ntmps7
  go_wp2
  go_ret
  exact ⟨rfl, by go_grown⟩

set_option maxHeartbeats 4000000 in
theorem readProgLaw_any (s : ByteArray) (w : World) (hs : s.size ≤ 1048576) (he : EnvW w) :
    Calls Tryd.prog 7 #[.string s] w fun e w' => e = .returned (.bool true) ∧ Below w.heap.size w w' := by
  have hs' : ¬ (1048576 : Int) < (s.size : Int) := by omega
  have HE : Hid (EnvW w) := he
  clear he
  go_enter Tryd.func7, Tryd.ntmps7
  go_wp2_with fail
  refine (specReadProg_any s _ hs).mono ?_
  rintro e w1 ⟨he1, hb1⟩
  obtain ⟨a1, os, c1, ok, rfl, hv1, ho1⟩ := he1.val
  have HV : Hid (PVal s os ok) := hv1
  have hl := hv1.len
  have HB1 : Hid (Below w.heap.size w w1 ∧ LiesO w1 a1 os ∧ ∀ q, a1 = some q → q.block < w1.heap.size) := ⟨hb1, ho1.lies, ho1.lt⟩
  clear he1 hb1 hv1 ho1
  go_wp2_with fail
  refine (implReadProg_any s _ hs (HE.out.below HB1.out.1)).mono ?_
  rintro e w2 ⟨he2, hb2⟩
  obtain ⟨a2, os', c2, ok', rfl, hv2, ho2⟩ := he2.val
  obtain ⟨rfl, rfl⟩ := HV.out.inj hv2
  have HB2 : Hid (Below w.heap.size w w2 ∧ LiesO w2 a1 os' ∧ ROwn w2 w1.heap.size a2 os' ∧ w1.heap.size ≤ w2.heap.size) := ⟨HB1.out.1.trans (hb2.mono HB1.out.1.size), HB1.out.2.1.below hb2, ho2, hb2.size⟩
  clear he2 hb2 hv2 ho2
  go_wp2_with fail
  refine (eqOpS_own a2 a1 c2 c1 os' w2 (by omega) HB2.out.2.2.1.lies HB2.out.2.1).mono ?_
  rintro e w3 ⟨rfl, hb3⟩
  have HB3 : Hid (Below w.heap.size w w3 ∧ LiesO w3 a1 os' ∧ ROwn w3 w1.heap.size a2 os' ∧ w1.heap.size ≤ w3.heap.size) := ⟨HB2.out.1.trans (hb3.mono HB2.out.1.size), HB2.out.2.1.below hb3, HB2.out.2.2.1.below hb3, Nat.le_trans HB2.out.2.2.2 hb3.size⟩
  clear hb3 HB2
  go_wp2_with fail
  refine (markOpS_any w1.heap.size a2 os' c2 w3 HB3.out.2.2.1 HB3.out.2.2.2 hl).mono ?_
  rintro e w4 ⟨rfl, hb4, hm4⟩
  have HB4 : Hid (Below w.heap.size w w4 ∧ LiesO w4 a1 os' ∧ MarkedO w4 a2 os'.length) := ⟨HB3.out.1.trans (hb4.mono HB1.out.1.size), HB3.out.2.1.low HB1.out.2.2 hb4, hm4⟩
  clear hb4 hm4 HB3
  go_wp2_with fail
  refine (heldOpS_any a2 os'.length c2 w4 HB4.out.2.2 hl).mono ?_
  rintro e w5 ⟨rfl, hb5⟩
  have HB5 : Hid (Below w.heap.size w w5 ∧ LiesO w5 a1 os' ∧ MarkedO w5 a2 os'.length) := ⟨HB4.out.1.trans (hb5.mono HB4.out.1.size), HB4.out.2.1.below hb5, HB4.out.2.2.below hb5⟩
  have hn : ¬ (1 : Int) + os'.length * 4 < 0 := by omega
  clear hb5 HB4
  go_wp2_with fail
  refine (implReadProg_any s w5 hs (HE.out.below HB5.out.1)).mono ?_
  rintro e w6 ⟨he6, hb6⟩
  obtain ⟨a6, os6, c6, ok6, rfl, hv6, ho6⟩ := he6.val
  obtain ⟨rfl, rfl⟩ := HV.out.inj hv6
  have HB6 : Hid (Below w.heap.size w w6 ∧ LiesO w6 a1 os6 ∧ MarkedO w6 a2 os6.length ∧ LiesO w6 a6 os6) := ⟨HB5.out.1.trans (hb6.mono HB5.out.1.size), HB5.out.2.1.below hb6, HB5.out.2.2.below hb6, ho6.lies⟩
  clear he6 hb6 hv6 ho6 HB5
  go_wp2_with fail
  refine (eqOpS_own a6 a1 c6 c1 os6 w6 (by omega) HB6.out.2.2.2 HB6.out.2.1).mono ?_
  rintro e w7 ⟨rfl, hb7⟩
  have HB7 : Hid (Below w.heap.size w w7 ∧ MarkedO w7 a2 os6.length) := ⟨HB6.out.1.trans (hb7.mono HB6.out.1.size), HB6.out.2.2.1.below hb7⟩
  clear hb7 HB6
  go_wp2_with fail
  refine (heldOpS_any a2 os6.length c2 w7 HB7.out.2 hl).mono ?_
  rintro e w8 ⟨rfl, hb8⟩
  go_wp2
  go_ret
  exact ⟨rfl, HB7.out.1.trans (hb8.mono HB7.out.1.size)⟩

end Go.Proofs.YtlaeilcipibelaaDoor
