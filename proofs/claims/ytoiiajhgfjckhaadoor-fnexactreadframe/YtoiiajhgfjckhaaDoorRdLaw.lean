/- The exact law of ReadFrame: the walk through the law. -/
import Derived.Test.YtoiiajhgfjckhaaDoorRdImpl
import Derived.Test.YtoiiajhgfjckhaaDoorRdSpec
import Derived.Test.YtoiiajhgfjckhaaDoorRdEq
namespace Go.Proofs.YtoiiajhgfjckhaaDoor
open Go.RowKit

/-- What a reader of frames says of a text. -/
def RdVal (s : ByteArray) (major : Int) (ws : List Win) (ok : Bool) : Prop :=
  (ok = true ∧ FrameIs s.data.toList major ws ∧ frameB major ws.length (zOf ws) = true) ∨
  (ok = false ∧ major = 0 ∧ ws = [] ∧ ∀ major ws, FrameIs s.data.toList major ws → frameB major ws.length (zOf ws) = true → False)
theorem RdEnds.val {s : ByteArray} {w w' : World} {e : Ending} (h : RdEnds s w e w') : ∃ major v ws ok, e = .returned (.tuple #[.agg #[.int .i64 major, v], .bool ok]) ∧ RdVal s major ws ok ∧ w'.ownsRow w.heap.size 56 3 v ws.length (cellsW ws) := by
  rcases h with ⟨major, v, ws, rfl, h1, h2, h3⟩ | ⟨rfl, h1⟩
  · exact ⟨major, v, ws, true, rfl, .inl ⟨rfl, h1, h2⟩, h3⟩
  · exact ⟨0, .slice none 0 0, [], false, rfl, .inr ⟨rfl, rfl, rfl, h1⟩, ⟨rfl, .inl ⟨rfl, rfl⟩⟩⟩
theorem RdVal.inj {s : ByteArray} {m m' : Int} {ws ws' : List Win} {ok ok' : Bool} (h : RdVal s m ws ok) (k : RdVal s m' ws' ok') : m = m' ∧ ws = ws' ∧ ok = ok' := by
  rcases h with ⟨rfl, h1, h2⟩ | ⟨rfl, rfl, rfl, h1⟩
  · rcases k with ⟨rfl, k1, _⟩ | ⟨rfl, rfl, rfl, k1⟩
    · obtain ⟨e1, e2⟩ := h1.inj k1
      exact ⟨e1, e2, rfl⟩
    · exact (k1 _ _ h1 h2).elim
  · rcases k with ⟨rfl, k1, k2⟩ | ⟨rfl, rfl, rfl, k1⟩
    · exact (h1 _ _ k1 k2).elim
    · exact ⟨rfl, rfl, rfl⟩
theorem RdVal.len {s : ByteArray} {m : Int} {ws : List Win} {ok : Bool} (h : RdVal s m ws ok) : ws.length ≤ 20 := by
  rcases h with ⟨_, _, h2⟩ | ⟨_, _, rfl, _⟩
  · exact (frameB_out h2).2.2.1
  · simp
/-- Marked: the numbers are 1, 2, 3 .. -/
theorem markFrame_any (major : Int) (base : Nat) (a : Option Addr) (len cap : Nat) (w : World) (xs : List Value) (h : w.ownsRow base 56 3 (.slice a len cap) len xs) (hb : base ≤ w.heap.size) (hl : len ≤ 20) :
    Calls Tryd.prog 20 #[.agg #[.int .i64 major, .slice a len cap], .int .i64 1] w fun e w' => e = .returned (.int .i64 (1 + len * 3)) ∧ Below base w w' ∧ Lies w' a len (fun j => 1 + j) ∧ (∀ k, k < w.heap.size → (∀ q, a = some q → k ≠ q.block) → w'.heap[k]? = w.heap[k]?) := by
  rcases h.2 with ⟨h1, h2⟩ | ⟨g, c, cur, h1, h2, h3, h4, h5, h6, h7⟩
  · cases h2
    refine (markFrame_nil major a cap w).mono ?_
    rintro e w' ⟨rfl, h⟩
    exact ⟨rfl, h.mono hb, (fun hl => by omega), fun k hk _ => h.block k hk⟩
  · cases h1
    have hsz : len * 3 ≤ cur.size := by
      omega
    refine (markFrame_own major base g len cap w (by omega) h2 hb ⟨⟨cur, h3, hsz, fun j hj => by omega⟩, Below.refl _ _, fun _ _ _ => rfl⟩).mono ?_
    rintro e w' ⟨rfl, hm⟩
    obtain ⟨cur', k1, k2, k3⟩ := hm.row
    exact ⟨rfl, hm.bel, fun _ => ⟨g, rfl, (Array.getElem?_eq_some_iff.1 k1).1, fun j hj => by rw [cell_of_row _ _ _ _ _ _ k1]; exact k3 j hj⟩, fun k hk hne => hm.oth k hk (hne _ rfl)⟩
theorem heldFrame_any (major : Int) (a : Option Addr) (len cap : Nat) (w : World) (h : Lies w a len (fun j => 1 + j)) (hl : len ≤ 20) :
    Calls Tryd.prog 21 #[.agg #[.int .i64 major, .slice a len cap], .int .i64 1] w fun e w' => e = .returned (.int .i64 (1 + len * 3)) ∧ Below w.heap.size w w' := by
  rcases Nat.eq_zero_or_pos len with rfl | h0
  · exact heldFrame_nil major a cap w
  · obtain ⟨g, rfl, hw⟩ := h h0
    exact heldFrame_own major g len cap w (by omega) hw

set_option maxHeartbeats 1000000 in
theorem readFrameLaw_big (s : ByteArray) (w : World) (hs : ¬ s.size ≤ 1048576) :
    Calls Tryd.prog 5 #[.string s] w fun e w' => e = .returned (.bool true) ∧ Below w.heap.size w w' := by
  have hs' : (1048576 : Int) < (s.size : Int) := by omega
  go_enter Tryd.func5, Tryd.ntmps5
  go_wp2
  go_ret
  exact ⟨rfl, by go_grown⟩

theorem own_block_lt {w : World} {base e n c : Nat} {a : Option Addr} {xs : List Value} (h : w.ownsRow base e 3 (.slice a n c) n xs) : ∀ q, a = some q → q.block < w.heap.size ∧ base ≤ q.block := by
  intro q hq
  subst hq
  rcases h.2 with ⟨h1, _⟩ | ⟨g, c', cur, h1, h2, h3, _⟩
  · cases h1
  · cases h1
    exact ⟨(Array.getElem?_eq_some_iff.1 h3).1, h2⟩
theorem Lies.low {w w' : World} {a : Option Addr} {len base : Nat} {Z : Nat → Int} (h : Lies w a len Z) (ha : ∀ q, a = some q → q.block < base) (hb : Below base w w') : Lies w' a len Z := fun hl => by
  obtain ⟨g, rfl, hw⟩ := h hl
  exact ⟨g, rfl, hw.of_block (hb.block g (ha _ rfl))⟩

set_option maxHeartbeats 2000000 in
theorem readFrameLaw_any (s : ByteArray) (w : World) (hs : s.size ≤ 1048576) (he : Env w) :
    Calls Tryd.prog 5 #[.string s] w fun e w' => e = .returned (.bool true) ∧ Below w.heap.size w w' := by
  have hs' : ¬ (1048576 : Int) < (s.size : Int) := by omega
  have HE : Hid (Env w) := he
  clear he
  go_enter Tryd.func5, Tryd.ntmps5
  go_wp2_with fail
  refine (specReadFrame_any s _ hs).mono ?_
  rintro e w1 ⟨he1, hb1⟩
  obtain ⟨n, v1, ws, ok, rfl, hv1, ho1⟩ := he1.val
  have HV : Hid (RdVal s n ws ok) := hv1
  have HL : ws.length ≤ 20 := hv1.len
  obtain ⟨a1, c1, rfl, hl1⟩ := Lies.own ho1
  have HL1 : Hid (Lies w1 a1 ws.length (zOf ws) ∧ ∀ q, a1 = some q → q.block < w1.heap.size) := ⟨hl1, fun q hq => (own_block_lt ho1 q hq).1⟩
  have HB1 : Hid (Below w.heap.size w (w1.alloc (.cells #[.int .i64 n, .slice a1 ws.length c1] 26))) := hb1.alloc hb1.size _
  have zw : w.heap.size ≤ w1.heap.size := hb1.size
  clear he1 hb1 hv1 ho1 hl1
  go_wp2_with fail
  refine (implReadFrame_any s _ hs (HE.out.below HB1.out)).mono ?_
  rintro e w2 ⟨he2, hb2⟩
  obtain ⟨n', v2, ws', ok', rfl, hv2, ho2⟩ := he2.val
  obtain ⟨rfl, rfl, rfl⟩ := HV.out.inj hv2
  obtain ⟨a2, c2, rfl, hl2⟩ := Lies.own ho2
  have bb := own_block_lt ho2
  simp only [World.size_alloc] at bb ho2
  have zz : w1.heap.size < w2.heap.size := by have := hb2.size; simp only [World.size_alloc] at this; omega
  have HO2 : Hid (w2.ownsRow (w1.heap.size + 1) 56 3 (.slice a2 ws.length c2) ws.length (cellsW ws)) := ho2
  have HK : Hid (∀ q, a2 = some q → q.block < w2.heap.size) := fun q hq => (bb q hq).1
  have HB2 : Hid (Below w.heap.size w w2) := HB1.out.trans (hb2.mono HB1.out.size)
  have HLL : Hid (Lies w2 a1 ws.length (zOf ws) ∧ Lies w2 a2 ws.length (zOf ws)) := ⟨(HL1.out.1.below ((Below.refl _ _).alloc (Nat.le_refl _) _)).below hb2, hl2⟩
  have HA1 : Hid (∀ q, a1 = some q → q.block < w1.heap.size) := HL1.out.2
  have hf1 : w2.heap[w1.heap.size]? = some (.cells #[.int .i64 n, .slice a1 ws.length c1] 26 (0, 0)) := (hb2.block _ (by simp)).trans (heap_alloc_new _ _)
  have HF1 : Hid (w2.heap[w1.heap.size]? = some (.cells #[.int .i64 n, .slice a1 ws.length c1] 26 (0, 0))) := hf1
  clear he2 hv2 ho2 hl2 hb2 bb HL1 HB1 hf1
  generalize w1.heap.size = b1 at *
  have HX : Hid ((w2.alloc (.cells #[.int .i64 n, .slice a2 ws.length c2] 26)).heap[b1]? = some (.cells #[.int .i64 n, .slice a1 ws.length c1] 26 (0, 0)) ∧ (w2.alloc (.cells #[.int .i64 n, .slice a2 ws.length c2] 26)).heap[w2.heap.size]? = some (.cells #[.int .i64 n, .slice a2 ws.length c2] 26 (0, 0)) ∧ Lies (w2.alloc (.cells #[.int .i64 n, .slice a2 ws.length c2] 26)) a1 ws.length (zOf ws) ∧ Lies (w2.alloc (.cells #[.int .i64 n, .slice a2 ws.length c2] 26)) a2 ws.length (zOf ws) ∧ (w2.alloc (.cells #[.int .i64 n, .slice a2 ws.length c2] 26)).ownsRow (b1 + 1) 56 3 (.slice a2 ws.length c2) ws.length (cellsW ws) ∧ Below w.heap.size w (w2.alloc (.cells #[.int .i64 n, .slice a2 ws.length c2] 26)) ∧ b1 + 1 ≤ (w2.alloc (.cells #[.int .i64 n, .slice a2 ws.length c2] 26)).heap.size ∧ w.heap.size ≤ b1) :=
    ⟨(heap_alloc_old _ _ zz).trans HF1.out, heap_alloc_new _ _, HLL.out.1.below ((Below.refl _ _).alloc (Nat.le_refl _) _), HLL.out.2.below ((Below.refl _ _).alloc (Nat.le_refl _) _), HO2.out.alloc _, HB2.out.alloc HB2.out.size _, (by simp; omega), zw⟩
  clear HLL HO2 HB2 HF1
  have p0 : (w2.alloc (.cells #[.int .i64 n, .slice a2 ws.length c2] 26)).cell? ⟨b1, 0, none⟩ = some (.int .i64 n) := by rw [cell_of_row _ _ _ _ _ _ HX.out.1]; rfl
  have p1 : (w2.alloc (.cells #[.int .i64 n, .slice a2 ws.length c2] 26)).cell? ⟨b1, 1, none⟩ = some (.slice a1 ws.length c1) := by rw [cell_of_row _ _ _ _ _ _ HX.out.1]; rfl
  go_wp2_with fail
  generalize (w2.alloc (.cells #[.int .i64 n, .slice a2 ws.length c2] 26)) = W2 at *
  refine (eqFrame_own n a2 a1 ws.length c2 c1 (zOf ws) W2 (by omega) HX.out.2.2.2.1 HX.out.2.2.1).mono ?_
  rintro e w3 ⟨rfl, hb3⟩
  generalize w2.heap.size = b2 at *
  have l2 : b2 < W2.heap.size := (Array.getElem?_eq_some_iff.1 HX.out.2.1).1
  have l1 : b1 < W2.heap.size := (Array.getElem?_eq_some_iff.1 HX.out.1).1
  have HY : Hid (w3.heap[b1]? = some (.cells #[.int .i64 n, .slice a1 ws.length c1] 26 (0, 0)) ∧ w3.heap[b2]? = some (.cells #[.int .i64 n, .slice a2 ws.length c2] 26 (0, 0)) ∧ Lies w3 a1 ws.length (zOf ws) ∧ w3.ownsRow (b1 + 1) 56 3 (.slice a2 ws.length c2) ws.length (cellsW ws) ∧ Below w.heap.size w w3 ∧ b1 + 1 ≤ w3.heap.size ∧ b2 < w3.heap.size ∧ w.heap.size ≤ b1) :=
    ⟨(hb3.block _ l1).trans HX.out.1, (hb3.block _ l2).trans HX.out.2.1, HX.out.2.2.1.below hb3, ownsRow_below HX.out.2.2.2.2.1 hb3, HX.out.2.2.2.2.2.1.trans (hb3.mono HX.out.2.2.2.2.2.1.size), Nat.le_trans HX.out.2.2.2.2.2.2.1 hb3.size, Nat.lt_of_lt_of_le l2 hb3.size, HX.out.2.2.2.2.2.2.2⟩
  clear HX hb3 l1 l2 p0 p1 W2 w2 zz
  have q0 : w3.cell? ⟨b2, 0, none⟩ = some (.int .i64 n) := by rw [cell_of_row _ _ _ _ _ _ HY.out.2.1]; rfl
  have q1 : w3.cell? ⟨b2, 1, none⟩ = some (.slice a2 ws.length c2) := by rw [cell_of_row _ _ _ _ _ _ HY.out.2.1]; rfl
  have p0 : w3.cell? ⟨b1, 0, none⟩ = some (.int .i64 n) := by rw [cell_of_row _ _ _ _ _ _ HY.out.1]; rfl
  have p1 : w3.cell? ⟨b1, 1, none⟩ = some (.slice a1 ws.length c1) := by rw [cell_of_row _ _ _ _ _ _ HY.out.1]; rfl
  go_wp2_with fail
  refine (markFrame_any n (b1 + 1) a2 ws.length c2 w3 _ HY.out.2.2.2.1 HY.out.2.2.2.2.2.1 HL).mono ?_
  rintro e w4 ⟨rfl, hb4, hl4, hk4⟩
  have HZ : Hid (w4.heap[b1]? = some (.cells #[.int .i64 n, .slice a1 ws.length c1] 26 (0, 0)) ∧ w4.heap[b2]? = some (.cells #[.int .i64 n, .slice a2 ws.length c2] 26 (0, 0)) ∧ Lies w4 a1 ws.length (zOf ws) ∧ Lies w4 a2 ws.length (fun j => 1 + j) ∧ Below w.heap.size w w4) :=
    ⟨(hb4.block _ (by omega)).trans HY.out.1, (hk4 b2 HY.out.2.2.2.2.2.2.1 (fun q hq => by have := HK.out q hq; omega)).trans HY.out.2.1, HY.out.2.2.1.low (base := b1 + 1) (fun q hq => by have := HA1.out q hq; omega) hb4, hl4, HY.out.2.2.2.2.1.trans (hb4.mono (by have := HY.out.2.2.2.2.2.2.2; omega))⟩
  clear HY hb4 hl4 hk4 p0 p1 q0 q1 HK HA1
  have q0 : w4.cell? ⟨b2, 0, none⟩ = some (.int .i64 n) := by rw [cell_of_row _ _ _ _ _ _ HZ.out.2.1]; rfl
  have q1 : w4.cell? ⟨b2, 1, none⟩ = some (.slice a2 ws.length c2) := by rw [cell_of_row _ _ _ _ _ _ HZ.out.2.1]; rfl
  go_wp2_with fail
  refine (heldFrame_any n a2 ws.length c2 w4 HZ.out.2.2.2.1 HL).mono ?_
  rintro e w5 ⟨rfl, hb5⟩
  have l1 : b1 < w4.heap.size := (Array.getElem?_eq_some_iff.1 HZ.out.1).1
  have l2 : b2 < w4.heap.size := (Array.getElem?_eq_some_iff.1 HZ.out.2.1).1
  have HU : Hid (w5.heap[b1]? = some (.cells #[.int .i64 n, .slice a1 ws.length c1] 26 (0, 0)) ∧ Lies w5 a1 ws.length (zOf ws) ∧ Below w.heap.size w w5 ∧ w5.heap[b2]? = some (.cells #[.int .i64 n, .slice a2 ws.length c2] 26 (0, 0)) ∧ Lies w5 a2 ws.length (fun j => 1 + j)) := ⟨(hb5.block _ l1).trans HZ.out.1, HZ.out.2.2.1.below hb5, HZ.out.2.2.2.2.trans (hb5.mono HZ.out.2.2.2.2.size), (hb5.block _ l2).trans HZ.out.2.1, HZ.out.2.2.2.1.below hb5⟩
  have hn : ¬ (1 : Int) + ws.length * 3 < 0 := by omega
  clear HZ hb5 q0 q1 l1 l2
  go_wp2_with fail
  refine (implReadFrame_any s w5 hs (HE.out.below HU.out.2.2.1)).mono ?_
  rintro e w6 ⟨he6, hb6⟩
  obtain ⟨n', v6, ws', ok', rfl, hv6, ho6⟩ := he6.val
  obtain ⟨rfl, rfl, rfl⟩ := HV.out.inj hv6
  obtain ⟨a6, c6, rfl, hl6⟩ := Lies.own ho6
  have l1 : b1 < w5.heap.size := (Array.getElem?_eq_some_iff.1 HU.out.1).1
  have l2 : b2 < w5.heap.size := (Array.getElem?_eq_some_iff.1 HU.out.2.2.2.1).1
  have l6 := hb6.size
  have HT : Hid (w6.heap[b1]? = some (.cells #[.int .i64 n, .slice a1 ws.length c1] 26 (0, 0)) ∧ Lies w6 a1 ws.length (zOf ws) ∧ Lies w6 a6 ws.length (zOf ws) ∧ Below w.heap.size w w6 ∧ w6.heap[b2]? = some (.cells #[.int .i64 n, .slice a2 ws.length c2] 26 (0, 0)) ∧ Lies w6 a2 ws.length (fun j => 1 + j)) := ⟨(hb6.block _ l1).trans HU.out.1, HU.out.2.1.below hb6, hl6, HU.out.2.2.1.trans (hb6.mono HU.out.2.2.1.size), (hb6.block _ l2).trans HU.out.2.2.2.1, HU.out.2.2.2.2.below hb6⟩
  have HS : Hid ((w6.alloc (.cells #[.int .i64 n, .slice a6 ws.length c6] 26)).heap[b1]? = some (.cells #[.int .i64 n, .slice a1 ws.length c1] 26 (0, 0)) ∧ Lies (w6.alloc (.cells #[.int .i64 n, .slice a6 ws.length c6] 26)) a1 ws.length (zOf ws) ∧ Lies (w6.alloc (.cells #[.int .i64 n, .slice a6 ws.length c6] 26)) a6 ws.length (zOf ws) ∧ Below w.heap.size w (w6.alloc (.cells #[.int .i64 n, .slice a6 ws.length c6] 26)) ∧ (w6.alloc (.cells #[.int .i64 n, .slice a6 ws.length c6] 26)).heap[b2]? = some (.cells #[.int .i64 n, .slice a2 ws.length c2] 26 (0, 0)) ∧ Lies (w6.alloc (.cells #[.int .i64 n, .slice a6 ws.length c6] 26)) a2 ws.length (fun j => 1 + j)) :=
    ⟨(heap_alloc_old _ _ (by omega)).trans HT.out.1, HT.out.2.1.below ((Below.refl _ _).alloc (Nat.le_refl _) _), HT.out.2.2.1.below ((Below.refl _ _).alloc (Nat.le_refl _) _), HT.out.2.2.2.1.alloc HT.out.2.2.2.1.size _, (heap_alloc_old _ _ (by omega)).trans HT.out.2.2.2.2.1, HT.out.2.2.2.2.2.below ((Below.refl _ _).alloc (Nat.le_refl _) _)⟩
  clear HU he6 hv6 ho6 hl6 hb6 HT
  have p0 : (w6.alloc (.cells #[.int .i64 n, .slice a6 ws.length c6] 26)).cell? ⟨b1, 0, none⟩ = some (.int .i64 n) := by rw [cell_of_row _ _ _ _ _ _ HS.out.1]; rfl
  have p1 : (w6.alloc (.cells #[.int .i64 n, .slice a6 ws.length c6] 26)).cell? ⟨b1, 1, none⟩ = some (.slice a1 ws.length c1) := by rw [cell_of_row _ _ _ _ _ _ HS.out.1]; rfl
  go_wp2_with fail
  generalize w6.alloc (.cells #[.int .i64 n, .slice a6 ws.length c6] 26) = W6 at *
  refine (eqFrame_own n a6 a1 ws.length c6 c1 (zOf ws) W6 (by omega) HS.out.2.2.1 HS.out.2.1).mono ?_
  rintro e w7 ⟨rfl, hb7⟩
  have l2 : b2 < W6.heap.size := (Array.getElem?_eq_some_iff.1 HS.out.2.2.2.2.1).1
  have HR : Hid (w7.heap[b2]? = some (.cells #[.int .i64 n, .slice a2 ws.length c2] 26 (0, 0)) ∧ Lies w7 a2 ws.length (fun j => 1 + j) ∧ Below w.heap.size w w7) := ⟨(hb7.block _ l2).trans HS.out.2.2.2.2.1, HS.out.2.2.2.2.2.below hb7, HS.out.2.2.2.1.trans (hb7.mono HS.out.2.2.2.1.size)⟩
  clear HS hb7 p0 p1 l1 l2
  have q0 : w7.cell? ⟨b2, 0, none⟩ = some (.int .i64 n) := by rw [cell_of_row _ _ _ _ _ _ HR.out.1]; rfl
  have q1 : w7.cell? ⟨b2, 1, none⟩ = some (.slice a2 ws.length c2) := by rw [cell_of_row _ _ _ _ _ _ HR.out.1]; rfl
  go_wp2_with fail
  refine (heldFrame_any n a2 ws.length c2 w7 HR.out.2.1 HL).mono ?_
  rintro e w8 ⟨rfl, hb8⟩
  go_wp2
  go_ret
  exact ⟨rfl, HR.out.2.2.trans (hb8.mono HR.out.2.2.size)⟩

end Go.Proofs.YtoiiajhgfjckhaaDoor
