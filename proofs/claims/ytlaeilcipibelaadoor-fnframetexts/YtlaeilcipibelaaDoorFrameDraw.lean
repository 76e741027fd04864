/- A frame that the reader draws: one to four windows, each three small numbers. -/
import Derived.Test.YtlaeilcipibelaaDoorReader
import Derived.Deep.AppendLies
import Derived.Deep.DrawnRows
import Derived.Deep.RegionLaw
namespace Go.Proofs.YtlaeilcipibelaaDoor
open Go.RowKit
attribute [local go_sem ↓] Go.wp_at_zero Go.wp_at_succ

theorem winInfoD : (Tryd.prog.info? 56).map (fun i => (i.zero, i.size, i.bytes)) = some (some (.agg #[.int .i64 0, .int .i64 0, .int .i64 0]), 3, 24) := by kernel_rfl
theorem ownsRow_but {w w' : World} {base e size n r : Nat} {v : Value} {xs : List Value} (h : w.ownsRow base e size v n xs) (hb : But r w w') (hr : r < base) : w'.ownsRow base e size v n xs := by
  obtain ⟨h1, h2⟩ := h
  refine ⟨h1, ?_⟩
  rcases h2 with h2 | ⟨g, cap, cur, hv, hg, hh, rest⟩
  · exact .inl h2
  · exact .inr ⟨g, cap, cur, hv, hg, (hb.block g (Array.getElem?_eq_some_iff.1 hh).1 (by omega)).trans hh, rest⟩
/-- The cells of the windows so far: numbers that are small. -/
def Smalls (xs : List Value) : Prop := ∀ u ∈ xs, ∃ z : Int, u = .int .i64 z ∧ -1000 ≤ z ∧ z ≤ 1000
theorem But.grown {r : Nat} {a w w' : World} {row : Option Nat} (h : But r a w) (hg : w.grownBy w' row) (hr : ∀ k, row = some k → a.heap.size ≤ k) : But r a w' :=
  ⟨hg.os.trans h.os, hg.tape.trans h.tape, hg.output.trans h.output, Nat.le_trans h.size hg.size, fun k hk hkr =>
    (hg.block k (Nat.lt_of_lt_of_le hk h.size) (fun e => by have := hr k e.symm; omega)).trans (h.block k hk hkr)⟩
theorem But.undrew {r : Nat} {w w' : World} (h : But r w.drew w') : But r w w' := ⟨h.os, h.tape, h.output, h.size, h.block⟩
theorem But.setFar {r : Nat} {a w : World} (h : But r a w) (b i : Nat) (v : Value) (hb : a.heap.size ≤ b) : But r a (w.setCell ⟨b, i, none⟩ v) :=
  ⟨h.os, h.tape, h.output, by simpa using h.size, fun k hk hr => (Below.heap_setCell _ _ _ _ (by simp; omega)).trans (h.block k hk hr)⟩

theorem own_far {w : World} {base e size n b : Nat} {v : Value} {xs : List Value} (h : w.ownsRow base e size v n xs) (hb : b < base) : some b ≠ v.ownBlock := by
  rcases h.2 with ⟨hv, _⟩ | ⟨g, cap, cur, hv, hg, _⟩
  · subst hv; simp [Value.ownBlock]
  · subst hv; simp [Value.ownBlock]; omega
/-- The frame under making: k windows are laid; H: the heap's size at the start. -/
structure Made (r : Nat) (a : Option Addr) (len cap : Nat) (w wr : World) (mj : Int) (v : Value) (k : Nat) (xs : List Value) : Prop where
  out : wr.heap[w.heap.size]? = some (.cells #[.int .i64 0, .slice none 0 0] 26 (0, 0))
  fr : wr.heap[w.heap.size + 1]? = some (.cells #[.int .i64 mj, v] 26 (0, 0))
  own : wr.ownsRow (w.heap.size + 2) 56 3 v k xs
  small : Smalls xs
  but : But r w wr
  rd : Rd r a len cap wr
  size : w.heap.size + 2 ≤ wr.heap.size
theorem Made.move {r : Nat} {a : Option Addr} {len cap : Nat} {w wr w' : World} {mj : Int} {v : Value} {k : Nat} {xs : List Value} (m : Made r a len cap w wr mj v k xs) (hr : r < w.heap.size) (hb : But r wr w') (rd : Rd r a len cap w') : Made r a len cap w w' mj v k xs := by
  have s1 := m.size
  have s2 := hb.size
  exact ⟨(hb.block _ (by omega) (by omega)).trans m.out, (hb.block _ (by omega) (by omega)).trans m.fr, ownsRow_but m.own hb (by omega), m.small, m.but.trans hb, rd, by omega⟩
theorem Made.cell {r : Nat} {a : Option Addr} {len cap : Nat} {w wr : World} {mj : Int} {v : Value} {k : Nat} {xs : List Value} (m : Made r a len cap w wr mj v k xs) : wr.cell? ⟨w.heap.size + 1, 1, none⟩ = some v := by
  have := m.fr
  simp [World.cell?, this]
theorem Made.grown_fr {r : Nat} {a : Option Addr} {len cap : Nat} {w wr w5 : World} {mj : Int} {v : Value} {k : Nat} {xs : List Value} {o : Obj} (m : Made r a len cap w wr mj v k xs) (hg : (wr.alloc o).grownBy w5 v.ownBlock) : w5.heap[w.heap.size + 1]? = some (.cells #[.int .i64 mj, v] 26 (0, 0)) := by
  have s1 := m.size
  exact ((hg.block _ (by simp; omega) (own_far m.own (by omega))).trans (heap_alloc_old _ _ (by omega))).trans m.fr
theorem Made.push {r : Nat} {a : Option Addr} {len cap : Nat} {w wr w5 : World} {mj : Int} {v v' : Value} {k : Nat} {xs : List Value} {o : Obj} {x y z : Int} (m : Made r a len cap w wr mj v k xs) (h : Rd r a len cap w) (hg : (wr.alloc o).grownBy w5 v.ownBlock)
    (ho : w5.ownsRow (w.heap.size + 2) 56 3 v' (k + 1) (xs ++ [.int .i64 x, .int .i64 y, .int .i64 z])) (hx : -1000 ≤ x ∧ x ≤ 1000) (hy : -1000 ≤ y ∧ y ≤ 1000) (hz : -1000 ≤ z ∧ z ≤ 1000) :
    Made r a len cap w (w5.setCell ⟨w.heap.size + 1, 1, none⟩ v') mj v' (k + 1) (xs ++ [.int .i64 x, .int .i64 y, .int .i64 z]) := by
  have s1 := m.size
  have s2 := hg.size
  rw [World.size_alloc] at s2
  have hr := h.lt
  have b1 : But r w w5 := (m.but.alloc o).grown hg (fun q hq => by
    rcases Nat.lt_or_ge q (w.heap.size + 2) with hlt | hge
    · exact absurd hq.symm (own_far m.own hlt)
    · omega)
  have b2 : But r w (w5.setCell ⟨w.heap.size + 1, 1, none⟩ v') := b1.setFar _ _ _ (by omega)
  have k1 : w5.heap[r]? = wr.heap[r]? := (hg.block _ (by simp; omega) (own_far m.own (by omega))).trans (heap_alloc_old _ _ (by omega))
  have k0 : w5.heap[w.heap.size]? = wr.heap[w.heap.size]? := (hg.block _ (by simp; omega) (own_far m.own (by omega))).trans (heap_alloc_old _ _ (by omega))
  refine ⟨?_, ?_, ?_, ?_, b2, ⟨?_, h.2.but b2⟩, by simp; omega⟩
  · exact ((Below.heap_setCell _ _ _ _ (by simp)).trans k0).trans m.out
  · exact heap_setCell_same _ _ _ _ _ _ (m.grown_fr hg)
  · exact ownsRow_but (r := w.heap.size + 1) ho ((But.refl _ _).setCell _ _) (by omega)
  · intro u hu
    rcases List.mem_append.1 hu with hu | hu
    · exact m.small u hu
    · simp at hu
      rcases hu with rfl | rfl | rfl
      · exact ⟨_, rfl, hx⟩
      · exact ⟨_, rfl, hy⟩
      · exact ⟨_, rfl, hz⟩
  · obtain ⟨p, hp, e⟩ := m.rd.1
    exact ⟨p, hp, ((Below.heap_setCell _ _ _ _ (by simp; omega)).trans k1).trans e⟩

theorem Made.major {r : Nat} {a : Option Addr} {len cap : Nat} {w wr : World} {mj : Int} {v : Value} {k : Nat} {xs : List Value} (m : Made r a len cap w wr mj v k xs) (h : Rd r a len cap w) (y : Int) : Made r a len cap w (wr.setCell ⟨w.heap.size + 1, 0, none⟩ (.int .i64 y)) y v k xs := by
  have hr := h.lt
  have s1 := m.size
  have b2 : But r w (wr.setCell ⟨w.heap.size + 1, 0, none⟩ (.int .i64 y)) := m.but.setFar _ _ _ (by omega)
  refine ⟨(Below.heap_setCell _ _ _ _ (by simp)).trans m.out, heap_setCell_same _ _ _ _ _ _ m.fr, ownsRow_but (r := w.heap.size + 1) m.own ((But.refl _ _).setCell _ _) (by omega), m.small, b2, ⟨?_, h.2.but b2⟩, by simp; omega⟩
  obtain ⟨p, hp, e⟩ := m.rd.1
  exact ⟨p, hp, (Below.heap_setCell _ _ _ _ (by simp; omega)).trans e⟩
/-- The numbers that a list of cells holds. -/
def numAt (xs : List Value) (j : Nat) : Int := match xs[j]? with
  | some (.int .i64 z) => z
  | _ => 0
theorem numAt_small {xs : List Value} (h : Smalls xs) (j : Nat) : -1000 ≤ numAt xs j ∧ numAt xs j ≤ 1000 := by
  unfold numAt
  cases e : xs[j]? with
  | none => simp
  | some u =>
    obtain ⟨z, rfl, hz⟩ := h u (List.mem_of_getElem? e)
    exact hz
theorem numAt_is {xs : List Value} (h : Smalls xs) {j : Nat} (hj : j < xs.length) : xs[j]? = some (.int .i64 (numAt xs j)) := by
  unfold numAt
  cases e : xs[j]? with
  | none => rw [List.getElem?_eq_none_iff] at e; omega
  | some u =>
    obtain ⟨z, rfl, hz⟩ := h u (List.mem_of_getElem? e)
    rfl
theorem Made.wins {r : Nat} {a : Option Addr} {len cap : Nat} {w wr : World} {mj : Int} {v : Value} {k : Nat} {xs : List Value} (m : Made r a len cap w wr mj v k xs) {g c : Nat} (hv : v = .slice (some ⟨g, 0, none⟩) k c) : WinsAt wr g k (numAt xs) ∧ (0 < k → w.heap.size + 2 ≤ g) := by
  obtain ⟨hl, ho⟩ := m.own
  rcases ho with ⟨h1, h2⟩ | ⟨g', cap', cur, h1, h2, h3, h4, h5, h6, h7⟩
  · rw [h1] at hv; cases hv
  · rw [h1] at hv
    cases hv
    refine ⟨⟨(Array.getElem?_eq_some_iff.1 h3).1, fun j hj => ?_⟩, fun _ => h2⟩
    rw [cell_of_row _ _ _ _ _ _ h3, ← numAt_is m.small (by omega), ← h7, List.getElem?_take_of_lt (by omega)]
    simp

/-- What is answered, and what lies where, when the frame is handed out through the block of the result. -/
theorem Made.ends {r : Nat} {a : Option Addr} {len cap : Nat} {w wr : World} {mj : Int} {k g c : Nat} {xs : List Value} (m : Made r a len cap w wr mj (.slice (some ⟨g, 0, none⟩) k c) k xs) (h : Rd r a len cap w) (hk : 0 < k) (x y : Value) :
    w.heap.size ≤ g ∧ WinsAt ((wr.setCell ⟨w.heap.size, 0, none⟩ x).setCell ⟨w.heap.size, 1, none⟩ y) g k (numAt xs) ∧ (∀ j, -1000 ≤ numAt xs j ∧ numAt xs j ≤ 1000) ∧ But r w ((wr.setCell ⟨w.heap.size, 0, none⟩ x).setCell ⟨w.heap.size, 1, none⟩ y) ∧ Rd r a len cap ((wr.setCell ⟨w.heap.size, 0, none⟩ x).setCell ⟨w.heap.size, 1, none⟩ y) ∧
      ((wr.setCell ⟨w.heap.size, 0, none⟩ x).setCell ⟨w.heap.size, 1, none⟩ y).heap[w.heap.size]? = some (.cells #[x, y] 26 (0, 0)) := by
  have hr := h.lt
  obtain ⟨h1, h2⟩ := m.wins rfl
  have h2 := h2 hk
  have b2 : But r w ((wr.setCell ⟨w.heap.size, 0, none⟩ x).setCell ⟨w.heap.size, 1, none⟩ y) := (m.but.setFar _ _ _ (by omega)).setFar _ _ _ (by omega)
  refine ⟨by omega, h1.of_block ((Below.heap_setCell _ _ _ _ (by simp; omega)).trans (Below.heap_setCell _ _ _ _ (by simp; omega))), numAt_small m.small, b2, ⟨?_, h.2.but b2⟩, heap_setCell_same _ _ _ _ _ _ (heap_setCell_same _ _ _ _ _ _ m.out)⟩
  obtain ⟨p, hp, e⟩ := m.rd.1
  exact ⟨p, hp, ((Below.heap_setCell _ _ _ _ (by simp; omega)).trans (Below.heap_setCell _ _ _ _ (by simp; omega))).trans e⟩

theorem frSize : (Tryd.prog.info? 26).map (·.size) = some 2 := by kernel_rfl
/-- k windows are laid, m are to come. -/
def FrameSo (r : Nat) (a : Option Addr) (len cap : Nat) (w : World) (x i : Value) (wr : World) : Prop :=
  ∃ (k m : Nat) (at' : Int) (v : Value) (xs : List Value), x = .int .i64 at' ∧ i = .int .i64 m ∧ 1 ≤ k + m ∧ k + m ≤ 4 ∧ 0 ≤ at' ∧ at' ≤ 6 * k ∧ Made r a len cap w wr 0 v k xs

set_option maxHeartbeats 1000000 in
theorem frame_any (r : Nat) (a : Option Addr) (len cap : Nat) (w : World) (hl : len ≤ 1048576) (h : Rd r a len cap w) :
    Calls Tryd.prog 32 #[.pointer (some ⟨r, 0, none⟩)] w fun e w' => ∃ (major : Int) (g n c : Nat) (Z : Nat → Int), e = .returned (.agg #[.int .i64 major, .slice (some ⟨g, 0, none⟩) n c]) ∧ n ≤ 4 ∧ w.heap.size ≤ g ∧ WinsAt w' g n Z ∧ (∀ j, -1000 ≤ Z j ∧ Z j ≤ 1000) ∧ But r w w' ∧ Rd r a len cap w' := by
  have rl := h.lt
  obtain ⟨i0, hi, e⟩ := Option.map_eq_some_iff.1 winInfoD
  simp only [Prod.mk.injEq] at e
  obtain ⟨hz0, hz1, hz2⟩ := e
  have HI : Hid (Tryd.prog.info? 56 = some i0 ∧ i0.zero = some (.agg #[.int .i64 0, .int .i64 0, .int .i64 0]) ∧ i0.size = 3 ∧ i0.bytes = 24) := ⟨hi, hz0, hz1, hz2⟩
  clear hi hz0 hz1 hz2
  go_enter Tryd.func32, Tryd.ntmps32
  go_wp2_with fail
  have h2 : Rd r a len cap ((w.alloc (.cells #[.int .i64 0, .slice none 0 0] 26)).alloc (.cells #[.int .i64 0, .slice none 0 0] 26)) := (h.below ((Below.refl _ _).alloc (Nat.le_refl _) _)).below ((Below.refl _ _).alloc (Nat.le_refl _) _)
  have b2 : But r w ((w.alloc (.cells #[.int .i64 0, .slice none 0 0] 26)).alloc (.cells #[.int .i64 0, .slice none 0 0] 26)) := ((But.refl _ _).alloc _).alloc _
  have x0 : ((w.alloc (.cells #[.int .i64 0, .slice none 0 0] 26)).alloc (.cells #[.int .i64 0, .slice none 0 0] 26)).heap[w.heap.size]? = some (.cells #[.int .i64 0, .slice none 0 0] 26 (0, 0)) := (((Below.refl _ _).alloc (Nat.le_refl _) _).block _ (by simp)).trans (heap_alloc_new w _)
  have x1 : ((w.alloc (.cells #[.int .i64 0, .slice none 0 0] 26)).alloc (.cells #[.int .i64 0, .slice none 0 0] 26)).heap[w.heap.size + 1]? = some (.cells #[.int .i64 0, .slice none 0 0] 26 (0, 0)) := by have := heap_alloc_new (w.alloc (.cells #[.int .i64 0, .slice none 0 0] 26)) (.cells #[.int .i64 0, .slice none 0 0] 26); simpa using this
  have x2 : ((w.alloc (.cells #[.int .i64 0, .slice none 0 0] 26)).alloc (.cells #[.int .i64 0, .slice none 0 0] 26)).heap.size = w.heap.size + 2 := by simp
  have HX : Hid (Rd r a len cap ((w.alloc (.cells #[.int .i64 0, .slice none 0 0] 26)).alloc (.cells #[.int .i64 0, .slice none 0 0] 26)) ∧ But r w ((w.alloc (.cells #[.int .i64 0, .slice none 0 0] 26)).alloc (.cells #[.int .i64 0, .slice none 0 0] 26)) ∧ ((w.alloc (.cells #[.int .i64 0, .slice none 0 0] 26)).alloc (.cells #[.int .i64 0, .slice none 0 0] 26)).heap[w.heap.size]? = some (.cells #[.int .i64 0, .slice none 0 0] 26 (0, 0)) ∧ ((w.alloc (.cells #[.int .i64 0, .slice none 0 0] 26)).alloc (.cells #[.int .i64 0, .slice none 0 0] 26)).heap[w.heap.size + 1]? = some (.cells #[.int .i64 0, .slice none 0 0] 26 (0, 0)) ∧ ((w.alloc (.cells #[.int .i64 0, .slice none 0 0] 26)).alloc (.cells #[.int .i64 0, .slice none 0 0] 26)).heap.size = w.heap.size + 2) := ⟨h2, b2, x0, x1, x2⟩
  clear h2 b2 x0 x1 x2
  generalize (w.alloc (.cells #[.int .i64 0, .slice none 0 0] 26)).alloc (.cells #[.int .i64 0, .slice none 0 0] 26) = W0 at *
  refine (below_any r a len cap 4 W0 hl (by omega) (by omega) HX.out.1).mono ?_
  rintro e w1 ⟨c, c0, c1, rfl, hb1, hr1⟩
  have HY : Hid (Rd r a len cap w1 ∧ But r w w1 ∧ w1.heap[w.heap.size]? = some (.cells #[.int .i64 0, .slice none 0 0] 26 (0, 0)) ∧ w1.heap[w.heap.size + 1]? = some (.cells #[.int .i64 0, .slice none 0 0] 26 (0, 0)) ∧ w.heap.size + 2 ≤ w1.heap.size) := by
    obtain ⟨h2, b2, x0, x1, x2⟩ := HX.out
    have := hb1.size
    exact ⟨hr1, b2.trans hb1, (hb1.block _ (by omega) (by omega)).trans x0, (hb1.block _ (by omega) (by omega)).trans x1, by omega⟩
  clear HX hb1 hr1
  go_wp2_with fail
  go_loopw [4, 5] (fun x i wr => FrameSo r a len cap w x i wr) (fun _ i _ => (intOf i).toNat)
  case atStart =>
    obtain ⟨y1, y2, y3, y4, y5⟩ := HY.out
    exact ⟨0, (c + 1).toNat, 0, _, [], rfl, by go_num, by omega, by omega, by omega, by omega, ⟨y3, y4, ⟨by simp, .inl ⟨rfl, rfl⟩⟩, by simp [Smalls], y2, y1, y5⟩⟩
  case round =>
    obtain ⟨k, m, at', v, xs, rfl, rfl, km, km', at0, at1, hM⟩ := hrel
    have HM : Hid (Made r a len cap w wr 0 v k xs) := hM
    clear hM
    by_cases hm : 0 < m
    · have hm' : (0 : Int) < (m : Int) := by omega
      go_wp2_with fail
      refine (below_any r a len cap 3 wr hl (by omega) (by omega) HM.out.rd).mono ?_
      rintro e w2 ⟨d, d0, d1, rfl, hb2, hr2⟩
      go_wp2_with fail
      refine (below_any r a len cap 4 w2 hl (by omega) (by omega) hr2).mono ?_
      rintro e w3 ⟨l, l0, l1, rfl, hb3, hr3⟩
      go_wp2_with fail
      have HM3 : Hid (Made r a len cap w w3 0 v k xs) := (HM.out.move rl hb2 hr2).move rl hb3 hr3
      clear HM hb2 hr2 hb3
      have c3 : w3.cell? ⟨w.heap.size + 1, 1, none⟩ = some v := HM3.out.cell
      have n3 := World.new_ne w3 _ c3
      go_region_law
        ((first
          | (go_simp
             go_at_call 62
             refine (below_any r a len cap 3 _ hl (by omega) (by omega) ?_).mono ?_
             exact hr3
             rintro e w4 ⟨p, p0, p1, rfl, hb4, hr4⟩
             have HM4 : Hid (Made r a len cap w w4 0 v k xs) := HM3.out.move rl hb4.undrew hr4
             have c4 : w4.cell? ⟨w.heap.size + 1, 1, none⟩ = some v := HM4.out.cell
             have n4 := World.new_ne w4 _ c4
             have s4 := HM4.out.size
             have lt4 : w.heap.size + 1 < w4.heap.size := by omega
             have hpw : IntKind.i64.wrap (1 + p) = 1 + p := by rw [IntKind.wrap_i64]; omega
             clear hb4 hr4)
          | (refine step_append_lies _ (by rfl) _ _ _ (by rfl) (w.heap.size + 2) 56 i0 _ 3 24 Tryd.underlying24 HI.out.1 HI.out.2.1 HI.out.2.2.1 HI.out.2.2.2 rfl (by omega) v k xs (by rfl) (by first | exact HM4.out.own.alloc _ | exact (HM4.out.own.alloc _).drew | exact (HM4.out.own.drew.alloc _).drew | exact HM4.out.own.drew.alloc _)
              ⟨w4.heap.size, 0, none⟩ 1 1 [.int .i64 (at' + d), .int .i64 (1 + l), .int .i64 (1 + p)] (by rfl) (by rfl) (World.news_of_block (cs := #[.int .i64 (at' + d), .int .i64 (1 + l), .int .i64 (1 + p)]) (t := 56) (fr := (0, 0)) (heap_alloc_new w4 _)) (by simp [Value.oneCell'])
              (by omega) (by simp only [maxLen]; omega) (by omega) (by simp; omega) (w4.heap.size + 1) (by simp) ?_
             intro gg cp w5 hown5 hgrow hat hlt
             have f5 := HM4.out.grown_fr hgrow
             have HP : Hid _ := HM4.out.push h hgrow hown5 (by omega) (by omega) (by omega)
             have c5 : w5.cell? ⟨w.heap.size + 1, 1, none⟩ = some v := by simp [World.cell?, f5]
             have z5 : w5.frozen? ⟨w.heap.size + 1, 1, none⟩ = false := frozen_of_row w5 _ _ _ _ f5
             clear hown5 hgrow hat f5)))
      all_goals
        have hnw : IntKind.i64.wrap (at' + d + (1 + l)) = at' + d + (1 + l) := by rw [IntKind.wrap_i64]; omega
        go_wp2
        go_roundw
        case rel => exact ⟨k + 1, m - 1, _, _, _, rfl, by go_num, by omega, by omega, by omega, by omega, HP.out⟩
        case measure => simp [intOf]; omega
    · have hk : 0 < k := by omega
      obtain ⟨g, cp, rfl, hg0, hg1⟩ := HM.out.own.form hk
      go_wp2_with fail
      refine (below_any r a len cap 3 wr hl (by omega) (by omega) HM.out.rd).mono ?_
      rintro e w2 ⟨d, d0, d1, rfl, hb2, hr2⟩
      have HM2 : Hid (Made r a len cap w w2 0 (.slice (some ⟨g, 0, none⟩) k cp) k xs) := HM.out.move rl hb2 hr2
      have HM2' : Hid (Made r a len cap w (w2.setCell ⟨w.heap.size + 1, 0, none⟩ (.int .i64 (at' + d))) (at' + d) (.slice (some ⟨g, 0, none⟩) k cp) k xs) := HM2.out.major h _
      clear HM hb2 hr2
      have f2 := HM2.out.fr
      have c2 : w2.cell? ⟨w.heap.size + 1, 0, none⟩ = some (.int .i64 0) := by simp [World.cell?, f2]
      have z2 : w2.frozen? ⟨w.heap.size + 1, 0, none⟩ = false := frozen_of_row w2 _ _ _ _ f2
      clear f2 HM2
      have hnw : IntKind.i64.wrap (at' + d) = at' + d := by rw [IntKind.wrap_i64]; omega
      go_wp2_with fail
      generalize w2.setCell ⟨w.heap.size + 1, 0, none⟩ (.int .i64 (at' + d)) = W2 at *
      refine (once_any r a len cap 30 W2 hl (by omega) (by omega) HM2'.out.rd).mono ?_
      rintro e w3 ⟨q, rfl, hb3, hr3⟩
      have HM3 : Hid (Made r a len cap w w3 (at' + d) (.slice (some ⟨g, 0, none⟩) k cp) k xs) := HM2'.out.move rl hb3 hr3
      clear HM2' hb3 hr3
      cases q with
      | true =>
        go_wp2_with fail
        refine (off_any r a len cap 1 1000 w3 hl (by omega) (by omega) (by omega) HM3.out.rd).mono ?_
        rintro e w4 ⟨y, rfl, hb4, hr4⟩
        have HM4 : Hid (Made r a len cap w w4 (at' + d) (.slice (some ⟨g, 0, none⟩) k cp) k xs) := HM3.out.move rl hb4 hr4
        have HM5 : Hid (Made r a len cap w (w4.setCell ⟨w.heap.size + 1, 0, none⟩ (.int .i64 y)) y (.slice (some ⟨g, 0, none⟩) k cp) k xs) := HM4.out.major h _
        clear HM3 hb4 hr4
        have f4 := HM4.out.fr
        have c4 : w4.cell? ⟨w.heap.size + 1, 0, none⟩ = some (.int .i64 (at' + d)) := by simp [World.cell?, f4]
        have z4 : w4.frozen? ⟨w.heap.size + 1, 0, none⟩ = false := frozen_of_row w4 _ _ _ _ f4
        clear f4 HM4
        have f5 := HM5.out.fr
        have g5 := HM5.out.out
        have s5 := HM5.out.size
        have c50 : (w4.setCell ⟨w.heap.size + 1, 0, none⟩ (.int .i64 y)).cell? ⟨w.heap.size + 1, 0, none⟩ = some (.int .i64 y) := by simp [World.cell?, f5]
        have c51 : (w4.setCell ⟨w.heap.size + 1, 0, none⟩ (.int .i64 y)).cell? ⟨w.heap.size + 1, 1, none⟩ = some (.slice (some ⟨g, 0, none⟩) k cp) := by simp [World.cell?, f5]
        have d50 : (w4.setCell ⟨w.heap.size + 1, 0, none⟩ (.int .i64 y)).cell? ⟨w.heap.size, 0, none⟩ = some (.int .i64 0) := by simp [World.cell?, g5]
        have d51 : (w4.setCell ⟨w.heap.size + 1, 0, none⟩ (.int .i64 y)).cell? ⟨w.heap.size, 1, none⟩ = some (.slice none 0 0) := by simp [World.cell?, g5]
        have z50 : (w4.setCell ⟨w.heap.size + 1, 0, none⟩ (.int .i64 y)).frozen? ⟨w.heap.size, 0, none⟩ = false := frozen_of_row _ _ _ _ _ g5
        have z51 : (w4.setCell ⟨w.heap.size + 1, 0, none⟩ (.int .i64 y)).frozen? ⟨w.heap.size, 1, none⟩ = false := frozen_of_row _ _ _ _ _ g5
        clear f5 g5
        generalize hW : w4.setCell ⟨w.heap.size + 1, 0, none⟩ (.int .i64 y) = W5 at *
        go_wp2
        refine bodyPost_ret (results_cell_row Tryd.results32 _ _ w.heap.size 26 #[.int .i64 (y), .slice (some ⟨g, 0, none⟩) k cp] (0, 0) _ (by rfl) (HM5.out.ends h hk _ _).2.2.2.2.2 Tryd.underlying26 rfl frSize) rfl ?_
        obtain ⟨e1, e2, e3, e4, e5, _⟩ := HM5.out.ends h hk (.int .i64 (y)) (.slice (some ⟨g, 0, none⟩) k cp)
        exact ⟨_, g, k, cp, _, rfl, by omega, e1, e2, e3, e4, e5⟩
      | false =>
        have f5 := HM3.out.fr
        have g5 := HM3.out.out
        have c50 : w3.cell? ⟨w.heap.size + 1, 0, none⟩ = some (.int .i64 (at' + d)) := by simp [World.cell?, f5]
        have c51 : w3.cell? ⟨w.heap.size + 1, 1, none⟩ = some (.slice (some ⟨g, 0, none⟩) k cp) := by simp [World.cell?, f5]
        have d50 : w3.cell? ⟨w.heap.size, 0, none⟩ = some (.int .i64 0) := by simp [World.cell?, g5]
        have d51 : w3.cell? ⟨w.heap.size, 1, none⟩ = some (.slice none 0 0) := by simp [World.cell?, g5]
        have z50 : w3.frozen? ⟨w.heap.size, 0, none⟩ = false := frozen_of_row _ _ _ _ _ g5
        have z51 : w3.frozen? ⟨w.heap.size, 1, none⟩ = false := frozen_of_row _ _ _ _ _ g5
        clear f5 g5
        go_wp2
        refine bodyPost_ret (results_cell_row Tryd.results32 _ _ w.heap.size 26 #[.int .i64 (at' + d), .slice (some ⟨g, 0, none⟩) k cp] (0, 0) _ (by rfl) (HM3.out.ends h hk _ _).2.2.2.2.2 Tryd.underlying26 rfl frSize) rfl ?_
        obtain ⟨e1, e2, e3, e4, e5, _⟩ := HM3.out.ends h hk (.int .i64 (at' + d)) (.slice (some ⟨g, 0, none⟩) k cp)
        exact ⟨_, g, k, cp, _, rfl, by omega, e1, e2, e3, e4, e5⟩

end Go.Proofs.YtlaeilcipibelaaDoor
