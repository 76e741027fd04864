/- A partition with nothing in it, opened. -/
import Derived.Test.YticpedhfclkjcagGreatPartAll
namespace Go.Proofs.YticpedhfclkjcagGreat
open Go.RowKit

theorem map_below {w w' : World} {b : Nat} (h : w.heap[b]? = some (.map #[] 0)) (hb : Below w.heap.size w w') : w'.heap[b]? = some (.map #[] 0) := (hb.block b (Array.getElem?_eq_some_iff.1 h).1).trans h

/-- The partition's block, and the shelves that are made: block, most, map. -/
structure Kept (w wr : World) (id next : Int) (l : List (Nat × Int × Nat)) : Prop where
  bel : Below w.heap.size w wr
  part : wr.heap[w.heap.size]? = some (.cells #[.int .i64 id, .int .i64 next, .slice none 0 0, .slice none 0 0, .slice none 0 0, .slice none 0 0, .slice none 0 0, .slice none 0 0] 39 (0, 0))
  shs : ∀ q ∈ l, (∃ t, wr.heap[q.1]? = some (.cells #[.int .i64 q.2.1, .map (some q.2.2)] t (0, 0))) ∧ wr.heap[q.2.2]? = some (.map #[] 0)
theorem Kept.start (w : World) (id next : Int) : Kept w (w.alloc (.cells #[.int .i64 id, .int .i64 next, .slice none 0 0, .slice none 0 0, .slice none 0 0, .slice none 0 0, .slice none 0 0, .slice none 0 0] 39)) id next [] :=
  ⟨(Below.refl _ _).alloc (Nat.le_refl _) _, heap_alloc_new _ _, fun q hq => absurd hq (by simp)⟩
theorem Kept.below {w wr w' : World} {id next : Int} {l : List (Nat × Int × Nat)} (h : Kept w wr id next l) (hb : Below wr.heap.size wr w') : Kept w w' id next l :=
  ⟨h.bel.trans (hb.mono h.bel.size), (hb.block _ (Array.getElem?_eq_some_iff.1 h.part).1).trans h.part, fun q hq => by
    obtain ⟨⟨t, h1⟩, h2⟩ := h.shs q hq
    exact ⟨⟨t, (hb.block _ (Array.getElem?_eq_some_iff.1 h1).1).trans h1⟩, map_below h2 hb⟩⟩
theorem Kept.push {w wr w1 : World} {id next most : Int} {b : Nat} {l : List (Nat × Int × Nat)} (h : Kept w wr id next l) (hb : Below wr.heap.size wr w1) (hm : w1.heap[b]? = some (.map #[] 0)) (t : TypeId) :
    Kept w (w1.alloc (.cells #[.int .i64 most, .map (some b)] t)) id next ((w1.heap.size, most, b) :: l) := by
  have h1 := h.below hb
  have h2 : Below w1.heap.size w1 (w1.alloc (.cells #[.int .i64 most, .map (some b)] t)) := (Below.refl _ _).alloc (Nat.le_refl _) _
  have h3 := h1.below h2
  refine ⟨h3.bel, h3.part, fun q hq => ?_⟩
  rcases List.mem_cons.1 hq with rfl | hq
  · exact ⟨⟨t, heap_alloc_new _ _⟩, map_below hm h2⟩
  · exact h3.shs q hq
theorem Kept.c0 {w wr : World} {id next : Int} {l : List (Nat × Int × Nat)} (h : Kept w wr id next l) {B b : Nat} {most : Int} (hq : (B, most, b) ∈ l) : wr.cell? ⟨B, 0, none⟩ = some (.int .i64 most) := by
  obtain ⟨⟨t, h1⟩, _⟩ := h.shs _ hq
  simp only at h1
  simp [World.cell?, h1]
theorem Kept.c1 {w wr : World} {id next : Int} {l : List (Nat × Int × Nat)} (h : Kept w wr id next l) {B b : Nat} {most : Int} (hq : (B, most, b) ∈ l) : wr.cell? ⟨B, 1, none⟩ = some (.map (some b)) := by
  obtain ⟨⟨t, h1⟩, _⟩ := h.shs _ hq
  simp only at h1
  simp [World.cell?, h1]
theorem Kept.p {w wr : World} {id next : Int} {l : List (Nat × Int × Nat)} (h : Kept w wr id next l) (i : Nat) : wr.cell? ⟨w.heap.size, i, none⟩ = (#[.int .i64 id, .int .i64 next, .slice none 0 0, .slice none 0 0, .slice none 0 0, .slice none 0 0, .slice none 0 0, .slice none 0 0] : Array Value)[i]? := by
  have := h.part
  simp [World.cell?, this]

/-- What opening answers: whether it is right. -/
def Opened (w : World) (ok : Bool) (e : Ending) (w' : World) : Prop := ∃ p, e = .returned (.tuple #[p, .bool ok]) ∧ Below w.heap.size w w'

set_option maxRecDepth 100000 in
set_option maxHeartbeats 8000000 in
theorem opened_nil (id next : Int) (w : World) : Calls Tryz.prog 36 #[partV id next] w fun e w' => Opened w (inB id 1 6 && inB next 1 1000000000) e w' := by
  have HK0 : Hid (Kept w (w.alloc (.cells #[.int .i64 id, .int .i64 next, .slice none 0 0, .slice none 0 0, .slice none 0 0, .slice none 0 0, .slice none 0 0, .slice none 0 0] 39)) id next []) := Kept.start w id next
  unfold partV
  go_enter Tryz.func36, Tryz.ntmps36
  go_wp2_with fail
  generalize w.alloc (.cells #[.int .i64 id, .int .i64 next, .slice none 0 0, .slice none 0 0, .slice none 0 0, .slice none 0 0, .slice none 0 0, .slice none 0 0] 39) = W0 at *
  refine (shelfOfProc_nil 6 _).mono ?_
  rintro e v1 ⟨b1, rfl, -, hm1, hb1⟩
  have HK1 : Hid (Kept w (v1.alloc (.cells #[.int .i64 6, .map (some b1)] 95)) id next ((v1.heap.size, 6, b1) :: [])) := HK0.out.push hb1 hm1 _
  clear hb1 hm1
  have p1 : (v1.alloc (.cells #[.int .i64 6, .map (some b1)] 95)).cell? ⟨w.heap.size, 3, none⟩ = some (.slice none 0 0) := HK1.out.p 3
  go_wp2_with fail
  generalize v1.alloc (.cells #[.int .i64 6, .map (some b1)] 95) = W1 at *
  generalize v1.heap.size = V1 at *
  clear HK0
  refine (shelfOfSem_nil 5 _).mono ?_
  rintro e v2 ⟨b2, rfl, -, hm2, hb2⟩
  have HK2 : Hid (Kept w (v2.alloc (.cells #[.int .i64 5, .map (some b2)] 98)) id next ((v2.heap.size, 5, b2) :: (V1, 6, b1) :: [])) := HK1.out.push hb2 hm2 _
  clear hb2 hm2
  have p2 : (v2.alloc (.cells #[.int .i64 5, .map (some b2)] 98)).cell? ⟨w.heap.size, 4, none⟩ = some (.slice none 0 0) := HK2.out.p 4
  go_wp2_with fail
  generalize v2.alloc (.cells #[.int .i64 5, .map (some b2)] 98) = W2 at *
  generalize v2.heap.size = V2 at *
  clear HK1
  refine (shelfOfEvent_nil 5 _).mono ?_
  rintro e v3 ⟨b3, rfl, -, hm3, hb3⟩
  have HK3 : Hid (Kept w (v3.alloc (.cells #[.int .i64 5, .map (some b3)] 101)) id next ((v3.heap.size, 5, b3) :: (V2, 5, b2) :: (V1, 6, b1) :: [])) := HK2.out.push hb3 hm3 _
  clear hb3 hm3
  have p3 : (v3.alloc (.cells #[.int .i64 5, .map (some b3)] 101)).cell? ⟨w.heap.size, 5, none⟩ = some (.slice none 0 0) := HK3.out.p 5
  go_wp2_with fail
  generalize v3.alloc (.cells #[.int .i64 5, .map (some b3)] 101) = W3 at *
  generalize v3.heap.size = V3 at *
  clear HK2
  refine (shelfOfBoard_nil 5 _).mono ?_
  rintro e v4 ⟨b4, rfl, -, hm4, hb4⟩
  have HK4 : Hid (Kept w (v4.alloc (.cells #[.int .i64 5, .map (some b4)] 104)) id next ((v4.heap.size, 5, b4) :: (V3, 5, b3) :: (V2, 5, b2) :: (V1, 6, b1) :: [])) := HK3.out.push hb4 hm4 _
  clear hb4 hm4
  have p4 : (v4.alloc (.cells #[.int .i64 5, .map (some b4)] 104)).cell? ⟨w.heap.size, 6, none⟩ = some (.slice none 0 0) := HK4.out.p 6
  go_wp2_with fail
  generalize v4.alloc (.cells #[.int .i64 5, .map (some b4)] 104) = W4 at *
  generalize v4.heap.size = V4 at *
  clear HK3
  refine (shelfOfBuffer_nil 5 _).mono ?_
  rintro e v5 ⟨b5, rfl, -, hm5, hb5⟩
  have HK5 : Hid (Kept w (v5.alloc (.cells #[.int .i64 5, .map (some b5)] 107)) id next ((v5.heap.size, 5, b5) :: (V4, 5, b4) :: (V3, 5, b3) :: (V2, 5, b2) :: (V1, 6, b1) :: [])) := HK4.out.push hb5 hm5 _
  clear hb5 hm5
  have p5 : (v5.alloc (.cells #[.int .i64 5, .map (some b5)] 107)).cell? ⟨w.heap.size, 7, none⟩ = some (.slice none 0 0) := HK5.out.p 7
  go_wp2_with fail
  generalize v5.alloc (.cells #[.int .i64 5, .map (some b5)] 107) = W5 at *
  generalize v5.heap.size = V5 at *
  clear HK4
  refine (shelfOfPort_nil 5 _).mono ?_
  rintro e v6 ⟨b6, rfl, -, hm6, hb6⟩
  have HK6 : Hid (Kept w (v6.alloc (.cells #[.int .i64 5, .map (some b6)] 110)) id next ((v6.heap.size, 5, b6) :: (V5, 5, b5) :: (V4, 5, b4) :: (V3, 5, b3) :: (V2, 5, b2) :: (V1, 6, b1) :: [])) := HK5.out.push hb6 hm6 _
  clear hb6 hm6
  have p6 : (v6.alloc (.cells #[.int .i64 5, .map (some b6)] 110)).cell? ⟨w.heap.size, 7, none⟩ = some (.slice none 0 0) := HK6.out.p 7
  have i0 : (v6.alloc (.cells #[.int .i64 5, .map (some b6)] 110)).cell? ⟨w.heap.size, 0, none⟩ = some (.int .i64 id) := HK6.out.p 0
  have i1 : (v6.alloc (.cells #[.int .i64 5, .map (some b6)] 110)).cell? ⟨w.heap.size, 1, none⟩ = some (.int .i64 next) := HK6.out.p 1
  have a1 : (v6.alloc (.cells #[.int .i64 5, .map (some b6)] 110)).cell? ⟨V1, 0, none⟩ = some (.int .i64 6) := HK6.out.c0 (b := b1) (by simp)
  have c1 : (v6.alloc (.cells #[.int .i64 5, .map (some b6)] 110)).cell? ⟨V1, 1, none⟩ = some (.map (some b1)) := HK6.out.c1 (most := 6) (by simp)
  have a2 : (v6.alloc (.cells #[.int .i64 5, .map (some b6)] 110)).cell? ⟨V2, 0, none⟩ = some (.int .i64 5) := HK6.out.c0 (b := b2) (by simp)
  have c2 : (v6.alloc (.cells #[.int .i64 5, .map (some b6)] 110)).cell? ⟨V2, 1, none⟩ = some (.map (some b2)) := HK6.out.c1 (most := 5) (by simp)
  have a3 : (v6.alloc (.cells #[.int .i64 5, .map (some b6)] 110)).cell? ⟨V3, 0, none⟩ = some (.int .i64 5) := HK6.out.c0 (b := b3) (by simp)
  have c3 : (v6.alloc (.cells #[.int .i64 5, .map (some b6)] 110)).cell? ⟨V3, 1, none⟩ = some (.map (some b3)) := HK6.out.c1 (most := 5) (by simp)
  have a4 : (v6.alloc (.cells #[.int .i64 5, .map (some b6)] 110)).cell? ⟨V4, 0, none⟩ = some (.int .i64 5) := HK6.out.c0 (b := b4) (by simp)
  have c4 : (v6.alloc (.cells #[.int .i64 5, .map (some b6)] 110)).cell? ⟨V4, 1, none⟩ = some (.map (some b4)) := HK6.out.c1 (most := 5) (by simp)
  have a5 : (v6.alloc (.cells #[.int .i64 5, .map (some b6)] 110)).cell? ⟨V5, 0, none⟩ = some (.int .i64 5) := HK6.out.c0 (b := b5) (by simp)
  have c5 : (v6.alloc (.cells #[.int .i64 5, .map (some b6)] 110)).cell? ⟨V5, 1, none⟩ = some (.map (some b5)) := HK6.out.c1 (most := 5) (by simp)
  have a6 : (v6.alloc (.cells #[.int .i64 5, .map (some b6)] 110)).cell? ⟨v6.heap.size, 0, none⟩ = some (.int .i64 5) := HK6.out.c0 (b := b6) (by simp)
  have c6 : (v6.alloc (.cells #[.int .i64 5, .map (some b6)] 110)).cell? ⟨v6.heap.size, 1, none⟩ = some (.map (some b6)) := HK6.out.c1 (most := 5) (by simp)
  clear p1 p2 p3 p4 p5 p6
  by_cases t1 : id < 1
  · have BB : (inB id 1 6 && inB next 1 1000000000) = false := by rw [inB_low t1]; rfl
    go_wp2_with fail
    go_ret2
    exact ⟨_, by rw [BB]; rfl, HK6.out.bel.alloc HK6.out.bel.size _⟩
  by_cases t2 : 6 < id
  · have BB : (inB id 1 6 && inB next 1 1000000000) = false := by rw [inB_high t2]; rfl
    go_wp2_with fail
    go_ret2
    exact ⟨_, by rw [BB]; rfl, HK6.out.bel.alloc HK6.out.bel.size _⟩
  by_cases t3 : next < 1
  · have BB : (inB id 1 6 && inB next 1 1000000000) = false := by rw [inB_low t3, Bool.and_false]
    go_wp2_with fail
    go_ret2
    exact ⟨_, by rw [BB]; rfl, HK6.out.bel.alloc HK6.out.bel.size _⟩
  by_cases t4 : 1000000000 < next
  · have BB : (inB id 1 6 && inB next 1 1000000000) = false := by rw [inB_high t4, Bool.and_false]
    go_wp2_with fail
    go_ret2
    exact ⟨_, by rw [BB]; rfl, HK6.out.bel.alloc HK6.out.bel.size _⟩
  have BB : Hid ((inB id 1 6 && inB next 1 1000000000) = true) := by rw [inB_true (by omega) (by omega), inB_true (by omega) (by omega)]; rfl
  go_wp2_with fail
  have HK7 : Hid (Kept w ((v6.alloc (.cells #[.int .i64 5, .map (some b6)] 110)).alloc (.cells #[.int .i64 id, .int .i64 next, .int .i64 6, .map (some b1), .int .i64 5, .map (some b2), .int .i64 5, .map (some b3), .int .i64 5, .map (some b4), .int .i64 5, .map (some b5), .int .i64 5, .map (some b6)] 112)) id next ((v6.heap.size, 5, b6) :: (V5, 5, b5) :: (V4, 5, b4) :: (V3, 5, b3) :: (V2, 5, b2) :: (V1, 6, b1) :: [])) := HK6.out.below ((Below.refl _ _).alloc (Nat.le_refl _) _)
  have ho : ((v6.alloc (.cells #[.int .i64 5, .map (some b6)] 110)).alloc (.cells #[.int .i64 id, .int .i64 next, .int .i64 6, .map (some b1), .int .i64 5, .map (some b2), .int .i64 5, .map (some b3), .int .i64 5, .map (some b4), .int .i64 5, .map (some b5), .int .i64 5, .map (some b6)] 112)).heap[v6.heap.size + 1]? = some (.cells #[.int .i64 id, .int .i64 next, .int .i64 6, .map (some b1), .int .i64 5, .map (some b2), .int .i64 5, .map (some b3), .int .i64 5, .map (some b4), .int .i64 5, .map (some b5), .int .i64 5, .map (some b6)] 112 (0, 0)) := heap_alloc2_new _ _ _
  clear a1 a2 a3 a4 a5 a6 c1 c2 c3 c4 c5 c6 i0 i1 HK6
  generalize (v6.alloc (.cells #[.int .i64 5, .map (some b6)] 110)).alloc (.cells #[.int .i64 id, .int .i64 next, .int .i64 6, .map (some b1), .int .i64 5, .map (some b2), .int .i64 5, .map (some b3), .int .i64 5, .map (some b4), .int .i64 5, .map (some b5), .int .i64 5, .map (some b6)] 112) = WO at *
  generalize v6.heap.size = V6 at *
  have HO : Hid (WO.heap[V6 + 1]? = some (.cells #[.int .i64 id, .int .i64 next, .int .i64 6, .map (some b1), .int .i64 5, .map (some b2), .int .i64 5, .map (some b3), .int .i64 5, .map (some b4), .int .i64 5, .map (some b5), .int .i64 5, .map (some b6)] 112 (0, 0))) := ho
  clear ho
  refine (turnsOk_empty (V6 + 1) b1 _ WO HO.out rfl rfl (HK7.out.shs (V1, 6, b1) (by simp)).2).mono ?_
  rintro e X1 ⟨rfl, hx1⟩
  have HK8 : Hid (Kept w X1 id next ((V6, 5, b6) :: (V5, 5, b5) :: (V4, 5, b4) :: (V3, 5, b3) :: (V2, 5, b2) :: (V1, 6, b1) :: [])) := HK7.out.below hx1
  have HO1 : Hid (X1.heap[V6 + 1]? = some (.cells #[.int .i64 id, .int .i64 next, .int .i64 6, .map (some b1), .int .i64 5, .map (some b2), .int .i64 5, .map (some b3), .int .i64 5, .map (some b4), .int .i64 5, .map (some b5), .int .i64 5, .map (some b6)] 112 (0, 0))) := (hx1.block _ (Array.getElem?_eq_some_iff.1 HO.out).1).trans HO.out
  clear hx1 HK7 HO
  go_wp2_with fail
  refine (waitsOk_empty (V6 + 1) b1 _ X1 HO1.out rfl rfl (HK8.out.shs (V1, 6, b1) (by simp)).2).mono ?_
  rintro e X2 ⟨rfl, hx2⟩
  have HK9 : Hid (Kept w X2 id next ((V6, 5, b6) :: (V5, 5, b5) :: (V4, 5, b4) :: (V3, 5, b3) :: (V2, 5, b2) :: (V1, 6, b1) :: [])) := HK8.out.below hx2
  have HO2 : Hid (X2.heap[V6 + 1]? = some (.cells #[.int .i64 id, .int .i64 next, .int .i64 6, .map (some b1), .int .i64 5, .map (some b2), .int .i64 5, .map (some b3), .int .i64 5, .map (some b4), .int .i64 5, .map (some b5), .int .i64 5, .map (some b6)] 112 (0, 0))) := (hx2.block _ (Array.getElem?_eq_some_iff.1 HO1.out).1).trans HO1.out
  clear hx2 HK8 HO1
  go_wp2_with fail
  refine (ownLists_empty (V6 + 1) b1 b5 b6 _ X2 HO2.out rfl rfl rfl (HK9.out.shs (V1, 6, b1) (by simp)).2 (HK9.out.shs (V5, 5, b5) (by simp)).2 (HK9.out.shs (V6, 5, b6) (by simp)).2).mono ?_
  rintro e X3 ⟨rfl, hx3⟩
  have HB3 : Hid (Below w.heap.size w X3) := HK9.out.bel.trans (hx3.mono HK9.out.bel.size)
  clear hx3
  go_wp2
  go_ret2
  exact ⟨_, by rw [BB.out]; rfl, HB3.out⟩

end Go.Proofs.YticpedhfclkjcagGreat
