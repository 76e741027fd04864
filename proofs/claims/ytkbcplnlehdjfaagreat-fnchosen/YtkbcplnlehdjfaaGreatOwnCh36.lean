/- What the proof leans on, part 36: WithBufferS. -/
import Derived.Test.YtkbcplnlehdjfaaGreatOwnCh29
import Derived.Test.YtkbcplnlehdjfaaGreatOwnCh32

namespace Go.Proofs.YtkbcplnlehdjfaaGreat
open Go.RowKit Go.Maps
attribute [local go_sem ↓] Go.wp_at_zero Go.wp_at_succ
theorem putBuffer {p q : PartD} {w W W2 w9 : World} {o b0 n9 c9 : Nat} {x : BufferD} {xp : BufferP} {XV : Array Value} {acc : List BufferD} {a9 : Option Addr} (hB : PartBox W2 w.heap.size p ∧ PartOwn W2 b0 p ∧ Below w.heap.size w W2 ∧ W2.heap[w.heap.size + 1]? = some (.cells #[.int .i64 0, .int .i64 0, .slice none 0 0, .slice none 0 0, .slice none 0 0, .slice none 0 0, .slice none 0 0, .slice none 0 0] 32 (0, 0)))
  (hQ : PartBox W2 o q ∧ PartOwn W2 W.heap.size q ∧ q.pure = p.pure ∧ (∀ g ∈ q.blocks, g < o) ∧ W.heap.size ≤ o ∧ w.heap.size + 1 < W.heap.size ∧ o < W2.heap.size) (hpb : ∀ g ∈ p.blocks, g < w.heap.size) (hl : ListIn bufferK 144 XV W2 w9 acc a9 c9) (ha : acc = insG (fun y : BufferD => y.id) x q.buffers) (hn : acc.length = n9) (hx : x.toBufferP = xp)
  (hk : ∀ g, bufferN.kid x = some g → g ∉ q.blocks ∧ g ≠ o) (hm : bufferN.Mine W2 W.heap.size x) :
  (PartBox (w9.setCell ⟨o, 6, none⟩ (.slice a9 n9 c9)) w.heap.size p ∧ PartOwn (w9.setCell ⟨o, 6, none⟩ (.slice a9 n9 c9)) b0 p ∧ Below w.heap.size w (w9.setCell ⟨o, 6, none⟩ (.slice a9 n9 c9)) ∧ (w9.setCell ⟨o, 6, none⟩ (.slice a9 n9 c9)).heap[w.heap.size + 1]? = some (.cells #[.int .i64 0, .int .i64 0, .slice none 0 0, .slice none 0 0, .slice none 0 0, .slice none 0 0, .slice none 0 0, .slice none 0 0] 32 (0, 0))) ∧ PartBox (w9.setCell ⟨o, 6, none⟩ (.slice a9 n9 c9)) o ({ q with buffers := acc, bufferA := a9, bufferC := c9 } : PartD) ∧ PartOwn (w9.setCell ⟨o, 6, none⟩ (.slice a9 n9 c9)) W.heap.size ({ q with buffers := acc, bufferA := a9, bufferC := c9 } : PartD) ∧ ({ q with buffers := acc, bufferA := a9, bufferC := c9 } : PartD).pure = { p.pure with buffers := insG (·.id) xp p.pure.buffers } := by
 have hb := hl.bel
 have hqb := hQ.2.2.2.1
 have sm : ∀ g, g < W2.heap.size → g ≠ o → (w9.setCell ⟨o, 6, none⟩ (.slice a9 n9 c9)).heap[g]? = W2.heap[g]? := fun g hg hne => (setCell_other hne).trans (hb.block _ hg)
 have hbw : Below w.heap.size w (w9.setCell ⟨o, 6, none⟩ (.slice a9 n9 c9)) := below_setCell (hB.2.2.1.trans (hb.mono (by omega))) (by omega)
 have hkid : ∀ g ∈ acc.filterMap bufferN.kid, g ∈ q.buffers.filterMap bufferN.kid ∨ bufferN.kid x = some g := fun g hg => by
  obtain ⟨z, hz, he⟩ := List.mem_filterMap.1 hg
  rw [ha] at hz
  rcases insG_mem.1 hz with rfl | hz
  ·exact .inr he
  ·exact .inl (List.mem_filterMap.2 ⟨z, hz, he⟩)
 have hin : ∀ g ∈ q.buffers.filterMap bufferN.kid, g ∈ q.blocks := fun g hg => by simp only [PartD.blocks, List.mem_append]; simp [hg]
 refine ⟨⟨(sm _ (by omega) (by omega)).trans hB.1, hB.2.1.same fun g hg => sm g (by have := hpb g hg; omega) (by have := hpb g hg; omega), hbw, (sm _ (by omega) (by omega)).trans hB.2.2.2⟩, ?_, ?_, ?_⟩
 ·have h5 := setCell_block (i := 6) (v := .slice a9 n9 c9) ((hb.block _ hQ.2.2.2.2.2.2).trans hQ.1)
  unfold PartBox
  simp only [hn]
  exact h5
 ·refine hQ.2.1.newBuffer (B := W2.heap.size) (by omega) (fun g hg => by have := hqb g hg; omega) (fun g hg => sm g (by have := hqb g hg; omega) (by have := hqb g hg; omega)) ?_ (fun z hz => ?_) ?_ (fun g hg => ?_) (fun g hg => ?_)
  ·exact own_same hl.own fun g hg => setCell_other (by have := (own_lt hl.own hg).1; omega)
  ·rw [ha] at hz
   rcases insG_mem.1 hz with rfl | hz
   ·exact hm.same fun g hg => sm g (hm.lt hg).2 (hk g hg).2
   ·refine (hQ.2.1.mineF z hz).same fun g hg => ?_
    have h5 := hqb g (hin g (List.mem_filterMap.2 ⟨z, hz, hg⟩))
    exact sm g (by omega) (by omega)
  ·have h5 := hQ.2.1.nodup
   simp only [PartD.blocks, List.nodup_append] at h5
   have h6 : (q.buffers.filterMap bufferN.kid).Nodup := h5.2.1.2.1.2.1.2.1.2.1.2.1.1
   have hp : (acc.filterMap bufferN.kid).Perm ((x :: q.buffers).filterMap bufferN.kid) := by rw [ha]; exact (insG_perm x _).filterMap _
   refine hp.nodup_iff.2 ?_
   cases he : bufferN.kid x with
   | none => rw [List.filterMap_cons_none he]; exact h6
   | some g => rw [List.filterMap_cons_some he]; exact List.nodup_cons.2 ⟨fun h7 => (hk g he).1 (hin g h7), h6⟩
  ·rcases hkid g hg with h5 | h5
   ·exact .inl h5
   ·exact .inr (hk g h5).1
  ·rcases hkid g hg with h5 | h5
   ·have := hqb g (hin g h5); omega
   ·exact (hm.lt h5).2
 ·show ({ q.pure with buffers := acc.map (·.toBufferP) } : PartP) = _
  have e1 : q.buffers.map (·.toBufferP) = p.pure.buffers := congrArg PartP.buffers hQ.2.2.1
  rw [ha, insG_map (num' := (·.id)) (fun y : BufferD => y.toBufferP) (fun _ => rfl), e1, hx, hQ.2.2.1]
set_option maxRecDepth 100000 in
set_option maxHeartbeats 8000000 in
theorem specWithBuffer_any (p : PartD) (id most : Int) (w : World) (b0 : Nat) (hwf : (Lit.int .i64 id).wf = true) (hsm : p.pure.Small) (h : PartOwn w b0 p) :
  Calls Tryz.prog 43 #[.agg p.cells, .int .i64 id, .int .i64 most] w fun e w' => TurnRes w (withR p.pure { p.pure with buffers := insG (·.id) (⟨id, most, []⟩ : BufferP) p.pure.buffers }) e w' := by
 have HB : Hid (PartBox ((w.alloc (.cells #[.int .i64 p.id, .int .i64 p.next, .slice p.procA p.procs.length p.procC, .slice p.semA p.sems.length p.semC, .slice p.eventA p.events.length p.eventC, .slice p.boardA p.boards.length p.boardC, .slice p.bufferA p.buffers.length p.bufferC, .slice p.portA p.ports.length p.portC] 32)).alloc (.cells #[.int .i64 0, .int .i64 0, .slice none 0 0, .slice none 0 0, .slice none 0 0, .slice none 0 0, .slice none 0 0, .slice none 0 0] 32)) w.heap.size p ∧ PartOwn ((w.alloc (.cells #[.int .i64 p.id, .int .i64 p.next, .slice p.procA p.procs.length p.procC, .slice p.semA p.sems.length p.semC, .slice p.eventA p.events.length p.eventC, .slice p.boardA p.boards.length p.boardC, .slice p.bufferA p.buffers.length p.bufferC, .slice p.portA p.ports.length p.portC] 32)).alloc (.cells #[.int .i64 0, .int .i64 0, .slice none 0 0, .slice none 0 0, .slice none 0 0, .slice none 0 0, .slice none 0 0, .slice none 0 0] 32)) b0 p ∧ Below w.heap.size w ((w.alloc (.cells #[.int .i64 p.id, .int .i64 p.next, .slice p.procA p.procs.length p.procC, .slice p.semA p.sems.length p.semC, .slice p.eventA p.events.length p.eventC, .slice p.boardA p.boards.length p.boardC, .slice p.bufferA p.buffers.length p.bufferC, .slice p.portA p.ports.length p.portC] 32)).alloc (.cells #[.int .i64 0, .int .i64 0, .slice none 0 0, .slice none 0 0, .slice none 0 0, .slice none 0 0, .slice none 0 0, .slice none 0 0] 32)) ∧ ((w.alloc (.cells #[.int .i64 p.id, .int .i64 p.next, .slice p.procA p.procs.length p.procC, .slice p.semA p.sems.length p.semC, .slice p.eventA p.events.length p.eventC, .slice p.boardA p.boards.length p.boardC, .slice p.bufferA p.buffers.length p.bufferC, .slice p.portA p.ports.length p.portC] 32)).alloc (.cells #[.int .i64 0, .int .i64 0, .slice none 0 0, .slice none 0 0, .slice none 0 0, .slice none 0 0, .slice none 0 0, .slice none 0 0] 32)).heap[w.heap.size + 1]? = some (.cells #[.int .i64 0, .int .i64 0, .slice none 0 0, .slice none 0 0, .slice none 0 0, .slice none 0 0, .slice none 0 0, .slice none 0 0] 32 (0, 0))) := by
  have b1 : Below w.heap.size w ((w.alloc (.cells #[.int .i64 p.id, .int .i64 p.next, .slice p.procA p.procs.length p.procC, .slice p.semA p.sems.length p.semC, .slice p.eventA p.events.length p.eventC, .slice p.boardA p.boards.length p.boardC, .slice p.bufferA p.buffers.length p.bufferC, .slice p.portA p.ports.length p.portC] 32)).alloc (.cells #[.int .i64 0, .int .i64 0, .slice none 0 0, .slice none 0 0, .slice none 0 0, .slice none 0 0, .slice none 0 0, .slice none 0 0] 32)) := ((Below.refl _ _).alloc (Nat.le_refl _) _).alloc (by simp) _
  exact ⟨(heap_alloc_old _ _ (by simp)).trans (heap_alloc_new _ _), h.below b1, b1, heap_alloc2_new _ _ _⟩
 have HFT : Hid (p.Fit ∧ (∀ x ∈ p.procs, x.Short) ∧ p.pure.Small ∧ (Lit.int .i64 id).wf = true) := ⟨small_fit hsm, fun x hx => (small_proc hsm hx).1, hsm, hwf⟩
 have hpl : p.buffers.length ≤ 1048576 := HFT.out.1.short.buffers
 have hpb0 : ∀ g ∈ p.blocks, g < w.heap.size := fun g hg => (h.lt g hg).2
 clear h hsm hwf
 obtain ⟨m0, m1, m2, m3, m4, m5, m6, m7⟩ := HB.out.1.cells
 unfold PartD.cells
 go_enter Tryz.func43, Tryz.ntmps43
 go_wp2_with fail
 generalize (w.alloc (.cells #[.int .i64 p.id, .int .i64 p.next, .slice p.procA p.procs.length p.procC, .slice p.semA p.sems.length p.semC, .slice p.eventA p.events.length p.eventC, .slice p.boardA p.boards.length p.boardC, .slice p.bufferA p.buffers.length p.bufferC, .slice p.portA p.ports.length p.portC] 32)).alloc (.cells #[.int .i64 0, .int .i64 0, .slice none 0 0, .slice none 0 0, .slice none 0 0, .slice none 0 0, .slice none 0 0, .slice none 0 0] 32) = W at *
 clear m0 m1 m2 m3 m4 m5 m6 m7
 refine (l3Copy_any p W HFT.out.1 HFT.out.2.1 HB.out.2.1.at).mono ?_
 rintro e W1 ⟨q, rfl, hown, hpu, hb1⟩
 have hb2 : Below W1.heap.size W1 (W1.alloc (.cells #[.int .i64 q.id, .int .i64 q.next, .slice q.procA q.procs.length q.procC, .slice q.semA q.sems.length q.semC, .slice q.eventA q.events.length q.eventC, .slice q.boardA q.boards.length q.boardC, .slice q.bufferA q.buffers.length q.bufferC, .slice q.portA q.ports.length q.portC] 32)) := (Below.refl _ _).alloc (Nat.le_refl _) _
 have hlt : w.heap.size + 1 < W.heap.size := (Array.getElem?_eq_some_iff.1 HB.out.2.2.2).1
 have hb3 : Below W.heap.size W (W1.alloc (.cells #[.int .i64 q.id, .int .i64 q.next, .slice q.procA q.procs.length q.procC, .slice q.semA q.sems.length q.semC, .slice q.eventA q.events.length q.eventC, .slice q.boardA q.boards.length q.boardC, .slice q.bufferA q.buffers.length q.bufferC, .slice q.portA q.ports.length q.portC] 32)) := hb1.trans (hb2.mono hb1.size)
 have hq1 : ∀ g ∈ q.blocks, g < W1.heap.size := fun g hg => (hown.lt g hg).2
 have hql : q.buffers.length ≤ 1048576 := by have e1 := congrArg (fun z => z.buffers.length) hpu; simp only [PartD.pure, List.length_map] at e1; omega
 have HQ : Hid (PartBox (W1.alloc (.cells #[.int .i64 q.id, .int .i64 q.next, .slice q.procA q.procs.length q.procC, .slice q.semA q.sems.length q.semC, .slice q.eventA q.events.length q.eventC, .slice q.boardA q.boards.length q.boardC, .slice q.bufferA q.buffers.length q.bufferC, .slice q.portA q.ports.length q.portC] 32)) W1.heap.size q ∧ PartOwn (W1.alloc (.cells #[.int .i64 q.id, .int .i64 q.next, .slice q.procA q.procs.length q.procC, .slice q.semA q.sems.length q.semC, .slice q.eventA q.events.length q.eventC, .slice q.boardA q.boards.length q.boardC, .slice q.bufferA q.buffers.length q.bufferC, .slice q.portA q.ports.length q.portC] 32)) W.heap.size q ∧ q.pure = p.pure ∧ (∀ g ∈ q.blocks, g < W1.heap.size) ∧ W.heap.size ≤ W1.heap.size ∧ w.heap.size + 1 < W.heap.size ∧ W1.heap.size < (W1.alloc (.cells #[.int .i64 q.id, .int .i64 q.next, .slice q.procA q.procs.length q.procC, .slice q.semA q.sems.length q.semC, .slice q.eventA q.events.length q.eventC, .slice q.boardA q.boards.length q.boardC, .slice q.bufferA q.buffers.length q.bufferC, .slice q.portA q.ports.length q.portC] 32)).heap.size) := ⟨heap_alloc_new _ _, hown.below hb2, hpu, hq1, hb1.size, hlt, by simp⟩
 replace HB : Hid (PartBox (W1.alloc (.cells #[.int .i64 q.id, .int .i64 q.next, .slice q.procA q.procs.length q.procC, .slice q.semA q.sems.length q.semC, .slice q.eventA q.events.length q.eventC, .slice q.boardA q.boards.length q.boardC, .slice q.bufferA q.buffers.length q.bufferC, .slice q.portA q.ports.length q.portC] 32)) w.heap.size p ∧ PartOwn (W1.alloc (.cells #[.int .i64 q.id, .int .i64 q.next, .slice q.procA q.procs.length q.procC, .slice q.semA q.sems.length q.semC, .slice q.eventA q.events.length q.eventC, .slice q.boardA q.boards.length q.boardC, .slice q.bufferA q.buffers.length q.bufferC, .slice q.portA q.ports.length q.portC] 32)) b0 p ∧ Below w.heap.size w (W1.alloc (.cells #[.int .i64 q.id, .int .i64 q.next, .slice q.procA q.procs.length q.procC, .slice q.semA q.sems.length q.semC, .slice q.eventA q.events.length q.eventC, .slice q.boardA q.boards.length q.boardC, .slice q.bufferA q.buffers.length q.bufferC, .slice q.portA q.ports.length q.portC] 32)) ∧ (W1.alloc (.cells #[.int .i64 q.id, .int .i64 q.next, .slice q.procA q.procs.length q.procC, .slice q.semA q.sems.length q.semC, .slice q.eventA q.events.length q.eventC, .slice q.boardA q.boards.length q.boardC, .slice q.bufferA q.buffers.length q.bufferC, .slice q.portA q.ports.length q.portC] 32)).heap[w.heap.size + 1]? = some (.cells #[.int .i64 0, .int .i64 0, .slice none 0 0, .slice none 0 0, .slice none 0 0, .slice none 0 0, .slice none 0 0, .slice none 0 0] 32 (0, 0))) := ⟨HB.out.1.below hb3, HB.out.2.1.below hb3, HB.out.2.2.1.trans (hb3.mono HB.out.2.2.1.size), (hb3.block _ hlt).trans HB.out.2.2.2⟩
 have HPB : Hid (∀ g ∈ p.blocks, g < w.heap.size) := fun g hg => hpb0 g hg
 clear hown hpu hb1 hb2 hb3 hq1 hlt hpb0
 have HL0 : Hid (ListIn bufferK 144 #[.int .i64 id, .int .i64 most, .slice none 0 0] (W1.alloc (.cells #[.int .i64 q.id, .int .i64 q.next, .slice q.procA q.procs.length q.procC, .slice q.semA q.sems.length q.semC, .slice q.eventA q.events.length q.eventC, .slice q.boardA q.boards.length q.boardC, .slice q.bufferA q.buffers.length q.bufferC, .slice q.portA q.ports.length q.portC] 32)) (((W1.alloc (.cells #[.int .i64 q.id, .int .i64 q.next, .slice q.procA q.procs.length q.procC, .slice q.semA q.sems.length q.semC, .slice q.eventA q.events.length q.eventC, .slice q.boardA q.boards.length q.boardC, .slice q.bufferA q.buffers.length q.bufferC, .slice q.portA q.ports.length q.portC] 32)).alloc (.cells #[] 144)).alloc (.cells #[.int .i64 id, .int .i64 most, .slice none 0 0] 144)) [] (some ⟨(W1.alloc (.cells #[.int .i64 q.id, .int .i64 q.next, .slice q.procA q.procs.length q.procC, .slice q.semA q.sems.length q.semC, .slice q.eventA q.events.length q.eventC, .slice q.boardA q.boards.length q.boardC, .slice q.bufferA q.buffers.length q.bufferC, .slice q.portA q.ports.length q.portC] 32)).heap.size, 0, none⟩) 0) := ListIn.start
 have hoW : (W1.alloc (.cells #[.int .i64 q.id, .int .i64 q.next, .slice q.procA q.procs.length q.procC, .slice q.semA q.sems.length q.semC, .slice q.eventA q.events.length q.eventC, .slice q.boardA q.boards.length q.boardC, .slice q.bufferA q.buffers.length q.bufferC, .slice q.portA q.ports.length q.portC] 32)).heap.size = W1.heap.size + 1 := by simp
 have HW : Hid ((W1.alloc (.cells #[.int .i64 q.id, .int .i64 q.next, .slice q.procA q.procs.length q.procC, .slice q.semA q.sems.length q.semC, .slice q.eventA q.events.length q.eventC, .slice q.boardA q.boards.length q.boardC, .slice q.bufferA q.buffers.length q.bufferC, .slice q.portA q.ports.length q.portC] 32)).heap.size = W1.heap.size + 1) := hoW
 clear hoW
 unfold PartD.cells
 go_wp2_with fail
 generalize W1.alloc (.cells #[.int .i64 q.id, .int .i64 q.next, .slice q.procA q.procs.length q.procC, .slice q.semA q.sems.length q.semC, .slice q.eventA q.events.length q.eventC, .slice q.boardA q.boards.length q.boardC, .slice q.bufferA q.buffers.length q.bufferC, .slice q.portA q.ports.length q.portC] 32) = W2 at *
 generalize W1.heap.size = o at *
 go_loopw [9, 11, 12] (fun l d i wr => ∃ (k : Nat) (dn : Bool) (acc : List BufferD) (a : Option Addr) (c : Nat), k ≤ q.buffers.length ∧ i = .int .i64 k ∧ d = .bool dn ∧ l = .slice a acc.length c ∧ Hid (ListIn bufferK 144 #[.int .i64 id, .int .i64 most, .slice none 0 0] W2 wr acc a c ∧ AccIs (fun y : BufferD => y.id) (⟨⟨id, most, []⟩, none, 0⟩ : BufferD) q.buffers k dn acc)) (fun _ _ i _ => q.buffers.length - (intOf i).toNat)
 case atStart => exact ⟨0, false, [], some ⟨W2.heap.size, 0, none⟩, 0, Nat.zero_le _, rfl, rfl, by rw [HW.out]; rfl, ⟨HL0.out, AccIs.start _ _⟩⟩
 case round =>
  obtain ⟨k, dn, acc, a, c, hk, rfl, rfl, rfl, HA⟩ := hrel
  have i0 : (0 : Int) ≤ (k : Int) := by omega
  have hbr := HA.out.1.bel
  have hal := HA.out.2.le
  have mo : wr.cell? ⟨o, 6, none⟩ = some (.slice q.bufferA q.buffers.length q.bufferC) := (HQ.out.1.below hbr).cells.2.2.2.2.2.2.1
  by_cases hlt : k < q.buffers.length
  ·have i1 : (k : Int) < (q.buffers.length : Int) := by omega
   obtain ⟨y, hy⟩ : ∃ y, q.buffers[k]? = some y := ⟨_, List.getElem?_eq_getElem hlt⟩
   have HY : Hid (q.buffers[k]? = some y) := hy
   obtain ⟨g, ha, hat⟩ := buffer_at (HQ.out.2.1.below hbr).at.2.2.2.2.1 hy
   rw [ha] at mo
   obtain ⟨d0, d1, d2⟩ := hat
   have HG : Hid (q.bufferA = some ⟨g, 0, none⟩) := ha
   clear ha hy
   obtain ⟨a5, c5, w5, hap, hl5⟩ := HA.out.1.add 29 40 (P := Tryz.prog) Tryz.underlying29 rinfBuffer rfl (by decide) (by decide) y #[.int .i64 y.id, .int .i64 y.max, .slice y.itemsA y.items.length y.itemsC] rfl one_buffer (by omega)
   have HL5 : Hid (ListIn bufferK 144 #[.int .i64 id, .int .i64 most, .slice none 0 0] W2 w5 (acc ++ [y]) a5 c5) := hl5
   clear hl5
   cases dn
   rotate_left
   ·go_wp2_with (at_builtin; first | (refine wpList_append_run _ rfl _ _ 29 rfl _ _ _ _ rfl rfl hap ?_; clear hap))
    go_round
    case rel => exact ⟨k + 1, true, acc ++ [y], a5, c5, by omega, by go_num, rfl, by simp, ⟨HL5.out, HA.out.2.on HY.out⟩⟩
    case measure => simp [intOf]; omega
   by_cases hc : id < y.id
   rotate_left
   ·have HC : Hid (¬ id < y.id) := hc
    go_wp2_with (at_builtin; first | (refine wpList_append_run _ rfl _ _ 29 rfl _ _ _ _ rfl rfl hap ?_; clear hap))
    go_round
    case rel => exact ⟨k + 1, false, acc ++ [y], a5, c5, by omega, by go_num, rfl, by simp, ⟨HL5.out, HA.out.2.past HY.out HC.out⟩⟩
    case measure => simp [intOf]; omega
   clear hap HL5 a5 c5 w5
   have HC : Hid (id < y.id) := hc
   obtain ⟨a5, c5, w5, hap, hl5⟩ := HA.out.1.add 29 40 (P := Tryz.prog) Tryz.underlying29 rinfBuffer rfl (by decide) (by decide) (⟨⟨id, most, []⟩, none, 0⟩ : BufferD) #[.int .i64 id, .int .i64 most, .slice none 0 0] rfl one_buffer (by omega)
   obtain ⟨a7, c7, w7, hap2, hl7⟩ := hl5.add 29 40 (P := Tryz.prog) Tryz.underlying29 rinfBuffer rfl (by decide) (by decide) y #[.int .i64 y.id, .int .i64 y.max, .slice y.itemsA y.items.length y.itemsC] rfl one_buffer (by simp; omega)
   rw [List.length_append] at hap2
   simp only [List.length_cons, List.length_nil, Nat.zero_add] at hap2
   have HL7 : Hid (ListIn bufferK 144 #[.int .i64 id, .int .i64 most, .slice none 0 0] W2 w7 (acc ++ [(⟨⟨id, most, []⟩, none, 0⟩ : BufferD)] ++ [y]) a7 c7) := hl7
   have mo5 : w5.cell? ⟨o, 6, none⟩ = some (.slice q.bufferA q.buffers.length q.bufferC) := (HQ.out.1.below hl5.bel).cells.2.2.2.2.2.2.1
   obtain ⟨g2, ha2, hat2⟩ := buffer_at (HQ.out.2.1.below hl5.bel).at.2.2.2.2.1 HY.out
   rw [HG.out] at ha2 mo5
   cases ha2
   obtain ⟨e0, e1, e2⟩ := hat2
   obtain ⟨x0, x1, x2⟩ := buffer_cells (x := (⟨⟨id, most, []⟩, none, 0⟩ : BufferD)) (X := o + 1 + 1) (W := wr) (by rw [← HW.out]; exact HA.out.1.box)
   clear hl5 hl7
   simp only [List.length_nil] at *
   go_wp2_with (at_builtin; first | (refine wpList_append_run _ rfl _ _ 29 rfl _ _ _ _ rfl rfl hap ?_; clear hap) | (refine wpList_append_run _ rfl _ _ 29 rfl _ _ _ _ rfl rfl hap2 ?_; clear hap2))
   go_round
   case rel => exact ⟨k + 1, true, acc ++ [(⟨⟨id, most, []⟩, none, 0⟩ : BufferD)] ++ [y], a7, c7, by omega, by go_num, rfl, by simp, ⟨HL7.out, HA.out.2.here HY.out HC.out⟩⟩
   case measure => simp [intOf]; omega
  have i1 : ¬ (k : Int) < (q.buffers.length : Int) := by omega
  cases dn
  ·obtain ⟨a9, c9, w9, hap, hl9⟩ := HA.out.1.add 29 40 (P := Tryz.prog) Tryz.underlying29 rinfBuffer rfl (by decide) (by decide) (⟨⟨id, most, []⟩, none, 0⟩ : BufferD) #[.int .i64 id, .int .i64 most, .slice none 0 0] rfl one_buffer (by omega)
   have HR : Hid (ListIn bufferK 144 #[.int .i64 id, .int .i64 most, .slice none 0 0] W2 w9 (acc ++ [(⟨⟨id, most, []⟩, none, 0⟩ : BufferD)]) a9 c9 ∧ acc ++ [(⟨⟨id, most, []⟩, none, 0⟩ : BufferD)] = insG (fun y : BufferD => y.id) (⟨⟨id, most, []⟩, none, 0⟩ : BufferD) q.buffers ∧ (acc ++ [(⟨⟨id, most, []⟩, none, 0⟩ : BufferD)]).length = acc.length + 1) := ⟨hl9, HA.out.2.last hlt, by simp⟩
   obtain ⟨x0, x1, x2⟩ := buffer_cells (x := (⟨⟨id, most, []⟩, none, 0⟩ : BufferD)) (X := o + 1 + 1) (W := wr) (by rw [← HW.out]; exact HA.out.1.box)
   simp only [List.length_nil] at x0 x1 x2
   clear hl9
   have H10 : Hid (_) := putBuffer HB.out HQ.out HPB.out HR.out.1 HR.out.2.1 HR.out.2.2 rfl (fun g hg => by cases hg) (World.ownsRow_nil _ _ _ _)
   have hcall := l3Checked_any p ({ q with buffers := (acc ++ [(⟨⟨id, most, []⟩, none, 0⟩ : BufferD)]), bufferA := a9, bufferC := c9 } : PartD) (w9.setCell ⟨o, 6, none⟩ (.slice a9 (acc.length + 1) c9)) ⟨HFT.out.1, HFT.out.2.1, H10.out.1.2.1.at⟩ (fun hr => by
    have h5 : PartP.Small ({ q with buffers := (acc ++ [(⟨⟨id, most, []⟩, none, 0⟩ : BufferD)]), bufferA := a9, bufferC := c9 } : PartD).pure := by rw [H10.out.2.2.2]; exact insBuffer_small HFT.out.2.2.1 hr ⟨HFT.out.2.2.2, Nat.zero_le _, (fun s hs => by cases hs)⟩
    exact ⟨small_fit h5, fun x hx => (small_proc h5 hx).1, H10.out.2.2.1.at⟩)
   obtain ⟨m0, m1, m2, m3, m4, m5, m6, m7⟩ := H10.out.1.1.cells
   obtain ⟨k0, k1, k2, k3, k4, k5, k6, k7⟩ := H10.out.2.1.cells
   obtain ⟨⟨u, co⟩, fo⟩ : (∃ u, w9.cell? ⟨o, 6, none⟩ = some u) ∧ w9.frozen? ⟨o, 6, none⟩ = false := ⟨⟨_, (HQ.out.1.below HR.out.1.bel).cells.2.2.2.2.2.2.1⟩, frozen_of_row _ _ _ _ _ (HQ.out.1.below HR.out.1.bel)⟩
   unfold PartD.cells at hcall
   have hln := HR.out.2.2
   simp only [hln] at hcall k0 k1 k2 k3 k4 k5 k6 k7
   clear hln
   go_wp2_with (at_builtin; first | (refine wpList_append_run _ rfl _ _ 29 rfl _ _ _ _ rfl rfl hap ?_; clear hap))
   refine hcall.mono ?_
   clear hcall m0 m1 m2 m3 m4 m5 m6 m7 k0 k1 k2 k3 k4 k5 k6 k7
   rintro e w11 ⟨hb11, hok⟩
   have hq := HQ.out.2.2.2.2
   have HZ : Hid (Below w.heap.size w w11 ∧ w11.heap[w.heap.size + 1]? = some (.cells #[.int .i64 0, .int .i64 0, .slice none 0 0, .slice none 0 0, .slice none 0 0, .slice none 0 0, .slice none 0 0, .slice none 0 0] 32 (0, 0)) ∧ PartOwn w11 W.heap.size ({ q with buffers := (acc ++ [(⟨⟨id, most, []⟩, none, 0⟩ : BufferD)]), bufferA := a9, bufferC := c9 } : PartD) ∧ w.heap.size + 1 < W.heap.size) := ⟨H10.out.1.2.2.1.trans (hb11.mono H10.out.1.2.2.1.size), (hb11.block _ (Array.getElem?_eq_some_iff.1 H10.out.1.2.2.2).1).trans H10.out.1.2.2.2, H10.out.2.2.1.below hb11, hq.2.1⟩
   clear hb11 hq
   rw [H10.out.2.2.2] at hok
   rcases hok with ⟨hok, rfl⟩ | ⟨hok, rfl⟩
   ·have HN : Hid (withR p.pure { p.pure with buffers := insG (·.id) (⟨id, most, []⟩ : BufferP) p.pure.buffers } = some { p.pure with buffers := insG (·.id) (⟨id, most, []⟩ : BufferP) p.pure.buffers }) := withR_ok hok
    clear hok
    go_wp2_with (refine wpList_store_row rfl 32 (Operand.tmp 6) (Operand.tmp 61) rfl (w.heap.size + 1) _ _ #[.int .i64 q.id, .int .i64 q.next, .slice q.procA q.procs.length q.procC, .slice q.semA q.sems.length q.semC, .slice q.eventA q.events.length q.eventC, .slice q.boardA q.boards.length q.boardC, .slice a9 (acc.length + 1) c9, .slice q.portA q.ports.length q.portC] rfl rfl HZ.out.2.1 (by kernel_rfl) rfl (by kernel_rfl) ?_)
    refine bodyPost_ret (v := .tuple #[.agg #[.int .i64 q.id, .int .i64 q.next, .slice q.procA q.procs.length q.procC, .slice q.semA q.sems.length q.semC, .slice q.eventA q.events.length q.eventC, .slice q.boardA q.boards.length q.boardC, .slice a9 (acc.length + 1) c9, .slice q.portA q.ports.length q.portC], .bool true]) (results_row_tmp Tryz.results43 _ _ (w.heap.size + 1) _ _ _ _ (by rfl) (setRow_heap _ _ _ _ _ _ HZ.out.2.1) Tryz.underlying32 rfl (by kernel_rfl)) rfl ?_
    have hl := HZ.out.2.2.2
    rw [HN.out]
    refine ⟨({ q with buffers := (acc ++ [(⟨⟨id, most, []⟩, none, 0⟩ : BufferD)]), bufferA := a9, bufferC := c9 } : PartD), by unfold PartD.cells; simp only [HR.out.2.2]; rfl, (HZ.out.2.2.1.lower (by omega)).same fun g hg => setRow_other _ _ _ _ (by have := (HZ.out.2.2.1.lt g hg).1; omega), H10.out.2.2.2, below_setRow HZ.out.1 (by omega) _⟩
   ·have HN : Hid (withR p.pure { p.pure with buffers := insG (·.id) (⟨id, most, []⟩ : BufferP) p.pure.buffers } = none) := withR_bad hok
    clear hok
    go_wp2_with (refine wpList_store_row rfl 32 (Operand.tmp 6) (Operand.tmp 61) rfl (w.heap.size + 1) _ _ #[.int .i64 0, .int .i64 0, .slice none 0 0, .slice none 0 0, .slice none 0 0, .slice none 0 0, .slice none 0 0, .slice none 0 0] rfl rfl HZ.out.2.1 (by kernel_rfl) rfl (by kernel_rfl) ?_)
    refine bodyPost_ret (v := .tuple #[.agg #[.int .i64 0, .int .i64 0, .slice none 0 0, .slice none 0 0, .slice none 0 0, .slice none 0 0, .slice none 0 0, .slice none 0 0], .bool false]) (results_row_tmp Tryz.results43 _ _ (w.heap.size + 1) _ _ _ _ (by rfl) (setRow_heap _ _ _ _ _ _ HZ.out.2.1) Tryz.underlying32 rfl (by kernel_rfl)) rfl ?_
    exact turnRes_no HN.out (below_setRow HZ.out.1 (by omega) _)
  ·have HR : Hid (ListIn bufferK 144 #[.int .i64 id, .int .i64 most, .slice none 0 0] W2 wr acc a c ∧ acc = insG (fun y : BufferD => y.id) (⟨⟨id, most, []⟩, none, 0⟩ : BufferD) q.buffers ∧ acc.length = acc.length) := ⟨HA.out.1, HA.out.2.done hlt, rfl⟩
   have H10 : Hid (_) := putBuffer HB.out HQ.out HPB.out HR.out.1 HR.out.2.1 HR.out.2.2 rfl (fun g hg => by cases hg) (World.ownsRow_nil _ _ _ _)
   have hcall := l3Checked_any p ({ q with buffers := acc, bufferA := a, bufferC := c } : PartD) (wr.setCell ⟨o, 6, none⟩ (.slice a acc.length c)) ⟨HFT.out.1, HFT.out.2.1, H10.out.1.2.1.at⟩ (fun hr => by
    have h5 : PartP.Small ({ q with buffers := acc, bufferA := a, bufferC := c } : PartD).pure := by rw [H10.out.2.2.2]; exact insBuffer_small HFT.out.2.2.1 hr ⟨HFT.out.2.2.2, Nat.zero_le _, (fun s hs => by cases hs)⟩
    exact ⟨small_fit h5, fun x hx => (small_proc h5 hx).1, H10.out.2.2.1.at⟩)
   obtain ⟨m0, m1, m2, m3, m4, m5, m6, m7⟩ := H10.out.1.1.cells
   obtain ⟨k0, k1, k2, k3, k4, k5, k6, k7⟩ := H10.out.2.1.cells
   obtain ⟨⟨u, co⟩, fo⟩ : (∃ u, wr.cell? ⟨o, 6, none⟩ = some u) ∧ wr.frozen? ⟨o, 6, none⟩ = false := ⟨⟨_, (HQ.out.1.below HR.out.1.bel).cells.2.2.2.2.2.2.1⟩, frozen_of_row _ _ _ _ _ (HQ.out.1.below HR.out.1.bel)⟩
   unfold PartD.cells at hcall
   simp only at hcall k0 k1 k2 k3 k4 k5 k6 k7
   go_wp2_with fail
   refine hcall.mono ?_
   clear hcall m0 m1 m2 m3 m4 m5 m6 m7 k0 k1 k2 k3 k4 k5 k6 k7
   rintro e w11 ⟨hb11, hok⟩
   have hq := HQ.out.2.2.2.2
   have HZ : Hid (Below w.heap.size w w11 ∧ w11.heap[w.heap.size + 1]? = some (.cells #[.int .i64 0, .int .i64 0, .slice none 0 0, .slice none 0 0, .slice none 0 0, .slice none 0 0, .slice none 0 0, .slice none 0 0] 32 (0, 0)) ∧ PartOwn w11 W.heap.size ({ q with buffers := acc, bufferA := a, bufferC := c } : PartD) ∧ w.heap.size + 1 < W.heap.size) := ⟨H10.out.1.2.2.1.trans (hb11.mono H10.out.1.2.2.1.size), (hb11.block _ (Array.getElem?_eq_some_iff.1 H10.out.1.2.2.2).1).trans H10.out.1.2.2.2, H10.out.2.2.1.below hb11, hq.2.1⟩
   clear hb11 hq
   rw [H10.out.2.2.2] at hok
   rcases hok with ⟨hok, rfl⟩ | ⟨hok, rfl⟩
   ·have HN : Hid (withR p.pure { p.pure with buffers := insG (·.id) (⟨id, most, []⟩ : BufferP) p.pure.buffers } = some { p.pure with buffers := insG (·.id) (⟨id, most, []⟩ : BufferP) p.pure.buffers }) := withR_ok hok
    clear hok
    go_wp2_with (refine wpList_store_row rfl 32 (Operand.tmp 6) (Operand.tmp 61) rfl (w.heap.size + 1) _ _ #[.int .i64 q.id, .int .i64 q.next, .slice q.procA q.procs.length q.procC, .slice q.semA q.sems.length q.semC, .slice q.eventA q.events.length q.eventC, .slice q.boardA q.boards.length q.boardC, .slice a acc.length c, .slice q.portA q.ports.length q.portC] rfl rfl HZ.out.2.1 (by kernel_rfl) rfl (by kernel_rfl) ?_)
    refine bodyPost_ret (v := .tuple #[.agg #[.int .i64 q.id, .int .i64 q.next, .slice q.procA q.procs.length q.procC, .slice q.semA q.sems.length q.semC, .slice q.eventA q.events.length q.eventC, .slice q.boardA q.boards.length q.boardC, .slice a acc.length c, .slice q.portA q.ports.length q.portC], .bool true]) (results_row_tmp Tryz.results43 _ _ (w.heap.size + 1) _ _ _ _ (by rfl) (setRow_heap _ _ _ _ _ _ HZ.out.2.1) Tryz.underlying32 rfl (by kernel_rfl)) rfl ?_
    have hl := HZ.out.2.2.2
    rw [HN.out]
    refine ⟨({ q with buffers := acc, bufferA := a, bufferC := c } : PartD), by rfl, (HZ.out.2.2.1.lower (by omega)).same fun g hg => setRow_other _ _ _ _ (by have := (HZ.out.2.2.1.lt g hg).1; omega), H10.out.2.2.2, below_setRow HZ.out.1 (by omega) _⟩
   ·have HN : Hid (withR p.pure { p.pure with buffers := insG (·.id) (⟨id, most, []⟩ : BufferP) p.pure.buffers } = none) := withR_bad hok
    clear hok
    go_wp2_with (refine wpList_store_row rfl 32 (Operand.tmp 6) (Operand.tmp 61) rfl (w.heap.size + 1) _ _ #[.int .i64 0, .int .i64 0, .slice none 0 0, .slice none 0 0, .slice none 0 0, .slice none 0 0, .slice none 0 0, .slice none 0 0] rfl rfl HZ.out.2.1 (by kernel_rfl) rfl (by kernel_rfl) ?_)
    refine bodyPost_ret (v := .tuple #[.agg #[.int .i64 0, .int .i64 0, .slice none 0 0, .slice none 0 0, .slice none 0 0, .slice none 0 0, .slice none 0 0, .slice none 0 0], .bool false]) (results_row_tmp Tryz.results43 _ _ (w.heap.size + 1) _ _ _ _ (by rfl) (setRow_heap _ _ _ _ _ _ HZ.out.2.1) Tryz.underlying32 rfl (by kernel_rfl)) rfl ?_
    exact turnRes_no HN.out (below_setRow HZ.out.1 (by omega) _)
end Go.Proofs.YtkbcplnlehdjfaaGreat
