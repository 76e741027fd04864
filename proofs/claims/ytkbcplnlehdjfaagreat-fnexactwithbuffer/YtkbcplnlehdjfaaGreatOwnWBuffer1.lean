/- What the proof leans on, part 1: WithBufferI, WithN. -/
import Derived.Test.YtkbcplnlehdjfaaGreatOwnR1
import Derived.Test.YtkbcplnlehdjfaaGreatOwnWBuffer0

namespace Go.Proofs.YtkbcplnlehdjfaaGreat
open Go.RowKit Go.Maps
attribute [local go_sem ↓] Go.wp_at_zero Go.wp_at_succ
set_option maxRecDepth 100000 in
set_option maxHeartbeats 8000000 in
theorem implWithBuffer_any (p : PartD) (id most : Int) (w : World) (hid : (Lit.int .i64 id).wf = true) (hg : p.Good w) :
  Calls Tryz.prog 42 #[.agg p.cells, .int .i64 id, .int .i64 most] w fun e w' => TurnRes w (withR p.pure { p.pure with buffers := insG (·.id) (⟨id, most, []⟩ : BufferP) p.pure.buffers }) e w' := by
 have HB : Hid (p.Good ((w.alloc (.cells #[.int .i64 p.id, .int .i64 p.next, .slice p.procA p.procs.length p.procC, .slice p.semA p.sems.length p.semC, .slice p.eventA p.events.length p.eventC, .slice p.boardA p.boards.length p.boardC, .slice p.bufferA p.buffers.length p.bufferC, .slice p.portA p.ports.length p.portC] 32)).alloc (.cells #[.int .i64 0, .int .i64 0, .slice none 0 0, .slice none 0 0, .slice none 0 0, .slice none 0 0, .slice none 0 0, .slice none 0 0] 32)) ∧ Below w.heap.size w ((w.alloc (.cells #[.int .i64 p.id, .int .i64 p.next, .slice p.procA p.procs.length p.procC, .slice p.semA p.sems.length p.semC, .slice p.eventA p.events.length p.eventC, .slice p.boardA p.boards.length p.boardC, .slice p.bufferA p.buffers.length p.bufferC, .slice p.portA p.ports.length p.portC] 32)).alloc (.cells #[.int .i64 0, .int .i64 0, .slice none 0 0, .slice none 0 0, .slice none 0 0, .slice none 0 0, .slice none 0 0, .slice none 0 0] 32)) ∧ ((w.alloc (.cells #[.int .i64 p.id, .int .i64 p.next, .slice p.procA p.procs.length p.procC, .slice p.semA p.sems.length p.semC, .slice p.eventA p.events.length p.eventC, .slice p.boardA p.boards.length p.boardC, .slice p.bufferA p.buffers.length p.bufferC, .slice p.portA p.ports.length p.portC] 32)).alloc (.cells #[.int .i64 0, .int .i64 0, .slice none 0 0, .slice none 0 0, .slice none 0 0, .slice none 0 0, .slice none 0 0, .slice none 0 0] 32)).heap[w.heap.size + 1]? = some (.cells #[.int .i64 0, .int .i64 0, .slice none 0 0, .slice none 0 0, .slice none 0 0, .slice none 0 0, .slice none 0 0, .slice none 0 0] 32 (0, 0)) ∧ PartBox ((w.alloc (.cells #[.int .i64 p.id, .int .i64 p.next, .slice p.procA p.procs.length p.procC, .slice p.semA p.sems.length p.semC, .slice p.eventA p.events.length p.eventC, .slice p.boardA p.boards.length p.boardC, .slice p.bufferA p.buffers.length p.bufferC, .slice p.portA p.ports.length p.portC] 32)).alloc (.cells #[.int .i64 0, .int .i64 0, .slice none 0 0, .slice none 0 0, .slice none 0 0, .slice none 0 0, .slice none 0 0, .slice none 0 0] 32)) w.heap.size p ∧ (Lit.int .i64 id).wf = true) := by
  have b1 : Below w.heap.size w ((w.alloc (.cells #[.int .i64 p.id, .int .i64 p.next, .slice p.procA p.procs.length p.procC, .slice p.semA p.sems.length p.semC, .slice p.eventA p.events.length p.eventC, .slice p.boardA p.boards.length p.boardC, .slice p.bufferA p.buffers.length p.bufferC, .slice p.portA p.ports.length p.portC] 32)).alloc (.cells #[.int .i64 0, .int .i64 0, .slice none 0 0, .slice none 0 0, .slice none 0 0, .slice none 0 0, .slice none 0 0, .slice none 0 0] 32)) := ((Below.refl _ _).alloc (Nat.le_refl _) _).alloc (by simp) _
  exact ⟨hg.below b1, b1, heap_alloc2_new _ _ _, (heap_alloc_old _ _ (by simp)).trans (heap_alloc_new _ _), hid⟩
 clear hg hid
 obtain ⟨m0, m1, m2, m3, m4, m5, m6, m7⟩ := HB.out.2.2.2.1.cells
 unfold PartD.cells
 go_enter Tryz.func42, Tryz.ntmps42
 go_wp2_with fail
 generalize (w.alloc (.cells #[.int .i64 p.id, .int .i64 p.next, .slice p.procA p.procs.length p.procC, .slice p.semA p.sems.length p.semC, .slice p.eventA p.events.length p.eventC, .slice p.boardA p.boards.length p.boardC, .slice p.bufferA p.buffers.length p.bufferC, .slice p.portA p.ports.length p.portC] 32)).alloc (.cells #[.int .i64 0, .int .i64 0, .slice none 0 0, .slice none 0 0, .slice none 0 0, .slice none 0 0, .slice none 0 0, .slice none 0 0] 32) = W at *
 clear m0 m1 m2 m3 m4 m5 m6 m7
 refine (opened_any p W HB.out.1).mono ?_
 rintro e w1 ⟨hb1, ⟨hno, rfl⟩ | ⟨hyes, o, S, rfl, hat, hpu⟩⟩
 ·have HZ : Hid (Below w.heap.size w w1 ∧ w1.heap[w.heap.size + 1]? = some (.cells #[.int .i64 0, .int .i64 0, .slice none 0 0, .slice none 0 0, .slice none 0 0, .slice none 0 0, .slice none 0 0, .slice none 0 0] 32 (0, 0)) ∧ True) := ⟨HB.out.2.1.trans (hb1.mono HB.out.2.1.size), (hb1.block _ (Array.getElem?_eq_some_iff.1 HB.out.2.2.1).1).trans HB.out.2.2.1, trivial⟩
  have HN : Hid (withR p.pure { p.pure with buffers := insG (·.id) (⟨id, most, []⟩ : BufferP) p.pure.buffers } = none) := withR_not (partB_false hno)
  clear hb1 hno
  go_wp2_with (refine wpList_store_row rfl 32 (Operand.tmp 6) (Operand.tmp 28) rfl (w.heap.size + 1) _ _ #[.int .i64 0, .int .i64 0, .slice none 0 0, .slice none 0 0, .slice none 0 0, .slice none 0 0, .slice none 0 0, .slice none 0 0] rfl rfl HZ.out.2.1 (by kernel_rfl) rfl (by kernel_rfl) ?_)
  refine bodyPost_ret (v := .tuple #[.agg #[.int .i64 0, .int .i64 0, .slice none 0 0, .slice none 0 0, .slice none 0 0, .slice none 0 0, .slice none 0 0, .slice none 0 0], .bool false]) (results_row_tmp Tryz.results42 _ _ (w.heap.size + 1) _ _ _ _ (by rfl) (setRow_heap _ _ _ _ _ _ HZ.out.2.1) Tryz.underlying32 rfl (by kernel_rfl)) rfl ?_
  exact turnRes_no HN.out (below_setRow HZ.out.1 (by omega) _)
 have HZ : Hid (Below w.heap.size w w1 ∧ w1.heap[w.heap.size + 1]? = some (.cells #[.int .i64 0, .int .i64 0, .slice none 0 0, .slice none 0 0, .slice none 0 0, .slice none 0 0, .slice none 0 0, .slice none 0 0] 32 (0, 0)) ∧ PartR S.pure ∧ OpenAt w1 W.heap.size o S ∧ S.pure = p.pure ∧ w.heap.size + 1 < W.heap.size ∧ W.heap.size ≤ w1.heap.size) := ⟨HB.out.2.1.trans (hb1.mono HB.out.2.1.size), (hb1.block _ (Array.getElem?_eq_some_iff.1 HB.out.2.2.1).1).trans HB.out.2.2.1, by rw [hpu]; exact hyes, hat, hpu, (Array.getElem?_eq_some_iff.1 HB.out.2.2.1).1, hb1.size⟩
 have c0 : w1.cell? ⟨o, 10, none⟩ = some (.int .i64 5) := hat.opn.cell 10
 have c1 : w1.cell? ⟨o, 11, none⟩ = some (.map (some S.q.bf)) := hat.opn.cell 11
 have HM : Hid (partB { p.pure with buffers := insG (·.id) (⟨id, most, []⟩ : BufferP) p.pure.buffers } = layB 5 (keysOf (fun x : BufferD => x.id) S.lf) id (bufferB (⟨id, most, []⟩ : BufferP))) := by
  have h5 := moreBuffer (x := (⟨id, most, []⟩ : BufferP)) HZ.out.2.2.1
  rw [hpu] at h5
  refine h5.trans ?_
  have h6 : p.pure.buffers = S.lf.map (fun p => (fun y : BufferD => y.toBufferP) p.1) := by rw [← hpu]; rfl
  rw [h6]
  exact (lay_more (num := (fun x : BufferD => x.id)) (num' := (·.id)) (fun y : BufferD => y.toBufferP) (fun _ => rfl) bufferB (⟨⟨id, most, []⟩, none, 0⟩ : BufferD) 5 S.lf).symm
 have hcall := layBuffer_any 5 S.q.bf (keysOf (fun x : BufferD => x.id) S.lf) (⟨⟨id, most, []⟩, none, 0⟩ : BufferD) w1 hat.buffers.map HB.out.2.2.2.2 (by have h5 := (open_fits HZ.out.2.2.1).nBuffer; rw [keysOf_length]; omega) ⟨Nat.zero_le _, (fun s hs => by cases hs), (fun j u hu => by cases hu)⟩
 have HLY : Hid (∀ e w', LayEnds w1 S.q.bf (keysOf (fun x : BufferD => x.id) S.lf) (layB 5 (keysOf (fun x : BufferD => x.id) S.lf) id (bufferB (⟨id, most, []⟩ : BufferP))) id (bufferVs (⟨⟨id, most, []⟩, none, 0⟩ : BufferD)) 144 e w' → LayEnds w1 S.q.bf (keysOf (fun x : BufferD => x.id) S.lf) (partB { p.pure with buffers := insG (·.id) (⟨id, most, []⟩ : BufferP) p.pure.buffers }) id (bufferVs (⟨⟨id, most, []⟩, none, 0⟩ : BufferD)) 144 e w') := fun e w' h5 => by rw [HM.out]; exact h5
 simp only [bufferVs, List.length_nil] at hcall
 clear hb1 hyes hat hpu HM
 go_wp2_with fail
 refine hcall.mono ?_
 clear hcall c0 c1
 intro e w2 hE
 replace hE := HLY.out e w2 hE
 clear HLY
 cases hok : partB { p.pure with buffers := insG (·.id) (⟨id, most, []⟩ : BufferP) p.pure.buffers }
 ·rw [hok] at hE
  obtain ⟨rfl, hb2, -⟩ := hE
  have HZ2 : Hid (Below w.heap.size w w2 ∧ w2.heap[w.heap.size + 1]? = some (.cells #[.int .i64 0, .int .i64 0, .slice none 0 0, .slice none 0 0, .slice none 0 0, .slice none 0 0, .slice none 0 0, .slice none 0 0] 32 (0, 0)) ∧ True) := ⟨HZ.out.1.trans ((hb2 rfl).mono HZ.out.1.size), ((hb2 rfl).block _ (Array.getElem?_eq_some_iff.1 HZ.out.2.1).1).trans HZ.out.2.1, trivial⟩
  have HN : Hid (withR p.pure { p.pure with buffers := insG (·.id) (⟨id, most, []⟩ : BufferP) p.pure.buffers } = none) := withR_no hok
  clear hok hb2
  go_wp2_with (refine wpList_store_row rfl 32 (Operand.tmp 6) (Operand.tmp 28) rfl (w.heap.size + 1) _ _ #[.int .i64 0, .int .i64 0, .slice none 0 0, .slice none 0 0, .slice none 0 0, .slice none 0 0, .slice none 0 0, .slice none 0 0] rfl rfl HZ2.out.2.1 (by kernel_rfl) rfl (by kernel_rfl) ?_)
  refine bodyPost_ret (v := .tuple #[.agg #[.int .i64 0, .int .i64 0, .slice none 0 0, .slice none 0 0, .slice none 0 0, .slice none 0 0, .slice none 0 0, .slice none 0 0], .bool false]) (results_row_tmp Tryz.results42 _ _ (w.heap.size + 1) _ _ _ _ (by rfl) (setRow_heap _ _ _ _ _ _ HZ2.out.2.1) Tryz.underlying32 rfl (by kernel_rfl)) rfl ?_
  exact turnRes_no HN.out (below_setRow HZ2.out.1 (by omega) _)
 rw [hok] at hE
 obtain ⟨g, hat2, hb2⟩ := HZ.out.2.2.2.1.layBuffer (x := (⟨⟨id, most, []⟩, none, 0⟩ : BufferD)) HZ.out.2.2.2.2.2.2 (World.ownsRow_nil _ _ _ _) (fun c hc => by cases hc) hE
 obtain ⟨rfl, -, -⟩ := hE
 have hlt := HZ.out.2.2.2.2.2.1
 have HN : Hid (withR p.pure { p.pure with buffers := insG (·.id) (⟨id, most, []⟩ : BufferP) p.pure.buffers } = some { p.pure with buffers := insG (·.id) (⟨id, most, []⟩ : BufferP) p.pure.buffers }) := withR_yes (by rw [← HZ.out.2.2.2.2.1]; exact partB_true HZ.out.2.2.1) hok
 have H2 : Hid (OpenAt w2 W.heap.size o ({ S with lf := insT (fun x : BufferD => x.id) ((⟨⟨id, most, []⟩, none, 0⟩ : BufferD), g) S.lf } : OpenD) ∧ Below w.heap.size w w2 ∧ w2.heap[w.heap.size + 1]? = some (.cells #[.int .i64 0, .int .i64 0, .slice none 0 0, .slice none 0 0, .slice none 0 0, .slice none 0 0, .slice none 0 0, .slice none 0 0] 32 (0, 0)) ∧ W.heap.size ≤ w2.heap.size) := ⟨hat2, HZ.out.1.trans (hb2.mono (by omega)), (hb2.block _ hlt).trans HZ.out.2.1, by have := hb2.size; have := HZ.out.2.2.2.2.2.2; omega⟩
 have HF : Hid (({ S with lf := insT (fun x : BufferD => x.id) ((⟨⟨id, most, []⟩, none, 0⟩ : BufferD), g) S.lf } : OpenD).pure = { p.pure with buffers := insG (·.id) (⟨id, most, []⟩ : BufferP) p.pure.buffers } ∧ ({ S with lf := insT (fun x : BufferD => x.id) ((⟨⟨id, most, []⟩, none, 0⟩ : BufferD), g) S.lf } : OpenD).Fits) := by
  have h5 := moreBuffer (x := (⟨id, most, []⟩ : BufferP)) HZ.out.2.2.1
  rw [HZ.out.2.2.2.2.1, hok] at h5
  have e1 : ({ S with lf := insT (fun x : BufferD => x.id) ((⟨⟨id, most, []⟩, none, 0⟩ : BufferD), g) S.lf } : OpenD).pure = { p.pure with buffers := insG (·.id) (⟨id, most, []⟩ : BufferP) p.pure.buffers } := by
   have h6 : p.pure.buffers = S.lf.map (fun p => (fun y : BufferD => y.toBufferP) p.1) := by rw [← HZ.out.2.2.2.2.1]; rfl
   have h7 : (insT (fun x : BufferD => x.id) ((⟨⟨id, most, []⟩, none, 0⟩ : BufferD), g) S.lf).map (fun p => (fun y : BufferD => y.toBufferP) p.1) = insG (·.id) (⟨id, most, []⟩ : BufferP) p.pure.buffers := by
    rw [insT_fst (num := (fun x : BufferD => x.id)) (num' := (·.id)) (fun y : BufferD => y.toBufferP) (fun _ => rfl), ← h6]
   rw [← HZ.out.2.2.2.2.1] at h7 ⊢
   unfold OpenD.pure at h7 ⊢
   simp only at h7 ⊢
   rw [← h7]
  exact ⟨e1, open_fits (by rw [e1]; exact (partB_iff _).1 hok)⟩
 clear hat2 hb2 hok
 go_wp2_with fail
 refine (toldPart_any o W.heap.size _ w2 H2.out.1 HF.out.2).mono ?_
 rintro e w3 ⟨r, rfl, ho3, hp3, hb3⟩
 have H3 : Hid (PartOwn w3 W.heap.size r ∧ Below w.heap.size w w3 ∧ w3.heap[w.heap.size + 1]? = some (.cells #[.int .i64 0, .int .i64 0, .slice none 0 0, .slice none 0 0, .slice none 0 0, .slice none 0 0, .slice none 0 0, .slice none 0 0] 32 (0, 0)) ∧ r.pure = { p.pure with buffers := insG (·.id) (⟨id, most, []⟩ : BufferP) p.pure.buffers }) := ⟨ho3, H2.out.2.1.trans (hb3.mono H2.out.2.1.size), (hb3.block _ (Array.getElem?_eq_some_iff.1 H2.out.2.2.1).1).trans H2.out.2.2.1, hp3.trans HF.out.1⟩
 clear ho3 hp3 hb3
 go_wp2_with (refine wpList_store_row rfl 32 (Operand.tmp 6) (Operand.tmp 30) rfl (w.heap.size + 1) _ _ (PartD.cells r) rfl rfl H3.out.2.2.1 (by kernel_rfl) rfl (by kernel_rfl) ?_)
 refine bodyPost_ret (v := .tuple #[.agg (PartD.cells r), .bool true]) (results_row_tmp Tryz.results42 _ _ (w.heap.size + 1) _ _ _ _ (by rfl) (setRow_heap _ _ _ _ _ _ H3.out.2.2.1) Tryz.underlying32 rfl (by kernel_rfl)) rfl ?_
 rw [HN.out]
 exact ⟨r, rfl, (H3.out.1.lower (by omega)).same fun b hb => setRow_other _ _ _ _ (by have := (H3.out.1.lt b hb).1; omega), H3.out.2.2.2, below_setRow H3.out.2.1 (by omega) _⟩
end Go.Proofs.YtkbcplnlehdjfaaGreat

/- A list that is made anew by appending, and a partition with it. (Made by mkwithnb.py.) -/
namespace Go.Proofs.YtkbcplnlehdjfaaGreat
open Go.RowKit Go.Maps
section
variable {α : Type} {num : α → Int}
theorem insG_map {β : Type} {num' : β → Int} (f : α → β) (hf : ∀ y, num' (f y) = num y) (x : α) : ∀ l : List α, (insG num x l).map f = insG num' (f x) (l.map f)
 | [] => rfl
 | y :: r => by
  simp only [insG, List.map_cons, hf]
  split
  ·simp
  ·simp [insG_map f hf x r]
theorem insG_all {x : α} : ∀ {l : List α}, (∀ y ∈ l, ¬ num x < num y) → insG num x l = l ++ [x]
 | [], _ => rfl
 | y :: r, h => by
  simp only [insG, if_neg (h y (by simp)), List.cons_append]
  rw [insG_all fun z hz => h z (by simp [hz])]
theorem insG_more {x : α} : ∀ {l r : List α}, (∃ y ∈ l, num x < num y) → insG num x (l ++ r) = insG num x l ++ r
 | [], _, h => by obtain ⟨y, hy, _⟩ := h; cases hy
 | y :: l, r, h => by
  simp only [List.cons_append, insG]
  split
  ·rfl
  ·rename_i hn
   rw [insG_more, List.cons_append]
   obtain ⟨z, hz, hlt⟩ := h
   rcases List.mem_cons.1 hz with rfl | hz
   ·exact absurd hlt hn
   ·exact ⟨z, hz, hlt⟩
theorem insG_first {x y : α} {l : List α} (h : ∀ z ∈ l, ¬ num x < num z) (hy : num x < num y) : insG num x (l ++ [y]) = l ++ [x] ++ [y] := by
 induction l with
 | nil => simp [insG, hy]
 | cons z r ih =>
  simp only [List.cons_append, insG, if_neg (h z (by simp))]
  rw [ih fun u hu => h u (by simp [hu])]
theorem insG_perm (x : α) : ∀ l : List α, (insG num x l).Perm (x :: l)
 | [] => List.Perm.refl _
 | y :: r => by
  simp only [insG]
  split
  ·exact List.Perm.refl _
  ·exact (List.Perm.cons y (insG_perm x r)).trans (List.Perm.swap x y r)
/-- What stands in the list behind k rounds. -/
def AccIs (num : α → Int) (x : α) (l : List α) (k : Nat) (dn : Bool) (acc : List α) : Prop :=
 (dn = false ∧ acc = l.take k ∧ ∀ y ∈ l.take k, ¬ num x < num y) ∨ (dn = true ∧ acc = insG num x (l.take k) ∧ ∃ y ∈ l.take k, num x < num y)
theorem AccIs.start (x : α) (l : List α) : AccIs num x l 0 false [] := .inl ⟨rfl, by simp, fun y hy => by simp at hy⟩
theorem AccIs.on {x y : α} {l : List α} {k : Nat} {acc : List α} (h : AccIs num x l k true acc) (hy : l[k]? = some y) : AccIs num x l (k + 1) true (acc ++ [y]) := by
 rcases h with ⟨h, -⟩ | ⟨-, rfl, z, hz, hlt⟩
 ·cases h
 ·rw [AccIs, take_up hy]
  exact .inr ⟨rfl, (insG_more ⟨z, hz, hlt⟩).symm, z, List.mem_append_left _ hz, hlt⟩
theorem AccIs.past {x y : α} {l : List α} {k : Nat} {acc : List α} (h : AccIs num x l k false acc) (hy : l[k]? = some y) (hn : ¬ num x < num y) : AccIs num x l (k + 1) false (acc ++ [y]) := by
 rcases h with ⟨-, rfl, h⟩ | ⟨h, -⟩
 ·rw [AccIs, take_up hy]
  refine .inl ⟨rfl, rfl, fun z hz => ?_⟩
  rcases List.mem_append.1 hz with hz | hz
  ·exact h z hz
  ·rw [List.mem_singleton.1 hz]; exact hn
 ·cases h
theorem AccIs.here {x y : α} {l : List α} {k : Nat} {acc : List α} (h : AccIs num x l k false acc) (hy : l[k]? = some y) (hn : num x < num y) : AccIs num x l (k + 1) true (acc ++ [x] ++ [y]) := by
 rcases h with ⟨-, rfl, h⟩ | ⟨h, -⟩
 ·rw [AccIs, take_up hy]
  exact .inr ⟨rfl, (insG_first h hn).symm, y, by simp, hn⟩
 ·cases h
theorem AccIs.done {x : α} {l : List α} {k : Nat} {acc : List α} (h : AccIs num x l k true acc) (hk : ¬ k < l.length) : acc = insG num x l := by
 rcases h with ⟨h, -⟩ | ⟨-, rfl, -⟩
 ·cases h
 ·rw [List.take_of_length_le (by omega)]
theorem AccIs.last {x : α} {l : List α} {k : Nat} {acc : List α} (h : AccIs num x l k false acc) (hk : ¬ k < l.length) : acc ++ [x] = insG num x l := by
 rcases h with ⟨-, rfl, h⟩ | ⟨h, -⟩
 ·rw [List.take_of_length_le (by omega)] at h ⊢
  exact (insG_all h).symm
 ·cases h
theorem AccIs.le {x : α} {l : List α} {k : Nat} {dn : Bool} {acc : List α} (h : AccIs num x l k dn acc) : acc.length ≤ l.length + 1 := by
 rcases h with ⟨-, rfl, -⟩ | ⟨-, rfl, -⟩
 ·rw [List.length_take]; omega
 ·rw [insG_length, List.length_take]; omega
end
/-- The list, and beside it the thing in its box. -/
structure ListIn {α : Type} (K : Kind α) (T : TypeId) (XV : Array Value) (W w : World) (acc : List α) (a : Option Addr) (c : Nat) : Prop where
 own : w.ownsRow W.heap.size T K.n (.slice a acc.length c) acc.length (K.flat acc)
 ne : ∀ g ∈ blk a, g ≠ W.heap.size + 1
 bel : Below W.heap.size W w
 box : w.heap[W.heap.size + 1]? = some (.cells XV T (0, 0))
theorem ListIn.start {α : Type} {K : Kind α} {T : TypeId} {XV : Array Value} {W : World} : ListIn K T XV W ((W.alloc (.cells #[] T)).alloc (.cells XV T)) [] (some ⟨W.heap.size, 0, none⟩) 0 := by
 have b1 : Below W.heap.size W (W.alloc (.cells #[] T)) := (Below.refl _ _).alloc (Nat.le_refl _) _
 refine ⟨own_empty ((heap_alloc_old _ _ (by simp)).trans (heap_alloc_new _ _)) (Nat.le_refl _), fun g hg => by simp [blk] at hg; omega, b1.alloc b1.size _, heap_alloc2_new _ _ _⟩
/-- One more, from a block that is made for it. -/
theorem ListIn.add {α : Type} {K : Kind α} {T : TypeId} {XV : Array Value} {W w : World} {acc : List α} {a : Option Addr} {c : Nat} (h : ListIn K T XV W w acc a c) (t : TypeId) (bytes : Nat) {z0 : Value} {P : Program} (ht : P.underlying t = some (.slice T))
  (hi : (P.info? T).map (fun i => (i.zero, i.size, i.bytes)) = some (some z0, K.n, bytes)) (hz : z0.cells.size = K.n) (hn : 0 < K.n) (hby : bytes ≤ 1000) (z : α) (zs : Array Value) (hzs : zs.toList = K.vals z) (h1 : ∀ u ∈ K.vals z, u.oneCell' = true) (hl : acc.length ≤ 2000000) :
  ∃ a' c' w', (Builtin.append_ #[t, t] t #[.slice a acc.length c, .slice (some ⟨w.heap.size, 0, none⟩) 1 1]).run P (w.alloc (.cells zs T)) = .ok (.slice a' (acc.length + 1) c') w' ∧ ListIn K T XV W w' (acc ++ [z]) a' c' := by
 obtain ⟨i, hi, e⟩ := Option.map_eq_some_iff.1 hi
 simp only [Prod.mk.injEq] at e
 have b1 : Below w.heap.size w (w.alloc (.cells zs T)) := (Below.refl _ _).alloc (Nat.le_refl _) _
 have b2 := h.bel.trans (b1.mono h.bel.size)
 have hlt := (Array.getElem?_eq_some_iff.1 h.box).1
 obtain ⟨a', c', w', hr, ho, hg, hq⟩ := append_more (P := P) (w.alloc (.cells zs T)) W.heap.size t t T i z0 K.n bytes ht hi e.1 e.2.1 e.2.2 hz hn a acc.length c _ (own_below h.own b1) (some ⟨w.heap.size, 0, none⟩) 1 1 (K.vals z) (by rw [← hzs]; exact src_block (heap_alloc_new _ _)) (by rw [K.len, Nat.one_mul]) h1 (by omega) hby b2.size
 refine ⟨a', c', w', hr, ⟨?_, fun g hg2 => ?_, b2.grown hg b2.size fun k e => (own_lt h.own (own_block e)).1, ?_⟩⟩
 ·have e1 : (acc ++ [z]).length = acc.length + 1 := by simp
  rw [e1, K.flat_append]
  have e2 : K.flat [z] = K.vals z := by simp [Kind.flat]
  rw [e2]
  exact ho
 ·rcases hq g hg2 with h5 | h5
  ·exact h.ne g h5
  ·rw [h5]; have := b1.size; omega
 ·refine (hg.block _ (by simp; omega) (fun e => ?_)).trans ((b1.block _ hlt).trans h.box)
  exact h.ne _ (own_block e.symm) rfl
theorem nodup_swap2 {Z A A' C C' R : List Nat} (h : (Z ++ (A ++ (C ++ R))).Nodup) (hA : A'.Nodup) (hC : C'.Nodup) (h1 : ∀ g ∈ A', g ∉ Z ++ (A ++ (C ++ R)) ∧ g ∉ C') (h2 : ∀ g ∈ C', g ∈ C ∨ g ∉ Z ++ (A ++ (C ++ R))) : (Z ++ (A' ++ (C' ++ R))).Nodup := by
 simp only [List.mem_append, not_or] at h1 h2
 simp only [List.nodup_append, List.mem_append] at h ⊢
 obtain ⟨hz, ⟨-, ⟨-, hR, hCR⟩, -⟩, hzz⟩ := h
 refine ⟨hz, ⟨hA, ⟨hC, hR, fun a ha b hb e => ?_⟩, fun a ha b hb e => ?_⟩, fun a ha b hb e => ?_⟩
 ·rcases h2 a ha with h5 | h5
  ·exact hCR a h5 b hb e
  ·exact h5.2.2.2 (e ▸ hb)
 ·rcases hb with hb | hb
  ·exact (h1 a ha).2 (e ▸ hb)
  ·exact (h1 a ha).1.2.2.2 (e ▸ hb)
 ·rcases hb with hb | hb | hb
  ·exact (h1 b hb).1.1 (e ▸ ha)
  ·rcases h2 b hb with h5 | h5
   ·exact hzz a ha b (.inr (.inl h5)) e
   ·exact h5.1 (e ▸ ha)
  ·exact hzz a ha b (.inr (.inr hb)) e
theorem one_buffer {x : BufferD} : ∀ u ∈ bufferK.vals x, u.oneCell' = true := fun u hu => by
 simp only [bufferK, bufferVals, List.mem_cons, List.not_mem_nil, or_false] at hu
 rcases hu with rfl | rfl | rfl <;> rfl
theorem PartOwn.newBuffer {w w' : World} {base B : Nat} {q : PartD} {l : List BufferD} {a' : Option Addr} {c' : Nat} (h : PartOwn w base q) (hb : base ≤ B) (hB : ∀ g ∈ q.blocks, g < B) (hs : ∀ g ∈ q.blocks, w'.heap[g]? = w.heap[g]?)
  (ho : w'.ownsRow B 144 3 (.slice a' l.length c') l.length (bufferK.flat l)) (hm : ∀ x ∈ l, bufferN.Mine w' base x) (hn : (l.filterMap bufferN.kid).Nodup) (hk : ∀ g ∈ l.filterMap bufferN.kid, g ∈ q.buffers.filterMap bufferN.kid ∨ g ∉ q.blocks) (hk2 : ∀ g ∈ l.filterMap bufferN.kid, g < B) : PartOwn w' base ({ q with buffers := l, bufferA := a', bufferC := c' } : PartD) := by
 refine ⟨own_same h.procs fun g hg => hs g (by simp [PartD.blocks, hg]), own_same h.sems fun g hg => hs g (by simp [PartD.blocks, hg]), own_same h.events fun g hg => hs g (by simp [PartD.blocks, hg]), own_same h.boards fun g hg => hs g (by simp [PartD.blocks, hg]), own_low ho hb, own_same h.ports fun g hg => hs g (by simp [PartD.blocks, hg]), fun x hx => (h.mineP x hx).same fun g hg => hs g ?_, hm, fun x hx => (h.mineQ x hx).same fun g hg => hs g ?_, ?_⟩
 ·simp only [PartD.blocks, List.mem_append, List.mem_filterMap]
  exact .inr (.inl ⟨x, hx, hg⟩)
 ·simp only [PartD.blocks, List.mem_append, List.mem_filterMap]
  exact .inr (.inr (.inr (.inr (.inr (.inr (.inr (.inr ⟨x, hx, hg⟩)))))))
 ·have h5 := h.nodup
  have h6 : ∀ g ∈ blk a', g ∉ q.blocks ∧ g ∉ l.filterMap bufferN.kid := fun g hg => ⟨fun hm => by have := (own_lt ho hg).1; have := hB g hm; omega, fun hm => by have := (own_lt ho hg).1; have := hk2 g hm; omega⟩
  have e1 : ({ q with buffers := l, bufferA := a', bufferC := c' } : PartD).blocks = (blk q.procA ++ (q.procs.filterMap procN.kid ++ (blk q.semA ++ (blk q.eventA ++ (blk q.boardA))))) ++ (blk a' ++ (l.filterMap bufferN.kid ++ (blk q.portA ++ (q.ports.filterMap portN.kid)))) := by simp [PartD.blocks]
  have e3 : q.blocks = (blk q.procA ++ (q.procs.filterMap procN.kid ++ (blk q.semA ++ (blk q.eventA ++ (blk q.boardA))))) ++ (blk q.bufferA ++ (q.buffers.filterMap bufferN.kid ++ (blk q.portA ++ (q.ports.filterMap portN.kid)))) := by simp [PartD.blocks]
  rw [e1]
  rw [e3] at h5 h6 hk
  exact nodup_swap2 h5 (blk_nodup _) hn h6 hk
end Go.Proofs.YtkbcplnlehdjfaaGreat
