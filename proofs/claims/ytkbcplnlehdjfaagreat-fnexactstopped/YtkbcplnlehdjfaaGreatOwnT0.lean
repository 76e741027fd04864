/- What the proof leans on, part 0: ProcOfI, StoppedS, StoppedI. -/
import Derived.Test.YtkbcplnlehdjfaaGreatOwnR1
import Derived.Test.YtkbcplnlehdjfaaGreatOwnR33
import Derived.Test.YtkbcplnlehdjfaaGreatOwnR35
import Derived.Deep.MidRow

namespace Go.Proofs.YtkbcplnlehdjfaaGreat
open Go.RowKit Go.Maps
attribute [local go_sem ↓] Go.wp_at_zero Go.wp_at_succ
/-- The process of that number. -/
def zeroP : ProcP := ⟨0, 0, [], 0, 0, 0, 0, 0, noT, noT, 0, 0⟩
def procOfP (p : PartP) (id : Int) : Option ProcP := if partB p then p.procs.find? (fun x => decide (x.id = id)) else none
/-- What asking for a process ends in: it, or none, in memory of its own. -/
def ProcEnds (w : World) (r : Option ProcP) (e : Ending) (w' : World) : Prop := ∃ x : ProcD, e = .returned (.tuple #[.agg (procVs x), .bool r.isSome]) ∧ procN.Mine w' w.heap.size x ∧ x.toProcP = r.getD zeroP ∧ Below w.heap.size w w'
theorem place_find (id : Int) : ∀ (l : List ProcP) (k : Nat), (place (l.map (·.id)) id k = -1 ∧ l.find? (fun x => decide (x.id = id)) = none) ∨ ∃ n x, place (l.map (·.id)) id k = ((k + n : Nat) : Int) ∧ l[n]? = some x ∧ l.find? (fun x => decide (x.id = id)) = some x
 | [], k => .inl ⟨rfl, rfl⟩
 | x :: r, k => by
  by_cases h : x.id = id
  ·refine .inr ⟨0, x, ?_, rfl, by simp [h]⟩
   simp [place, h]
  ·rcases place_find id r (k + 1) with ⟨h1, h2⟩ | ⟨n, y, h1, h2, h3⟩
   ·exact .inl ⟨by simp only [List.map_cons, place]; rw [if_neg h]; exact h1, by simp only [List.find?_cons, h, decide_false]; exact h2⟩
   ·refine .inr ⟨n + 1, y, ?_, h2, by simp only [List.find?_cons, h, decide_false]; exact h3⟩
    simp only [List.map_cons, place]
    rw [if_neg h, h1]
    omega
theorem look_find (id : Int) (lp : List (ProcD × Nat)) : lookM (keysOf (fun x : ProcD => x.id) lp) id = (lp.find? (fun p => decide (p.1.id = id))).map (·.2) := by
 unfold lookM keysOf
 rw [List.find?_map, Option.map_map]
 have e : ((fun p : Int × Nat => p.1 == id) ∘ fun p : ProcD × Nat => (p.1.id, p.2)) = fun p => decide (p.1.id = id) := by
  funext p
  show (p.1.id == id) = _
  rw [Bool.beq_eq_decide_eq]
 rw [e]
 rfl
theorem find_pure (id : Int) (lp : List (ProcD × Nat)) : (lp.map fun p => p.1.toProcP).find? (fun x => decide (x.id = id)) = (lp.find? (fun p => decide (p.1.id = id))).map (fun p => p.1.toProcP) := by
 rw [List.find?_map]
 rfl
end Go.Proofs.YtkbcplnlehdjfaaGreat

/- A process that is stopped: the specification. (Made by mkstopped.py.) -/
namespace Go.Proofs.YtkbcplnlehdjfaaGreat
open Go.RowKit Go.Maps
attribute [local go_sem ↓] Go.wp_at_zero Go.wp_at_succ
/-- A process that is at rest. -/
def restP (y : ProcP) : ProcP := ⟨y.id, y.prio, y.prog, 0, 0, 0, 0, 0, noT, y.got, y.code, 0⟩
def restD (y : ProcD) : ProcD := ⟨restP y.toProcP, y.progA, y.progC⟩
def stoppedP (p : PartP) (id : Int) : Option PartP := turnedP p id (fun y => !decide (y.state = 0)) restP p.next
set_option maxRecDepth 100000 in
set_option maxHeartbeats 4000000 in
theorem l4Dormant_any (x : ProcD) (w : World) : Calls Tryz.prog 100 #[.agg #[.int .i64 x.id, .int .i64 x.prio, .slice x.progA x.prog.length x.progC, .int .i64 x.state, .int .i64 x.pc, .int .i64 x.left, .int .i64 x.wake, .int .i64 x.on, .string x.held, .string x.got, .int .i64 x.code, .int .i64 x.since]] w fun e w' => e = .returned (.agg #[.int .i64 x.id, .int .i64 x.prio, .slice x.progA x.prog.length x.progC, .int .i64 0, .int .i64 0, .int .i64 0, .int .i64 0, .int .i64 0, .string ⟨#[]⟩, .string x.got, .int .i64 x.code, .int .i64 0]) ∧ Below w.heap.size w w' := by
 have HB : Hid (Below w.heap.size w ((w.alloc (.cells #[.int .i64 x.id, .int .i64 x.prio, .slice x.progA x.prog.length x.progC, .int .i64 x.state, .int .i64 x.pc, .int .i64 x.left, .int .i64 x.wake, .int .i64 x.on, .string x.held, .string x.got, .int .i64 x.code, .int .i64 x.since] 43)).alloc (.cells #[.int .i64 0, .int .i64 0, .slice none 0 0, .int .i64 0, .int .i64 0, .int .i64 0, .int .i64 0, .int .i64 0, .string ⟨#[]⟩, .string ⟨#[]⟩, .int .i64 0, .int .i64 0] 43)) ∧ ((w.alloc (.cells #[.int .i64 x.id, .int .i64 x.prio, .slice x.progA x.prog.length x.progC, .int .i64 x.state, .int .i64 x.pc, .int .i64 x.left, .int .i64 x.wake, .int .i64 x.on, .string x.held, .string x.got, .int .i64 x.code, .int .i64 x.since] 43)).alloc (.cells #[.int .i64 0, .int .i64 0, .slice none 0 0, .int .i64 0, .int .i64 0, .int .i64 0, .int .i64 0, .int .i64 0, .string ⟨#[]⟩, .string ⟨#[]⟩, .int .i64 0, .int .i64 0] 43)).heap[w.heap.size + 1]? = some (.cells #[.int .i64 0, .int .i64 0, .slice none 0 0, .int .i64 0, .int .i64 0, .int .i64 0, .int .i64 0, .int .i64 0, .string ⟨#[]⟩, .string ⟨#[]⟩, .int .i64 0, .int .i64 0] 43 (0, 0))) := ⟨((Below.refl _ _).alloc (Nat.le_refl _) _).alloc (by simp) _, heap_alloc2_new _ _ _⟩
 go_enter Tryz.func100, Tryz.ntmps100
 go_wp2_with (refine wpList_store_row rfl 43 (Operand.tmp 2) (Operand.tmp 13) rfl (w.heap.size + 1) _ _ #[.int .i64 x.id, .int .i64 x.prio, .slice x.progA x.prog.length x.progC, .int .i64 0, .int .i64 0, .int .i64 0, .int .i64 0, .int .i64 0, .string ⟨#[]⟩, .string x.got, .int .i64 x.code, .int .i64 0] rfl rfl HB.out.2 (by kernel_rfl) rfl (by kernel_rfl) ?_)
 refine bodyPost_ret (v := .agg #[.int .i64 x.id, .int .i64 x.prio, .slice x.progA x.prog.length x.progC, .int .i64 0, .int .i64 0, .int .i64 0, .int .i64 0, .int .i64 0, .string ⟨#[]⟩, .string x.got, .int .i64 x.code, .int .i64 0]) (results_cell_row Tryz.results100 _ _ (w.heap.size + 1) _ _ (0, 0) _ rfl (setRow_heap _ _ _ _ _ _ HB.out.2) Tryz.underlying43 rfl (by kernel_rfl)) rfl ?_
 exact ⟨rfl, below_setRow HB.out.1 (by omega) _⟩
def StopS (O gs n : Nat) (q : PartD) (x : ProcD) (w' : World) : Prop := w'.cell? ⟨O, 2, none⟩ = some (.slice (some ⟨gs, 0, none⟩) q.procs.length q.procC) ∧ w'.cell? ⟨gs, n * 12, none⟩ = some (.int .i64 x.id) ∧ w'.cell? ⟨gs, n * 12 + 1, none⟩ = some (.int .i64 x.prio) ∧ w'.cell? ⟨gs, n * 12 + 2, none⟩ = some (.slice x.progA x.prog.length x.progC) ∧ w'.cell? ⟨gs, n * 12 + 3, none⟩ = some (.int .i64 x.state) ∧ w'.cell? ⟨gs, n * 12 + 4, none⟩ = some (.int .i64 x.pc) ∧ w'.cell? ⟨gs, n * 12 + 5, none⟩ = some (.int .i64 x.left) ∧ w'.cell? ⟨gs, n * 12 + 6, none⟩ = some (.int .i64 x.wake) ∧ w'.cell? ⟨gs, n * 12 + 7, none⟩ = some (.int .i64 x.on) ∧ w'.cell? ⟨gs, n * 12 + 8, none⟩ = some (.string x.held) ∧ w'.cell? ⟨gs, n * 12 + 9, none⟩ = some (.string x.got) ∧ w'.cell? ⟨gs, n * 12 + 10, none⟩ = some (.int .i64 x.code) ∧ w'.cell? ⟨gs, n * 12 + 11, none⟩ = some (.int .i64 x.since)
theorem stopS_of {O gs n base : Nat} {q : PartD} {x : ProcD} {w : World} (h : w.heap[O]? = some (.cells #[.int .i64 q.id, .int .i64 q.next, .slice (some ⟨gs, 0, none⟩) q.procs.length q.procC, .slice q.semA q.sems.length q.semC, .slice q.eventA q.events.length q.eventC, .slice q.boardA q.boards.length q.boardC, .slice q.bufferA q.buffers.length q.bufferC, .slice q.portA q.ports.length q.portC] 32 (0, 0))) (ho : PartOwn w base q) (hx : q.procs[n]? = some x) (ha : q.procA = some ⟨gs, 0, none⟩) : StopS O gs n q x w := by
 obtain ⟨g, hg, hat⟩ := proc_at ho.at.1 hx
 rw [ha] at hg
 cases hg
 exact ⟨by simp [World.cell?, h], hat⟩
set_option maxRecDepth 100000 in
set_option maxHeartbeats 8000000 in
theorem specStopped_any (p : PartD) (id : Int) (w : World) (hf : p.Fit) (hs : ∀ x ∈ p.procs, x.Short) (h : PartD.At w p) :
  Calls Tryz.prog 51 #[.agg p.cells, .int .i64 id] w fun e w' => TurnRes w (stoppedP p.pure id) e w' := by
 have HB : Hid (PartBox ((w.alloc (.cells #[.int .i64 p.id, .int .i64 p.next, .slice p.procA p.procs.length p.procC, .slice p.semA p.sems.length p.semC, .slice p.eventA p.events.length p.eventC, .slice p.boardA p.boards.length p.boardC, .slice p.bufferA p.buffers.length p.bufferC, .slice p.portA p.ports.length p.portC] 32)).alloc (.cells #[.int .i64 0, .int .i64 0, .slice none 0 0, .slice none 0 0, .slice none 0 0, .slice none 0 0, .slice none 0 0, .slice none 0 0] 32)) w.heap.size p ∧ PartD.At ((w.alloc (.cells #[.int .i64 p.id, .int .i64 p.next, .slice p.procA p.procs.length p.procC, .slice p.semA p.sems.length p.semC, .slice p.eventA p.events.length p.eventC, .slice p.boardA p.boards.length p.boardC, .slice p.bufferA p.buffers.length p.bufferC, .slice p.portA p.ports.length p.portC] 32)).alloc (.cells #[.int .i64 0, .int .i64 0, .slice none 0 0, .slice none 0 0, .slice none 0 0, .slice none 0 0, .slice none 0 0, .slice none 0 0] 32)) p ∧ Below w.heap.size w ((w.alloc (.cells #[.int .i64 p.id, .int .i64 p.next, .slice p.procA p.procs.length p.procC, .slice p.semA p.sems.length p.semC, .slice p.eventA p.events.length p.eventC, .slice p.boardA p.boards.length p.boardC, .slice p.bufferA p.buffers.length p.bufferC, .slice p.portA p.ports.length p.portC] 32)).alloc (.cells #[.int .i64 0, .int .i64 0, .slice none 0 0, .slice none 0 0, .slice none 0 0, .slice none 0 0, .slice none 0 0, .slice none 0 0] 32)) ∧ ((w.alloc (.cells #[.int .i64 p.id, .int .i64 p.next, .slice p.procA p.procs.length p.procC, .slice p.semA p.sems.length p.semC, .slice p.eventA p.events.length p.eventC, .slice p.boardA p.boards.length p.boardC, .slice p.bufferA p.buffers.length p.bufferC, .slice p.portA p.ports.length p.portC] 32)).alloc (.cells #[.int .i64 0, .int .i64 0, .slice none 0 0, .slice none 0 0, .slice none 0 0, .slice none 0 0, .slice none 0 0, .slice none 0 0] 32)).heap[w.heap.size + 1]? = some (.cells #[.int .i64 0, .int .i64 0, .slice none 0 0, .slice none 0 0, .slice none 0 0, .slice none 0 0, .slice none 0 0, .slice none 0 0] 32 (0, 0))) := by
  have b1 : Below w.heap.size w ((w.alloc (.cells #[.int .i64 p.id, .int .i64 p.next, .slice p.procA p.procs.length p.procC, .slice p.semA p.sems.length p.semC, .slice p.eventA p.events.length p.eventC, .slice p.boardA p.boards.length p.boardC, .slice p.bufferA p.buffers.length p.bufferC, .slice p.portA p.ports.length p.portC] 32)).alloc (.cells #[.int .i64 0, .int .i64 0, .slice none 0 0, .slice none 0 0, .slice none 0 0, .slice none 0 0, .slice none 0 0, .slice none 0 0] 32)) := ((Below.refl _ _).alloc (Nat.le_refl _) _).alloc (by simp) _
  exact ⟨(heap_alloc_old _ _ (by simp)).trans (heap_alloc_new _ _), h.below b1, b1, heap_alloc2_new _ _ _⟩
 have HFT : Hid (p.Fit ∧ ∀ x ∈ p.procs, x.Short) := ⟨hf, hs⟩
 have hpl := hf.short.procs
 clear h hf hs
 obtain ⟨m0, m1, m2, m3, m4, m5, m6, m7⟩ := HB.out.1.cells
 unfold PartD.cells
 go_enter Tryz.func51, Tryz.ntmps51
 go_wp2_with fail
 generalize (w.alloc (.cells #[.int .i64 p.id, .int .i64 p.next, .slice p.procA p.procs.length p.procC, .slice p.semA p.sems.length p.semC, .slice p.eventA p.events.length p.eventC, .slice p.boardA p.boards.length p.boardC, .slice p.bufferA p.buffers.length p.bufferC, .slice p.portA p.ports.length p.portC] 32)).alloc (.cells #[.int .i64 0, .int .i64 0, .slice none 0 0, .slice none 0 0, .slice none 0 0, .slice none 0 0, .slice none 0 0, .slice none 0 0] 32) = W at *
 clear m0 m1 m2 m3 m4 m5 m6 m7
 refine (l3Proc_any p id W hpl HB.out.2.1).mono ?_
 rintro e W1 ⟨rfl, hb⟩
 replace HB : Hid (PartBox W1 w.heap.size p ∧ PartD.At W1 p ∧ Below w.heap.size w W1 ∧ W1.heap[w.heap.size + 1]? = some (.cells #[.int .i64 0, .int .i64 0, .slice none 0 0, .slice none 0 0, .slice none 0 0, .slice none 0 0, .slice none 0 0, .slice none 0 0] 32 (0, 0))) := ⟨HB.out.1.below hb, HB.out.2.1.below hb, HB.out.2.2.1.trans (hb.mono HB.out.2.2.1.size), (hb.block _ (Array.getElem?_eq_some_iff.1 HB.out.2.2.2).1).trans HB.out.2.2.2⟩
 clear hb
 obtain ⟨m0, m1, m2, m3, m4, m5, m6, m7⟩ := HB.out.1.cells
 have hpf := place_find id p.pure.procs 0
 rw [show p.pure.procs.map (·.id) = p.procs.map (·.id) by simp [PartD.pure, Function.comp_def]] at hpf
 have HPF : Hid (_) := hpf
 clear hpf
 generalize place (p.procs.map (·.id)) id 0 = z at *
 go_wp2_with fail
 clear m0 m1 m2 m3 m4 m5 m6 m7
 refine (specPartOk_any p W1 HFT.out.1 HFT.out.2 HB.out.2.1).mono ?_
 rintro e W2 ⟨rfl, hb⟩
 replace HB : Hid (PartBox W2 w.heap.size p ∧ PartD.At W2 p ∧ Below w.heap.size w W2 ∧ W2.heap[w.heap.size + 1]? = some (.cells #[.int .i64 0, .int .i64 0, .slice none 0 0, .slice none 0 0, .slice none 0 0, .slice none 0 0, .slice none 0 0, .slice none 0 0] 32 (0, 0))) := ⟨HB.out.1.below hb, HB.out.2.1.below hb, HB.out.2.2.1.trans (hb.mono HB.out.2.2.1.size), (hb.block _ (Array.getElem?_eq_some_iff.1 HB.out.2.2.2).1).trans HB.out.2.2.2⟩
 clear hb
 obtain ⟨m0, m1, m2, m3, m4, m5, m6, m7⟩ := HB.out.1.cells
 cases h4 : partB p.pure
 ·have HN : Hid (stoppedP p.pure id = none) := turned_not h4
  clear h4
  go_wp2_with (refine wpList_store_row rfl 32 (Operand.tmp 4) (Operand.tmp 27) rfl (w.heap.size + 1) _ _ #[.int .i64 0, .int .i64 0, .slice none 0 0, .slice none 0 0, .slice none 0 0, .slice none 0 0, .slice none 0 0, .slice none 0 0] rfl rfl HB.out.2.2.2 (by kernel_rfl) rfl (by kernel_rfl) ?_)
  refine bodyPost_ret (v := .tuple #[.agg #[.int .i64 0, .int .i64 0, .slice none 0 0, .slice none 0 0, .slice none 0 0, .slice none 0 0, .slice none 0 0, .slice none 0 0], .bool false]) (results_row_tmp Tryz.results51 _ _ (w.heap.size + 1) _ _ _ _ (by rfl) (setRow_heap _ _ _ _ _ _ HB.out.2.2.2) Tryz.underlying32 rfl (by kernel_rfl)) rfl ?_
  exact turnRes_no HN.out (below_setRow HB.out.2.2.1 (by omega) _)
 have H4 : Hid (partB p.pure = true) := h4
 clear h4
 rcases HPF.out with ⟨hz, hnf⟩ | ⟨n, y0, hz, hn, hfd⟩
 ·have HN : Hid (stoppedP p.pure id = none) := turned_none hnf
  subst hz
  clear hnf HPF
  go_wp2_with (refine wpList_store_row rfl 32 (Operand.tmp 4) (Operand.tmp 27) rfl (w.heap.size + 1) _ _ #[.int .i64 0, .int .i64 0, .slice none 0 0, .slice none 0 0, .slice none 0 0, .slice none 0 0, .slice none 0 0, .slice none 0 0] rfl rfl HB.out.2.2.2 (by kernel_rfl) rfl (by kernel_rfl) ?_)
  refine bodyPost_ret (v := .tuple #[.agg #[.int .i64 0, .int .i64 0, .slice none 0 0, .slice none 0 0, .slice none 0 0, .slice none 0 0, .slice none 0 0, .slice none 0 0], .bool false]) (results_row_tmp Tryz.results51 _ _ (w.heap.size + 1) _ _ _ _ (by rfl) (setRow_heap _ _ _ _ _ _ HB.out.2.2.2) Tryz.underlying32 rfl (by kernel_rfl)) rfl ?_
  exact turnRes_no HN.out (below_setRow HB.out.2.2.1 (by omega) _)
 rw [Nat.zero_add] at hz
 subst hz
 have hnl : n < p.procs.length := by have h5 := (List.getElem?_eq_some_iff.1 hn).1; simpa [PartD.pure] using h5
 have dz : decide ((n : Int) < 0) = false := decide_eq_false (by omega)
 obtain ⟨x0, hx0, hxy⟩ : ∃ x, p.procs[n]? = some x ∧ x.toProcP = y0 := by
  have h5 : (p.procs.map (·.toProcP))[n]? = some y0 := hn
  rw [List.getElem?_map, Option.map_eq_some_iff] at h5
  exact h5
 subst hxy
 have HY : Hid (p.pure.procs[n]? = some x0.toProcP ∧ p.pure.procs.find? (fun x => decide (x.id = id)) = some x0.toProcP) := ⟨hn, hfd⟩
 obtain ⟨gp, hap, hatp⟩ := proc_at HB.out.2.1.1 hx0
 rw [hap] at m2
 have HAP : Hid (p.procA = some ⟨gp, 0, none⟩) := hap
 have d3 := hatp.2.2.2.1
 clear hn hfd HPF hx0 hatp hap
 have j0 : (0 : Int) ≤ (n : Int) := by omega
 have j1 : (n : Int) < (p.procs.length : Int) := by omega
 by_cases hst : x0.state = 0
 ·have HN : Hid (stoppedP p.pure id = none) := turned_no HY.out.2 (by have e : x0.toProcP.state = 0 := hst; simp [e])
  have e1 : (x0.state == 0) = true := by simp [hst]
  clear hst
  go_wp2_with (refine wpList_store_row rfl 32 (Operand.tmp 4) (Operand.tmp 27) rfl (w.heap.size + 1) _ _ #[.int .i64 0, .int .i64 0, .slice none 0 0, .slice none 0 0, .slice none 0 0, .slice none 0 0, .slice none 0 0, .slice none 0 0] rfl rfl HB.out.2.2.2 (by kernel_rfl) rfl (by kernel_rfl) ?_)
  refine bodyPost_ret (v := .tuple #[.agg #[.int .i64 0, .int .i64 0, .slice none 0 0, .slice none 0 0, .slice none 0 0, .slice none 0 0, .slice none 0 0, .slice none 0 0], .bool false]) (results_row_tmp Tryz.results51 _ _ (w.heap.size + 1) _ _ _ _ (by rfl) (setRow_heap _ _ _ _ _ _ HB.out.2.2.2) Tryz.underlying32 rfl (by kernel_rfl)) rfl ?_
  exact turnRes_no HN.out (below_setRow HB.out.2.2.1 (by omega) _)
 have HN : Hid (stoppedP p.pure id = some { p.pure with next := p.next, procs := turnP id restP p.pure.procs }) := turned_yes H4.out HY.out.2 (by have e : ¬ x0.toProcP.state = 0 := hst; simp [e])
 have e1 : (x0.state == 0) = false := by simp [hst]
 clear hst
 go_wp2_with fail
 clear m0 m1 m2 m3 m4 m5 m6 m7 d3 e1
 have hcall := l3Copy_any p W2 HFT.out.1 HFT.out.2 HB.out.2.1
 rw [show PartD.cells p = #[.int .i64 p.id, .int .i64 p.next, .slice (some ⟨gp, 0, none⟩) p.procs.length p.procC, .slice p.semA p.sems.length p.semC, .slice p.eventA p.events.length p.eventC, .slice p.boardA p.boards.length p.boardC, .slice p.bufferA p.buffers.length p.bufferC, .slice p.portA p.ports.length p.portC] by unfold PartD.cells; rw [HAP.out]] at hcall
 refine hcall.mono ?_
 clear hcall
 rintro e W3 ⟨q, rfl, hown, hpu, hb3⟩
 obtain ⟨x, hx, hxy⟩ : ∃ x, q.procs[n]? = some x ∧ x.toProcP = x0.toProcP := by
  have h5 : (q.procs.map (·.toProcP))[n]? = some x0.toProcP := by have h6 := HY.out.1; rw [← hpu] at h6; exact h6
  rw [List.getElem?_map, Option.map_eq_some_iff] at h5
  exact h5
 obtain ⟨gs, ha, hat⟩ := proc_at hown.at.1 hx
 have hnq : n < q.procs.length := (List.getElem?_eq_some_iff.1 hx).1
 have hgs := own_lt hown.procs (g := gs) (by rw [ha]; simp [blk])
 have hb4 : Below W3.heap.size W3 (W3.alloc (.cells #[.int .i64 q.id, .int .i64 q.next, .slice (some ⟨gs, 0, none⟩) q.procs.length q.procC, .slice q.semA q.sems.length q.semC, .slice q.eventA q.events.length q.eventC, .slice q.boardA q.boards.length q.boardC, .slice q.bufferA q.buffers.length q.bufferC, .slice q.portA q.ports.length q.portC] 32)) := (Below.refl _ _).alloc (Nat.le_refl _) _
 have hlt2 : w.heap.size + 1 < W2.heap.size := (Array.getElem?_eq_some_iff.1 HB.out.2.2.2).1
 have hs3 := hb3.size
 have HS : Hid (PartOwn (W3.alloc (.cells #[.int .i64 q.id, .int .i64 q.next, .slice (some ⟨gs, 0, none⟩) q.procs.length q.procC, .slice q.semA q.sems.length q.semC, .slice q.eventA q.events.length q.eventC, .slice q.boardA q.boards.length q.boardC, .slice q.bufferA q.buffers.length q.bufferC, .slice q.portA q.ports.length q.portC] 32)) W2.heap.size q ∧ (W3.alloc (.cells #[.int .i64 q.id, .int .i64 q.next, .slice (some ⟨gs, 0, none⟩) q.procs.length q.procC, .slice q.semA q.sems.length q.semC, .slice q.eventA q.events.length q.eventC, .slice q.boardA q.boards.length q.boardC, .slice q.bufferA q.buffers.length q.bufferC, .slice q.portA q.ports.length q.portC] 32)).heap[W3.heap.size]? = some (.cells #[.int .i64 q.id, .int .i64 q.next, .slice (some ⟨gs, 0, none⟩) q.procs.length q.procC, .slice q.semA q.sems.length q.semC, .slice q.eventA q.events.length q.eventC, .slice q.boardA q.boards.length q.boardC, .slice q.bufferA q.buffers.length q.bufferC, .slice q.portA q.ports.length q.portC] 32 (0, 0)) ∧ Below w.heap.size w (W3.alloc (.cells #[.int .i64 q.id, .int .i64 q.next, .slice (some ⟨gs, 0, none⟩) q.procs.length q.procC, .slice q.semA q.sems.length q.semC, .slice q.eventA q.events.length q.eventC, .slice q.boardA q.boards.length q.boardC, .slice q.bufferA q.buffers.length q.bufferC, .slice q.portA q.ports.length q.portC] 32)) ∧ (W3.alloc (.cells #[.int .i64 q.id, .int .i64 q.next, .slice (some ⟨gs, 0, none⟩) q.procs.length q.procC, .slice q.semA q.sems.length q.semC, .slice q.eventA q.events.length q.eventC, .slice q.boardA q.boards.length q.boardC, .slice q.bufferA q.buffers.length q.bufferC, .slice q.portA q.ports.length q.portC] 32)).heap[w.heap.size + 1]? = some (.cells #[.int .i64 0, .int .i64 0, .slice none 0 0, .slice none 0 0, .slice none 0 0, .slice none 0 0, .slice none 0 0, .slice none 0 0] 32 (0, 0)) ∧ q.procs[n]? = some x ∧ q.procA = some ⟨gs, 0, none⟩ ∧ q.pure = p.pure ∧ x.toProcP = x0.toProcP ∧ gs < W3.heap.size ∧ W2.heap.size ≤ gs ∧ W2.heap.size ≤ W3.heap.size) := ⟨hown.below hb4, heap_alloc_new _ _, HB.out.2.2.1.trans ((hb3.alloc hs3 _).mono HB.out.2.2.1.size), (hb4.block _ (by omega)).trans ((hb3.block _ hlt2).trans HB.out.2.2.2), hx, ha, hpu, hxy, hgs.2, hgs.1, hs3⟩
 rw [show PartD.cells q = #[.int .i64 q.id, .int .i64 q.next, .slice (some ⟨gs, 0, none⟩) q.procs.length q.procC, .slice q.semA q.sems.length q.semC, .slice q.eventA q.events.length q.eventC, .slice q.boardA q.boards.length q.boardC, .slice q.bufferA q.buffers.length q.bufferC, .slice q.portA q.ports.length q.portC] by unfold PartD.cells; rw [ha]]
 have jq : (n : Int) < (q.procs.length : Int) := by omega
 clear hown hpu hb3 hx hxy ha hat hgs hb4 hs3
 go_wp2_with fail
 generalize W3.alloc (.cells #[.int .i64 q.id, .int .i64 q.next, .slice (some ⟨gs, 0, none⟩) q.procs.length q.procC, .slice q.semA q.sems.length q.semC, .slice q.eventA q.events.length q.eventC, .slice q.boardA q.boards.length q.boardC, .slice q.bufferA q.buffers.length q.bufferC, .slice q.portA q.ports.length q.portC] 32) = W4 at *
 generalize W3.heap.size = O at *
 have HT : Hid (StopS O gs n q x W4.drew ∧ Hid (PartOwn W4.drew W2.heap.size q ∧ W4.drew.heap[O]? = some (.cells #[.int .i64 q.id, .int .i64 q.next, .slice (some ⟨gs, 0, none⟩) q.procs.length q.procC, .slice q.semA q.sems.length q.semC, .slice q.eventA q.events.length q.eventC, .slice q.boardA q.boards.length q.boardC, .slice q.bufferA q.buffers.length q.bufferC, .slice q.portA q.ports.length q.portC] 32 (0, 0)) ∧ Below w.heap.size w W4.drew ∧ W4.drew.heap[w.heap.size + 1]? = some (.cells #[.int .i64 0, .int .i64 0, .slice none 0 0, .slice none 0 0, .slice none 0 0, .slice none 0 0, .slice none 0 0, .slice none 0 0] 32 (0, 0)))) := ⟨stopS_of HS.out.2.1 (HS.out.1.below (Below.refl _ _).drew) HS.out.2.2.2.2.1 HS.out.2.2.2.2.2.1, HS.out.1.below (Below.refl _ _).drew, HS.out.2.1, HS.out.2.2.1.drew, HS.out.2.2.2.1⟩
 refine last_region (fun w' => StopS O gs n q x w' ∧ Hid (PartOwn w' W2.heap.size q ∧ w'.heap[O]? = some (.cells #[.int .i64 q.id, .int .i64 q.next, .slice (some ⟨gs, 0, none⟩) q.procs.length q.procC, .slice q.semA q.sems.length q.semC, .slice q.eventA q.events.length q.eventC, .slice q.boardA q.boards.length q.boardC, .slice q.bufferA q.buffers.length q.bufferC, .slice q.portA q.ports.length q.portC] 32 (0, 0)) ∧ Below w.heap.size w w' ∧ w'.heap[w.heap.size + 1]? = some (.cells #[.int .i64 0, .int .i64 0, .slice none 0 0, .slice none 0 0, .slice none 0 0, .slice none 0 0, .slice none 0 0, .slice none 0 0] 32 (0, 0)))) 10 (by kernel_rfl) HT.out ?_
 iterate 8 (refine ly 11 (v := ?_) (some _) rfl rfl (by kernel_rfl) (fun _ _ _ h => h) (does_yield (by kernel_rfl) ?_) ?_; rotate_left; (intro w0 hS0; obtain ⟨⟨o2, d0, d1, d2, d3, d4, d5, d6, d7, d8, d9, d10, d11⟩, hH⟩ := hS0; go_simp; try with_reducible rfl); simp only [pt, sb, s0, s1])
 refine ly 11 (v := .agg #[.int .i64 x.id, .int .i64 x.prio, .slice x.progA x.prog.length x.progC, .int .i64 0, .int .i64 0, .int .i64 0, .int .i64 0, .int .i64 0, .string ⟨#[]⟩, .string x.got, .int .i64 x.code, .int .i64 0]) (some _) rfl rfl (by kernel_rfl) (fun _ _ _ h => h) (does_call (f := 100) (args := #[.agg #[.int .i64 x.id, .int .i64 x.prio, .slice x.progA x.prog.length x.progC, .int .i64 x.state, .int .i64 x.pc, .int .i64 x.left, .int .i64 x.wake, .int .i64 x.on, .string x.held, .string x.got, .int .i64 x.code, .int .i64 x.since]]) (by kernel_rfl) ?_ ?_) ?_
 ·intro w0 hS0
  obtain ⟨⟨o2, d0, d1, d2, d3, d4, d5, d6, d7, d8, d9, d10, d11⟩, hH⟩ := hS0
  go_simp
  try with_reducible rfl
 ·intro w0 hS0
  refine (l4Dormant_any x w0).mono ?_
  rintro e w2 ⟨rfl, hb2⟩
  have h5 := hS0.2.out
  have h6 : Hid (PartOwn w2 W2.heap.size q ∧ w2.heap[O]? = some (.cells #[.int .i64 q.id, .int .i64 q.next, .slice (some ⟨gs, 0, none⟩) q.procs.length q.procC, .slice q.semA q.sems.length q.semC, .slice q.eventA q.events.length q.eventC, .slice q.boardA q.boards.length q.boardC, .slice q.bufferA q.buffers.length q.bufferC, .slice q.portA q.ports.length q.portC] 32 (0, 0)) ∧ Below w.heap.size w w2 ∧ w2.heap[w.heap.size + 1]? = some (.cells #[.int .i64 0, .int .i64 0, .slice none 0 0, .slice none 0 0, .slice none 0 0, .slice none 0 0, .slice none 0 0, .slice none 0 0] 32 (0, 0))) := ⟨h5.1.below hb2, (hb2.block _ (Array.getElem?_eq_some_iff.1 h5.2.1).1).trans h5.2.1, h5.2.2.1.trans (hb2.mono h5.2.2.1.size), (hb2.block _ (Array.getElem?_eq_some_iff.1 h5.2.2.2).1).trans h5.2.2.2⟩
  exact ⟨rfl, stopS_of h6.out.2.1 h6.out.1 HS.out.2.2.2.2.1 HS.out.2.2.2.2.2.1, h6⟩
 simp only [pt, sb, s0, s1]
 (refine ly 11 (v := ?_) (some _) rfl rfl (by kernel_rfl) (fun _ _ _ h => h) (does_yield (by kernel_rfl) ?_) ?_; rotate_left; (intro w0 hS0; obtain ⟨⟨o2, d0, d1, d2, d3, d4, d5, d6, d7, d8, d9, d10, d11⟩, hH⟩ := hS0; go_simp; try with_reducible rfl); simp only [pt, sb, s0, s1])
 refine last_done rfl (by kernel_rfl) (by kernel_rfl) (by kernel_rfl) ?_
 intro w1 hS1
 have h5 := hS1.2.out
 have h6 := h5.1.setProc (n := n) (j := 0) (x := x) (y := restD x) (vs := [.int .i64 x.id, .int .i64 x.prio, .slice x.progA x.prog.length x.progC, .int .i64 0, .int .i64 0, .int .i64 0, .int .i64 0, .int .i64 0, .string ⟨#[]⟩, .string x.got, .int .i64 x.code, .int .i64 0]) HS.out.2.2.2.2.1 HS.out.2.2.2.2.2.1 ⟨rfl, rfl, rfl⟩ (by show 0 + 12 ≤ 12; omega) (fun r hr => by match r, hr with | 0, _ => rfl | 1, _ => rfl | 2, _ => rfl | 3, _ => rfl | 4, _ => rfl | 5, _ => rfl | 6, _ => rfl | 7, _ => rfl | 8, _ => rfl | 9, _ => rfl | 10, _ => rfl | 11, _ => rfl) (fun r hr hn => absurd ⟨by omega, by show r < 0 + 12; omega⟩ hn)
 rw [Nat.add_zero] at h6
 have hth : w1.there gs (n * 12) 12 := by
  obtain ⟨g, hg, hrow⟩ := RowAt.of_owns (K := procK) h5.1.procs (by omega)
  rw [HS.out.2.2.2.2.2.1] at hg
  cases hg
  exact fun j hj => ⟨by have h7 := (hrow.cell HS.out.2.2.2.2.1 (r := j) hj).1; rw [show procK.n = 12 from rfl] at h7; rw [h7, List.getElem?_eq_getElem (by rw [procK.len]; exact hj)]; rfl, (hrow.cell HS.out.2.2.2.2.1 (r := j) hj).2⟩
 refine wp_store_mid 43 _ _ rfl gs (n * 12) #[.int .i64 x.id, .int .i64 x.prio, .slice x.progA x.prog.length x.progC, .int .i64 0, .int .i64 0, .int .i64 0, .int .i64 0, .int .i64 0, .string ⟨#[]⟩, .string x.got, .int .i64 x.code, .int .i64 0] rfl rfl hth (by kernel_rfl) (by kernel_rfl) ?_
 rw [setCells_is]
 have hne : O ≠ gs := by have := HS.out.2.2.2.2.2.2.2.2.1; omega
 have hgw : W2.heap.size ≤ gs := HS.out.2.2.2.2.2.2.2.2.2.1
 have hlo := HS.out.2.2.2.2.2.2.2.2.2.2
 have H6 : Hid (PartOwn (setAllW w1 gs (n * 12) [.int .i64 x.id, .int .i64 x.prio, .slice x.progA x.prog.length x.progC, .int .i64 0, .int .i64 0, .int .i64 0, .int .i64 0, .int .i64 0, .string ⟨#[]⟩, .string x.got, .int .i64 x.code, .int .i64 0]) W2.heap.size ({ q with procs := q.procs.set n (restD x) } : PartD) ∧ PartBox (setAllW w1 gs (n * 12) [.int .i64 x.id, .int .i64 x.prio, .slice x.progA x.prog.length x.progC, .int .i64 0, .int .i64 0, .int .i64 0, .int .i64 0, .int .i64 0, .string ⟨#[]⟩, .string x.got, .int .i64 x.code, .int .i64 0]) O q ∧ Below w.heap.size w (setAllW w1 gs (n * 12) [.int .i64 x.id, .int .i64 x.prio, .slice x.progA x.prog.length x.progC, .int .i64 0, .int .i64 0, .int .i64 0, .int .i64 0, .int .i64 0, .string ⟨#[]⟩, .string x.got, .int .i64 x.code, .int .i64 0]) ∧ (setAllW w1 gs (n * 12) [.int .i64 x.id, .int .i64 x.prio, .slice x.progA x.prog.length x.progC, .int .i64 0, .int .i64 0, .int .i64 0, .int .i64 0, .int .i64 0, .string ⟨#[]⟩, .string x.got, .int .i64 x.code, .int .i64 0]).heap[w.heap.size + 1]? = some (.cells #[.int .i64 0, .int .i64 0, .slice none 0 0, .slice none 0 0, .slice none 0 0, .slice none 0 0, .slice none 0 0, .slice none 0 0] 32 (0, 0)) ∧ w.heap.size + 1 < W2.heap.size) := ⟨h6.1, by refine (setAllW_other _ hne).trans ?_; have h7 := h5.2.1; rw [HS.out.2.2.2.2.2.1]; exact h7, setAllW_below _ (by omega) h5.2.2.1, (setAllW_other _ (by omega)).trans h5.2.2.2, hlt2⟩
 generalize setAllW w1 gs (n * 12) [.int .i64 x.id, .int .i64 x.prio, .slice x.progA x.prog.length x.progC, .int .i64 0, .int .i64 0, .int .i64 0, .int .i64 0, .int .i64 0, .string ⟨#[]⟩, .string x.got, .int .i64 x.code, .int .i64 0] = WZ at *
 clear hth h5 h6 hS1 HT
 obtain ⟨k0, k1, k2, k3, k4, k5, k6, k7⟩ := H6.out.2.1.cells
 rw [HS.out.2.2.2.2.2.1] at k2
 go_wp2_with (refine wpList_store_row rfl 32 (Operand.tmp 4) (Operand.tmp 40) rfl (w.heap.size + 1) _ _ #[.int .i64 q.id, .int .i64 q.next, .slice (some ⟨gs, 0, none⟩) q.procs.length q.procC, .slice q.semA q.sems.length q.semC, .slice q.eventA q.events.length q.eventC, .slice q.boardA q.boards.length q.boardC, .slice q.bufferA q.buffers.length q.bufferC, .slice q.portA q.ports.length q.portC] rfl rfl H6.out.2.2.2.1 (by kernel_rfl) rfl (by kernel_rfl) ?_)
 refine bodyPost_ret (v := .tuple #[.agg #[.int .i64 q.id, .int .i64 q.next, .slice (some ⟨gs, 0, none⟩) q.procs.length q.procC, .slice q.semA q.sems.length q.semC, .slice q.eventA q.events.length q.eventC, .slice q.boardA q.boards.length q.boardC, .slice q.bufferA q.buffers.length q.bufferC, .slice q.portA q.ports.length q.portC], .bool true]) (results_row_tmp Tryz.results51 _ _ (w.heap.size + 1) _ _ _ _ (by rfl) (setRow_heap _ _ _ _ _ _ H6.out.2.2.2.1) Tryz.underlying32 rfl (by kernel_rfl)) rfl ?_
 rw [HN.out]
 refine ⟨({ q with procs := q.procs.set n (restD x) } : PartD), ?_, (H6.out.1.lower (by omega)).same fun g hg => setRow_other _ _ _ _ (by have := (H6.out.1.lt g hg).1; omega), ?_, below_setRow H6.out.2.2.1 (by omega) _⟩
 ·simp only [PartD.cells, List.length_set, HS.out.2.2.2.2.2.1, Option.isSome_some]
 ·have hpp := HS.out.2.2.2.2.2.2.1
  have hid : x0.toProcP.id = id := by have h7 := List.find?_some HY.out.2; simpa using h7
  rw [turn_set (part_rise H4.out) HY.out.1 hid]
  have hpr : q.procs.map (·.toProcP) = p.pure.procs := congrArg PartP.procs hpp
  have hnn : q.next = p.next := congrArg PartP.next hpp
  show ({ q.pure with procs := (q.procs.set n (restD x)).map (·.toProcP) } : PartP) = _
  rw [List.map_set, hpr, hpp, ← HS.out.2.2.2.2.2.2.2.1]
  rfl
end Go.Proofs.YtkbcplnlehdjfaaGreat

/- A process that is stopped: the programme. (Made by mkstoppedi.py.) -/
namespace Go.Proofs.YtkbcplnlehdjfaaGreat
open Go.RowKit Go.Maps
attribute [local go_sem ↓] Go.wp_at_zero Go.wp_at_succ
set_option maxRecDepth 100000 in
set_option maxHeartbeats 2000000 in
theorem sendToRest_any (g : Nat) (x : ProcD) (w : World) (h : w.heap[g]? = some (.cells (procVs x) 43 (0, 0))) : Calls Tryz.prog 99 #[.pointer (some ⟨g, 0, none⟩)] w fun e w' => e = .returned (.tuple #[]) ∧ w' = w.drew.setRow g #[.int .i64 x.id, .int .i64 x.prio, .slice x.progA x.prog.length x.progC, .int .i64 0, .int .i64 0, .int .i64 0, .int .i64 0, .int .i64 0, .string ⟨#[]⟩, .string x.got, .int .i64 x.code, .int .i64 0] := by
 have H : Hid (_) := h
 obtain ⟨d0, d1, d2, d3, d4, d5, d6, d7, d8, d9, d10, d11⟩ := proc_cells h
 clear h d3 d4 d5 d6 d7 d8 d11
 go_enter Tryz.func99, Tryz.ntmps99
 go_wp2_with fail
 refine last_region (fun w' => w' = w.drew) 23 (by kernel_rfl) rfl ?_
 iterate 23 (refine ly 24 (v := ?_) (some _) rfl rfl (by kernel_rfl) (fun _ _ _ h => h) (does_yield (by kernel_rfl) ?_) ?_; rotate_left; (intro w0 hS0; subst hS0; go_simp; try with_reducible rfl); simp only [pt, sb, s0, s1])
 refine last_done rfl (by kernel_rfl) (by kernel_rfl) (by kernel_rfl) ?_
 intro w1 hS1
 subst hS1
 refine oper_store _ _ _ rfl g _ _ #[.int .i64 x.id, .int .i64 x.prio, .slice x.progA x.prog.length x.progC, .int .i64 0, .int .i64 0, .int .i64 0, .int .i64 0, .int .i64 0, .string ⟨#[]⟩, .string x.got, .int .i64 x.code, .int .i64 0] rfl rfl H.out (by kernel_rfl) rfl (by kernel_rfl) ?_
 go_end0
 exact ⟨rfl, rfl⟩
set_option maxHeartbeats 2000000 in
theorem rest_any (o g base : Nat) (S : OpenD) (x : ProcD) (w : World) (h : OpenAt w base o S) (hx : (x, g) ∈ S.lp) :
  Calls Tryz.prog 99 #[.pointer (some ⟨g, 0, none⟩)] w fun e w' => e = .returned (.tuple #[]) ∧ OpenAt w' base o (S.turn g restD S.q.next) ∧ Below base w w' := by
 have hgb : w.heap[g]? = some (.cells (procVs x) 43 (0, 0)) := h.procs.box (x, g) hx
 have hgm : g ∈ S.lp.map (·.2) := List.mem_map.2 ⟨(x, g), hx, rfl⟩
 have hno : ¬ o = g := fun e => by
  have h5 := (List.nodup_cons.1 h.nodup).1
  exact h5 (by rw [e]; simp only [OpenD.boxes, List.mem_append, List.mem_cons]; exact .inl (.inl (.inr hgm)))
 refine (sendToRest_any g x w hgb).mono ?_
 rintro e w2 ⟨rfl, rfl⟩
 refine ⟨rfl, h.turn (fun y => ⟨rfl, rfl, rfl, rfl⟩) (fun p hp hpg => ?_) hgm ((setRow_other _ _ _ _ hno).trans h.opn) (fun b hb _ => setRow_other _ _ _ _ hb), below_setRow (Below.refl _ _).drew (h.procs.low g (List.mem_cons_of_mem _ hgm)) _⟩
 have e := h.procs.one hp hx hpg
 subst e
 exact setRow_heap _ _ _ _ _ _ hgb
set_option maxRecDepth 100000 in
set_option maxHeartbeats 8000000 in
theorem implStopped_any (p : PartD) (id : Int) (w : World) (hid : (Lit.int .i64 id).wf = true) (hg : p.Good w) :
  Calls Tryz.prog 50 #[.agg p.cells, .int .i64 id] w fun e w' => TurnRes w (stoppedP p.pure id) e w' := by
 have HB : Hid (p.Good ((w.alloc (.cells #[.int .i64 p.id, .int .i64 p.next, .slice p.procA p.procs.length p.procC, .slice p.semA p.sems.length p.semC, .slice p.eventA p.events.length p.eventC, .slice p.boardA p.boards.length p.boardC, .slice p.bufferA p.buffers.length p.bufferC, .slice p.portA p.ports.length p.portC] 32)).alloc (.cells #[.int .i64 0, .int .i64 0, .slice none 0 0, .slice none 0 0, .slice none 0 0, .slice none 0 0, .slice none 0 0, .slice none 0 0] 32)) ∧ Below w.heap.size w ((w.alloc (.cells #[.int .i64 p.id, .int .i64 p.next, .slice p.procA p.procs.length p.procC, .slice p.semA p.sems.length p.semC, .slice p.eventA p.events.length p.eventC, .slice p.boardA p.boards.length p.boardC, .slice p.bufferA p.buffers.length p.bufferC, .slice p.portA p.ports.length p.portC] 32)).alloc (.cells #[.int .i64 0, .int .i64 0, .slice none 0 0, .slice none 0 0, .slice none 0 0, .slice none 0 0, .slice none 0 0, .slice none 0 0] 32)) ∧ ((w.alloc (.cells #[.int .i64 p.id, .int .i64 p.next, .slice p.procA p.procs.length p.procC, .slice p.semA p.sems.length p.semC, .slice p.eventA p.events.length p.eventC, .slice p.boardA p.boards.length p.boardC, .slice p.bufferA p.buffers.length p.bufferC, .slice p.portA p.ports.length p.portC] 32)).alloc (.cells #[.int .i64 0, .int .i64 0, .slice none 0 0, .slice none 0 0, .slice none 0 0, .slice none 0 0, .slice none 0 0, .slice none 0 0] 32)).heap[w.heap.size + 1]? = some (.cells #[.int .i64 0, .int .i64 0, .slice none 0 0, .slice none 0 0, .slice none 0 0, .slice none 0 0, .slice none 0 0, .slice none 0 0] 32 (0, 0)) ∧ PartBox ((w.alloc (.cells #[.int .i64 p.id, .int .i64 p.next, .slice p.procA p.procs.length p.procC, .slice p.semA p.sems.length p.semC, .slice p.eventA p.events.length p.eventC, .slice p.boardA p.boards.length p.boardC, .slice p.bufferA p.buffers.length p.bufferC, .slice p.portA p.ports.length p.portC] 32)).alloc (.cells #[.int .i64 0, .int .i64 0, .slice none 0 0, .slice none 0 0, .slice none 0 0, .slice none 0 0, .slice none 0 0, .slice none 0 0] 32)) w.heap.size p ∧ (Lit.int .i64 id).wf = true) := by
  have b1 : Below w.heap.size w ((w.alloc (.cells #[.int .i64 p.id, .int .i64 p.next, .slice p.procA p.procs.length p.procC, .slice p.semA p.sems.length p.semC, .slice p.eventA p.events.length p.eventC, .slice p.boardA p.boards.length p.boardC, .slice p.bufferA p.buffers.length p.bufferC, .slice p.portA p.ports.length p.portC] 32)).alloc (.cells #[.int .i64 0, .int .i64 0, .slice none 0 0, .slice none 0 0, .slice none 0 0, .slice none 0 0, .slice none 0 0, .slice none 0 0] 32)) := ((Below.refl _ _).alloc (Nat.le_refl _) _).alloc (by simp) _
  exact ⟨hg.below b1, b1, heap_alloc2_new _ _ _, (heap_alloc_old _ _ (by simp)).trans (heap_alloc_new _ _), hid⟩
 clear hg hid
 obtain ⟨m0, m1, m2, m3, m4, m5, m6, m7⟩ := HB.out.2.2.2.1.cells
 unfold PartD.cells
 go_enter Tryz.func50, Tryz.ntmps50
 go_wp2_with fail
 generalize (w.alloc (.cells #[.int .i64 p.id, .int .i64 p.next, .slice p.procA p.procs.length p.procC, .slice p.semA p.sems.length p.semC, .slice p.eventA p.events.length p.eventC, .slice p.boardA p.boards.length p.boardC, .slice p.bufferA p.buffers.length p.bufferC, .slice p.portA p.ports.length p.portC] 32)).alloc (.cells #[.int .i64 0, .int .i64 0, .slice none 0 0, .slice none 0 0, .slice none 0 0, .slice none 0 0, .slice none 0 0, .slice none 0 0] 32) = W at *
 clear m0 m1 m2 m3 m4 m5 m6 m7
 refine (opened_any p W HB.out.1).mono ?_
 rintro e w1 ⟨hb1, ⟨hno, rfl⟩ | ⟨hyes, o, S, rfl, hat, hpu⟩⟩
 ·have HZ : Hid (Below w.heap.size w w1 ∧ w1.heap[w.heap.size + 1]? = some (.cells #[.int .i64 0, .int .i64 0, .slice none 0 0, .slice none 0 0, .slice none 0 0, .slice none 0 0, .slice none 0 0, .slice none 0 0] 32 (0, 0)) ∧ True) := ⟨HB.out.2.1.trans (hb1.mono HB.out.2.1.size), (hb1.block _ (Array.getElem?_eq_some_iff.1 HB.out.2.2.1).1).trans HB.out.2.2.1, trivial⟩
  have HN : Hid (stoppedP p.pure id = none) := turned_not (partB_false hno)
  clear hb1 hno
  go_wp2_with (refine wpList_store_row rfl 32 (Operand.tmp 4) (Operand.tmp 16) rfl (w.heap.size + 1) _ _ #[.int .i64 0, .int .i64 0, .slice none 0 0, .slice none 0 0, .slice none 0 0, .slice none 0 0, .slice none 0 0, .slice none 0 0] rfl rfl HZ.out.2.1 (by kernel_rfl) rfl (by kernel_rfl) ?_)
  refine bodyPost_ret (v := .tuple #[.agg #[.int .i64 0, .int .i64 0, .slice none 0 0, .slice none 0 0, .slice none 0 0, .slice none 0 0, .slice none 0 0, .slice none 0 0], .bool false]) (results_row_tmp Tryz.results50 _ _ (w.heap.size + 1) _ _ _ _ (by rfl) (setRow_heap _ _ _ _ _ _ HZ.out.2.1) Tryz.underlying32 rfl (by kernel_rfl)) rfl ?_
  exact turnRes_no HN.out (below_setRow HZ.out.1 (by omega) _)
 have HZ : Hid (Below w.heap.size w w1 ∧ w1.heap[w.heap.size + 1]? = some (.cells #[.int .i64 0, .int .i64 0, .slice none 0 0, .slice none 0 0, .slice none 0 0, .slice none 0 0, .slice none 0 0, .slice none 0 0] 32 (0, 0)) ∧ PartR S.pure ∧ OpenAt w1 W.heap.size o S ∧ S.pure = p.pure ∧ w.heap.size + 1 < W.heap.size ∧ W.heap.size ≤ w1.heap.size) := ⟨HB.out.2.1.trans (hb1.mono HB.out.2.1.size), (hb1.block _ (Array.getElem?_eq_some_iff.1 HB.out.2.2.1).1).trans HB.out.2.2.1, by rw [hpu]; exact hyes, hat, hpu, (Array.getElem?_eq_some_iff.1 HB.out.2.2.1).1, hb1.size⟩
 have c3 : w1.cell? ⟨o, 3, none⟩ = some (.map (some S.q.bp)) := hat.opn.cell 3
 have c1 : w1.cell? ⟨o, 1, none⟩ = some (.int .i64 S.q.next) := hat.opn.cell 1
 have hlk := hat.procs.map.look Tryz.underlying108 (zeroPtrProc w1) HB.out.2.2.2.2 true
 have hpo : p.pure.procs.find? (fun x => decide (x.id = id)) = (S.lp.find? (fun p => decide (p.1.id = id))).map (fun p => p.1.toProcP) := by rw [← hpu]; exact find_pure id S.lp
 have hnx : p.next = S.q.next := (congrArg PartP.next hpu).symm
 rw [look_find] at hlk
 simp only [if_true] at hlk
 have HNX : Hid (p.next = S.q.next) := hnx
 clear hb1 hyes hat hpu hnx
 cases hfd : S.lp.find? (fun p => decide (p.1.id = id)) with
 | none =>
  rw [hfd] at hlk hpo
  simp only [Option.map_none, ptrO, Option.isSome_none] at hlk
  have HN : Hid (stoppedP p.pure id = none) := turned_none hpo
  clear hfd hpo
  go_wp2_with (refine wpList_store_row rfl 32 (Operand.tmp 4) (Operand.tmp 36) rfl (w.heap.size + 1) _ _ #[.int .i64 0, .int .i64 0, .slice none 0 0, .slice none 0 0, .slice none 0 0, .slice none 0 0, .slice none 0 0, .slice none 0 0] rfl rfl HZ.out.2.1 (by kernel_rfl) rfl (by kernel_rfl) ?_)
  refine bodyPost_ret (v := .tuple #[.agg #[.int .i64 0, .int .i64 0, .slice none 0 0, .slice none 0 0, .slice none 0 0, .slice none 0 0, .slice none 0 0, .slice none 0 0], .bool false]) (results_row_tmp Tryz.results50 _ _ (w.heap.size + 1) _ _ _ _ (by rfl) (setRow_heap _ _ _ _ _ _ HZ.out.2.1) Tryz.underlying32 rfl (by kernel_rfl)) rfl ?_
  exact turnRes_no HN.out (below_setRow HZ.out.1 (by omega) _)
 | some r =>
  obtain ⟨x, g⟩ := r
  rw [hfd] at hlk hpo
  simp only [Option.map_some, ptrO, ptrV, Option.isSome_some] at hlk
  have hm : (x, g) ∈ S.lp := List.mem_of_find?_eq_some hfd
  have hxid : x.id = id := by have h7 := List.find?_some hfd; simpa using h7
  have HX : Hid ((x, g) ∈ S.lp ∧ x.id = id ∧ p.pure.procs.find? (fun x => decide (x.id = id)) = some x.toProcP) := ⟨hm, hxid, hpo⟩
  have d3 := (proc_cells (HZ.out.2.2.2.1.procs.box (x, g) hm)).2.2.2.1
  clear hfd hpo hm hxid
  by_cases hst : x.state = 0
  ·have HN : Hid (stoppedP p.pure id = none) := turned_no HX.out.2.2 (by have e : x.toProcP.state = 0 := hst; simp [e])
   have e1 : (x.state == 0) = true := by simp [hst]
   clear hst c1
   go_wp2_with (refine wpList_store_row rfl 32 (Operand.tmp 4) (Operand.tmp 36) rfl (w.heap.size + 1) _ _ #[.int .i64 0, .int .i64 0, .slice none 0 0, .slice none 0 0, .slice none 0 0, .slice none 0 0, .slice none 0 0, .slice none 0 0] rfl rfl HZ.out.2.1 (by kernel_rfl) rfl (by kernel_rfl) ?_)
   refine bodyPost_ret (v := .tuple #[.agg #[.int .i64 0, .int .i64 0, .slice none 0 0, .slice none 0 0, .slice none 0 0, .slice none 0 0, .slice none 0 0, .slice none 0 0], .bool false]) (results_row_tmp Tryz.results50 _ _ (w.heap.size + 1) _ _ _ _ (by rfl) (setRow_heap _ _ _ _ _ _ HZ.out.2.1) Tryz.underlying32 rfl (by kernel_rfl)) rfl ?_
   exact turnRes_no HN.out (below_setRow HZ.out.1 (by omega) _)
  have HN : Hid (stoppedP p.pure id = some { p.pure with next := p.next, procs := turnP id restP p.pure.procs }) := turned_yes (by rw [← HZ.out.2.2.2.2.1]; exact partB_true HZ.out.2.2.1) HX.out.2.2 (by have e : ¬ x.toProcP.state = 0 := hst; simp [e])
  have e1 : (x.state == 0) = false := by simp [hst]
  clear hst c1
  go_wp2_with fail
  clear c3 d3 e1 hlk
  refine (rest_any o g W.heap.size S x w1 HZ.out.2.2.2.1 HX.out.1).mono ?_
  rintro e w2 ⟨rfl, hat2, hb2⟩
  have hlt := HZ.out.2.2.2.2.2.1
  have H2 : Hid (OpenAt w2 W.heap.size o (S.turn g restD S.q.next) ∧ Below w.heap.size w w2 ∧ w2.heap[w.heap.size + 1]? = some (.cells #[.int .i64 0, .int .i64 0, .slice none 0 0, .slice none 0 0, .slice none 0 0, .slice none 0 0, .slice none 0 0, .slice none 0 0] 32 (0, 0)) ∧ W.heap.size ≤ w2.heap.size) := ⟨hat2, HZ.out.1.trans (hb2.mono (by omega)), (hb2.block _ hlt).trans HZ.out.2.1, by have := hb2.size; have := HZ.out.2.2.2.2.2.2; omega⟩
  have HF : Hid ((S.turn g restD S.q.next).Fits ∧ (S.turn g restD S.q.next).pure = { p.pure with next := p.next, procs := turnP id restP p.pure.procs }) := by
   refine ⟨fits_turn (open_fits HZ.out.2.2.1) fun _ => rfl, ?_⟩
   rw [OpenD.turn_pure (f' := restP) HZ.out.2.2.1 (fun q hq e => HZ.out.2.2.2.1.procs.one hq HX.out.1 e) HX.out.1 (fun _ => rfl), HX.out.2.1, HZ.out.2.2.2.2.1, HNX.out]
  clear hat2 hb2
  go_wp2_with fail
  refine (toldPart_any o W.heap.size _ w2 H2.out.1 HF.out.1).mono ?_
  rintro e w3 ⟨r, rfl, ho3, hp3, hb3⟩
  have H3 : Hid (PartOwn w3 W.heap.size r ∧ Below w.heap.size w w3 ∧ w3.heap[w.heap.size + 1]? = some (.cells #[.int .i64 0, .int .i64 0, .slice none 0 0, .slice none 0 0, .slice none 0 0, .slice none 0 0, .slice none 0 0, .slice none 0 0] 32 (0, 0)) ∧ r.pure = { p.pure with next := p.next, procs := turnP id restP p.pure.procs }) := ⟨ho3, H2.out.2.1.trans (hb3.mono H2.out.2.1.size), (hb3.block _ (Array.getElem?_eq_some_iff.1 H2.out.2.2.1).1).trans H2.out.2.2.1, hp3.trans HF.out.2⟩
  clear ho3 hp3 hb3
  go_wp2_with (refine wpList_store_row rfl 32 (Operand.tmp 4) (Operand.tmp 40) rfl (w.heap.size + 1) _ _ (PartD.cells r) rfl rfl H3.out.2.2.1 (by kernel_rfl) rfl (by kernel_rfl) ?_)
  refine bodyPost_ret (v := .tuple #[.agg (PartD.cells r), .bool true]) (results_row_tmp Tryz.results50 _ _ (w.heap.size + 1) _ _ _ _ (by rfl) (setRow_heap _ _ _ _ _ _ H3.out.2.2.1) Tryz.underlying32 rfl (by kernel_rfl)) rfl ?_
  rw [HN.out]
  exact ⟨r, rfl, (H3.out.1.lower (by omega)).same fun b hb => setRow_other _ _ _ _ (by have := (H3.out.1.lt b hb).1; omega), H3.out.2.2.2, below_setRow H3.out.2.1 (by omega) _⟩
end Go.Proofs.YtkbcplnlehdjfaaGreat
