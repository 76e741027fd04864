/- What the proof leans on, part 16: MkPart, OpSmall, LwOp. -/
import Derived.Test.YtkbcplnlehdjfaaGreatOwnR0
import Derived.Test.YtkbcplnlehdjfaaGreatOwnR5
import Derived.Test.YtkbcplnlehdjfaaGreatOwnR7
import Derived.Test.YtkbcplnlehdjfaaGreatOwnR13
import Derived.Test.YtkbcplnlehdjfaaGreatOwnR14
import Derived.Test.YtkbcplnlehdjfaaGreatOwnR15

namespace Go.Proofs.YtkbcplnlehdjfaaGreat
open Go.RowKit
attribute [local go_sem ↓] Go.wp_at_zero Go.wp_at_succ
theorem markL_kid {α : Type} {N : Nest α} {f : Int → α → α} {c : α → Nat} (h : ∀ k x, N.kid (f k x) = N.kid x) : ∀ (k : Int) (l : List α), (markL f c k l).filterMap N.kid = l.filterMap N.kid
 | _, [] => rfl
 | k, x :: r => by simp only [markL, List.filterMap_cons, h, markL_kid h (k + c x) r]
/-- The list of the kind Proc is turned. -/
theorem PartOwn.turnProc {w w' : World} {base : Nat} {q : PartD} {l : List ProcD} (h : PartOwn w base q) (ho : w'.ownsRow base 43 12 (.slice q.procA q.procs.length q.procC) q.procs.length (procK.flat l)) (hl : l.length = q.procs.length) (hm : ∀ y ∈ l, procN.Mine w' base y) (hki : l.filterMap procN.kid = q.procs.filterMap procN.kid) (hk : KeptBut w w' (blk q.procA ++ q.procs.filterMap procN.kid)) :
  PartOwn w' base ({ q with procs := l } : PartD) ∧ ({ q with procs := l } : PartD).blocks = q.blocks := by
 have hbs : q.blocks = [] ++ ((blk q.procA ++ q.procs.filterMap procN.kid) ++ (blk q.semA ++ (blk q.eventA ++ (blk q.boardA ++ (blk q.bufferA ++ (q.buffers.filterMap bufferN.kid ++ (blk q.portA ++ (q.ports.filterMap portN.kid)))))))) := by simp [PartD.blocks, List.append_assoc]
 have hbn : ({ q with procs := l } : PartD).blocks = q.blocks := by simp only [PartD.blocks, hki]
 have hnd := h.nodup
 rw [hbs] at hnd
 have hdis : ∀ g, (g ∈ [] ∨ g ∈ (blk q.semA ++ (blk q.eventA ++ (blk q.boardA ++ (blk q.bufferA ++ (q.buffers.filterMap bufferN.kid ++ (blk q.portA ++ (q.ports.filterMap portN.kid)))))))) → g ∉ (blk q.procA ++ q.procs.filterMap procN.kid) := fun g hgm hA => by
  obtain ⟨-, h2, h3⟩ := List.nodup_append.1 hnd
  obtain ⟨-, -, h4⟩ := List.nodup_append.1 h2
  rcases hgm with hgm | hgm
  ·exact h3 g hgm g (List.mem_append_left _ hA) rfl
  ·exact h4 g hA g hgm rfl
 have hs : ∀ g, (g ∈ [] ∨ g ∈ (blk q.semA ++ (blk q.eventA ++ (blk q.boardA ++ (blk q.bufferA ++ (q.buffers.filterMap bufferN.kid ++ (blk q.portA ++ (q.ports.filterMap portN.kid)))))))) → w'.heap[g]? = w.heap[g]? := fun g hgm => hk.same g (h.lt g (by
  rw [hbs]
  rcases hgm with hgm | hgm
  ·exact List.mem_append_left _ hgm
  ·exact List.mem_append_right _ (List.mem_append_right _ hgm))).2 (hdis g hgm)
 refine ⟨⟨(by rw [hl]; exact ho), own_same h.sems fun g hgm => hs g (.inr (by simp [hgm])), own_same h.events fun g hgm => hs g (.inr (by simp [hgm])), own_same h.boards fun g hgm => hs g (.inr (by simp [hgm])), own_same h.buffers fun g hgm => hs g (.inr (by simp [hgm])), own_same h.ports fun g hgm => hs g (.inr (by simp [hgm])), hm, fun y hy => (h.mineF y hy).same fun g hk => hs g (.inr (by simp only [List.mem_append, List.mem_filterMap]; simp [exists_kid hy hk])), fun y hy => (h.mineQ y hy).same fun g hk => hs g (.inr (by simp only [List.mem_append, List.mem_filterMap]; simp [exists_kid hy hk])), ?_⟩, hbn⟩
 rw [hbn]
 exact h.nodup
/-- The list of the kind Sem is turned. -/
theorem PartOwn.turnSem {w w' : World} {base : Nat} {q : PartD} {l : List SemD} (h : PartOwn w base q) (ho : w'.ownsRow base 49 3 (.slice q.semA q.sems.length q.semC) q.sems.length (semK.flat l)) (hl : l.length = q.sems.length) (hk : KeptBut w w' (blk q.semA)) :
  PartOwn w' base ({ q with sems := l } : PartD) ∧ ({ q with sems := l } : PartD).blocks = q.blocks := by
 have hbs : q.blocks = (blk q.procA ++ q.procs.filterMap procN.kid) ++ ((blk q.semA) ++ (blk q.eventA ++ (blk q.boardA ++ (blk q.bufferA ++ (q.buffers.filterMap bufferN.kid ++ (blk q.portA ++ (q.ports.filterMap portN.kid))))))) := by simp [PartD.blocks, List.append_assoc]
 have hbn : ({ q with sems := l } : PartD).blocks = q.blocks := by rfl
 have hnd := h.nodup
 rw [hbs] at hnd
 have hdis : ∀ g, (g ∈ (blk q.procA ++ q.procs.filterMap procN.kid) ∨ g ∈ (blk q.eventA ++ (blk q.boardA ++ (blk q.bufferA ++ (q.buffers.filterMap bufferN.kid ++ (blk q.portA ++ (q.ports.filterMap portN.kid))))))) → g ∉ (blk q.semA) := fun g hgm hA => by
  obtain ⟨-, h2, h3⟩ := List.nodup_append.1 hnd
  obtain ⟨-, -, h4⟩ := List.nodup_append.1 h2
  rcases hgm with hgm | hgm
  ·exact h3 g hgm g (List.mem_append_left _ hA) rfl
  ·exact h4 g hA g hgm rfl
 have hs : ∀ g, (g ∈ (blk q.procA ++ q.procs.filterMap procN.kid) ∨ g ∈ (blk q.eventA ++ (blk q.boardA ++ (blk q.bufferA ++ (q.buffers.filterMap bufferN.kid ++ (blk q.portA ++ (q.ports.filterMap portN.kid))))))) → w'.heap[g]? = w.heap[g]? := fun g hgm => hk.same g (h.lt g (by
  rw [hbs]
  rcases hgm with hgm | hgm
  ·exact List.mem_append_left _ hgm
  ·exact List.mem_append_right _ (List.mem_append_right _ hgm))).2 (hdis g hgm)
 refine ⟨⟨own_same h.procs fun g hgm => hs g (.inl (by simp [hgm])), (by rw [hl]; exact ho), own_same h.events fun g hgm => hs g (.inr (by simp [hgm])), own_same h.boards fun g hgm => hs g (.inr (by simp [hgm])), own_same h.buffers fun g hgm => hs g (.inr (by simp [hgm])), own_same h.ports fun g hgm => hs g (.inr (by simp [hgm])), fun y hy => (h.mineP y hy).same fun g hk => hs g (.inl (by simp only [List.mem_append, List.mem_filterMap]; simp [exists_kid hy hk])), fun y hy => (h.mineF y hy).same fun g hk => hs g (.inr (by simp only [List.mem_append, List.mem_filterMap]; simp [exists_kid hy hk])), fun y hy => (h.mineQ y hy).same fun g hk => hs g (.inr (by simp only [List.mem_append, List.mem_filterMap]; simp [exists_kid hy hk])), ?_⟩, hbn⟩
 rw [hbn]
 exact h.nodup
/-- The list of the kind Event is turned. -/
theorem PartOwn.turnEvent {w w' : World} {base : Nat} {q : PartD} {l : List EventD} (h : PartOwn w base q) (ho : w'.ownsRow base 138 2 (.slice q.eventA q.events.length q.eventC) q.events.length (eventK.flat l)) (hl : l.length = q.events.length) (hk : KeptBut w w' (blk q.eventA)) :
  PartOwn w' base ({ q with events := l } : PartD) ∧ ({ q with events := l } : PartD).blocks = q.blocks := by
 have hbs : q.blocks = (blk q.procA ++ q.procs.filterMap procN.kid ++ blk q.semA) ++ ((blk q.eventA) ++ (blk q.boardA ++ (blk q.bufferA ++ (q.buffers.filterMap bufferN.kid ++ (blk q.portA ++ (q.ports.filterMap portN.kid)))))) := by simp [PartD.blocks, List.append_assoc]
 have hbn : ({ q with events := l } : PartD).blocks = q.blocks := by rfl
 have hnd := h.nodup
 rw [hbs] at hnd
 have hdis : ∀ g, (g ∈ (blk q.procA ++ q.procs.filterMap procN.kid ++ blk q.semA) ∨ g ∈ (blk q.boardA ++ (blk q.bufferA ++ (q.buffers.filterMap bufferN.kid ++ (blk q.portA ++ (q.ports.filterMap portN.kid)))))) → g ∉ (blk q.eventA) := fun g hgm hA => by
  obtain ⟨-, h2, h3⟩ := List.nodup_append.1 hnd
  obtain ⟨-, -, h4⟩ := List.nodup_append.1 h2
  rcases hgm with hgm | hgm
  ·exact h3 g hgm g (List.mem_append_left _ hA) rfl
  ·exact h4 g hA g hgm rfl
 have hs : ∀ g, (g ∈ (blk q.procA ++ q.procs.filterMap procN.kid ++ blk q.semA) ∨ g ∈ (blk q.boardA ++ (blk q.bufferA ++ (q.buffers.filterMap bufferN.kid ++ (blk q.portA ++ (q.ports.filterMap portN.kid)))))) → w'.heap[g]? = w.heap[g]? := fun g hgm => hk.same g (h.lt g (by
  rw [hbs]
  rcases hgm with hgm | hgm
  ·exact List.mem_append_left _ hgm
  ·exact List.mem_append_right _ (List.mem_append_right _ hgm))).2 (hdis g hgm)
 refine ⟨⟨own_same h.procs fun g hgm => hs g (.inl (by simp [hgm])), own_same h.sems fun g hgm => hs g (.inl (by simp [hgm])), (by rw [hl]; exact ho), own_same h.boards fun g hgm => hs g (.inr (by simp [hgm])), own_same h.buffers fun g hgm => hs g (.inr (by simp [hgm])), own_same h.ports fun g hgm => hs g (.inr (by simp [hgm])), fun y hy => (h.mineP y hy).same fun g hk => hs g (.inl (by simp only [List.mem_append, List.mem_filterMap]; simp [exists_kid hy hk])), fun y hy => (h.mineF y hy).same fun g hk => hs g (.inr (by simp only [List.mem_append, List.mem_filterMap]; simp [exists_kid hy hk])), fun y hy => (h.mineQ y hy).same fun g hk => hs g (.inr (by simp only [List.mem_append, List.mem_filterMap]; simp [exists_kid hy hk])), ?_⟩, hbn⟩
 rw [hbn]
 exact h.nodup
/-- The list of the kind Board is turned. -/
theorem PartOwn.turnBoard {w w' : World} {base : Nat} {q : PartD} {l : List BoardD} (h : PartOwn w base q) (ho : w'.ownsRow base 141 3 (.slice q.boardA q.boards.length q.boardC) q.boards.length (boardK.flat l)) (hl : l.length = q.boards.length) (hk : KeptBut w w' (blk q.boardA)) :
  PartOwn w' base ({ q with boards := l } : PartD) ∧ ({ q with boards := l } : PartD).blocks = q.blocks := by
 have hbs : q.blocks = (blk q.procA ++ q.procs.filterMap procN.kid ++ blk q.semA ++ blk q.eventA) ++ ((blk q.boardA) ++ (blk q.bufferA ++ (q.buffers.filterMap bufferN.kid ++ (blk q.portA ++ (q.ports.filterMap portN.kid))))) := by simp [PartD.blocks, List.append_assoc]
 have hbn : ({ q with boards := l } : PartD).blocks = q.blocks := by rfl
 have hnd := h.nodup
 rw [hbs] at hnd
 have hdis : ∀ g, (g ∈ (blk q.procA ++ q.procs.filterMap procN.kid ++ blk q.semA ++ blk q.eventA) ∨ g ∈ (blk q.bufferA ++ (q.buffers.filterMap bufferN.kid ++ (blk q.portA ++ (q.ports.filterMap portN.kid))))) → g ∉ (blk q.boardA) := fun g hgm hA => by
  obtain ⟨-, h2, h3⟩ := List.nodup_append.1 hnd
  obtain ⟨-, -, h4⟩ := List.nodup_append.1 h2
  rcases hgm with hgm | hgm
  ·exact h3 g hgm g (List.mem_append_left _ hA) rfl
  ·exact h4 g hA g hgm rfl
 have hs : ∀ g, (g ∈ (blk q.procA ++ q.procs.filterMap procN.kid ++ blk q.semA ++ blk q.eventA) ∨ g ∈ (blk q.bufferA ++ (q.buffers.filterMap bufferN.kid ++ (blk q.portA ++ (q.ports.filterMap portN.kid))))) → w'.heap[g]? = w.heap[g]? := fun g hgm => hk.same g (h.lt g (by
  rw [hbs]
  rcases hgm with hgm | hgm
  ·exact List.mem_append_left _ hgm
  ·exact List.mem_append_right _ (List.mem_append_right _ hgm))).2 (hdis g hgm)
 refine ⟨⟨own_same h.procs fun g hgm => hs g (.inl (by simp [hgm])), own_same h.sems fun g hgm => hs g (.inl (by simp [hgm])), own_same h.events fun g hgm => hs g (.inl (by simp [hgm])), (by rw [hl]; exact ho), own_same h.buffers fun g hgm => hs g (.inr (by simp [hgm])), own_same h.ports fun g hgm => hs g (.inr (by simp [hgm])), fun y hy => (h.mineP y hy).same fun g hk => hs g (.inl (by simp only [List.mem_append, List.mem_filterMap]; simp [exists_kid hy hk])), fun y hy => (h.mineF y hy).same fun g hk => hs g (.inr (by simp only [List.mem_append, List.mem_filterMap]; simp [exists_kid hy hk])), fun y hy => (h.mineQ y hy).same fun g hk => hs g (.inr (by simp only [List.mem_append, List.mem_filterMap]; simp [exists_kid hy hk])), ?_⟩, hbn⟩
 rw [hbn]
 exact h.nodup
/-- The list of the kind Buffer is turned. -/
theorem PartOwn.turnBuffer {w w' : World} {base : Nat} {q : PartD} {l : List BufferD} (h : PartOwn w base q) (ho : w'.ownsRow base 144 3 (.slice q.bufferA q.buffers.length q.bufferC) q.buffers.length (bufferK.flat l)) (hl : l.length = q.buffers.length) (hm : ∀ y ∈ l, bufferN.Mine w' base y) (hki : l.filterMap bufferN.kid = q.buffers.filterMap bufferN.kid) (hk : KeptBut w w' (blk q.bufferA ++ q.buffers.filterMap bufferN.kid)) :
  PartOwn w' base ({ q with buffers := l } : PartD) ∧ ({ q with buffers := l } : PartD).blocks = q.blocks := by
 have hbs : q.blocks = (blk q.procA ++ q.procs.filterMap procN.kid ++ blk q.semA ++ blk q.eventA ++ blk q.boardA) ++ ((blk q.bufferA ++ q.buffers.filterMap bufferN.kid) ++ (blk q.portA ++ (q.ports.filterMap portN.kid))) := by simp [PartD.blocks, List.append_assoc]
 have hbn : ({ q with buffers := l } : PartD).blocks = q.blocks := by simp only [PartD.blocks, hki]
 have hnd := h.nodup
 rw [hbs] at hnd
 have hdis : ∀ g, (g ∈ (blk q.procA ++ q.procs.filterMap procN.kid ++ blk q.semA ++ blk q.eventA ++ blk q.boardA) ∨ g ∈ (blk q.portA ++ (q.ports.filterMap portN.kid))) → g ∉ (blk q.bufferA ++ q.buffers.filterMap bufferN.kid) := fun g hgm hA => by
  obtain ⟨-, h2, h3⟩ := List.nodup_append.1 hnd
  obtain ⟨-, -, h4⟩ := List.nodup_append.1 h2
  rcases hgm with hgm | hgm
  ·exact h3 g hgm g (List.mem_append_left _ hA) rfl
  ·exact h4 g hA g hgm rfl
 have hs : ∀ g, (g ∈ (blk q.procA ++ q.procs.filterMap procN.kid ++ blk q.semA ++ blk q.eventA ++ blk q.boardA) ∨ g ∈ (blk q.portA ++ (q.ports.filterMap portN.kid))) → w'.heap[g]? = w.heap[g]? := fun g hgm => hk.same g (h.lt g (by
  rw [hbs]
  rcases hgm with hgm | hgm
  ·exact List.mem_append_left _ hgm
  ·exact List.mem_append_right _ (List.mem_append_right _ hgm))).2 (hdis g hgm)
 refine ⟨⟨own_same h.procs fun g hgm => hs g (.inl (by simp [hgm])), own_same h.sems fun g hgm => hs g (.inl (by simp [hgm])), own_same h.events fun g hgm => hs g (.inl (by simp [hgm])), own_same h.boards fun g hgm => hs g (.inl (by simp [hgm])), (by rw [hl]; exact ho), own_same h.ports fun g hgm => hs g (.inr (by simp [hgm])), fun y hy => (h.mineP y hy).same fun g hk => hs g (.inl (by simp only [List.mem_append, List.mem_filterMap]; simp [exists_kid hy hk])), hm, fun y hy => (h.mineQ y hy).same fun g hk => hs g (.inr (by simp only [List.mem_append, List.mem_filterMap]; simp [exists_kid hy hk])), ?_⟩, hbn⟩
 rw [hbn]
 exact h.nodup
/-- The list of the kind Port is turned. -/
theorem PartOwn.turnPort {w w' : World} {base : Nat} {q : PartD} {l : List PortD} (h : PartOwn w base q) (ho : w'.ownsRow base 61 5 (.slice q.portA q.ports.length q.portC) q.ports.length (portK.flat l)) (hl : l.length = q.ports.length) (hm : ∀ y ∈ l, portN.Mine w' base y) (hki : l.filterMap portN.kid = q.ports.filterMap portN.kid) (hk : KeptBut w w' (blk q.portA ++ q.ports.filterMap portN.kid)) :
  PartOwn w' base ({ q with ports := l } : PartD) ∧ ({ q with ports := l } : PartD).blocks = q.blocks := by
 have hbs : q.blocks = (blk q.procA ++ q.procs.filterMap procN.kid ++ blk q.semA ++ blk q.eventA ++ blk q.boardA ++ blk q.bufferA ++ q.buffers.filterMap bufferN.kid) ++ ((blk q.portA ++ q.ports.filterMap portN.kid) ++ []) := by simp [PartD.blocks, List.append_assoc]
 have hbn : ({ q with ports := l } : PartD).blocks = q.blocks := by simp only [PartD.blocks, hki]
 have hnd := h.nodup
 rw [hbs] at hnd
 have hdis : ∀ g, (g ∈ (blk q.procA ++ q.procs.filterMap procN.kid ++ blk q.semA ++ blk q.eventA ++ blk q.boardA ++ blk q.bufferA ++ q.buffers.filterMap bufferN.kid) ∨ g ∈ []) → g ∉ (blk q.portA ++ q.ports.filterMap portN.kid) := fun g hgm hA => by
  obtain ⟨-, h2, h3⟩ := List.nodup_append.1 hnd
  obtain ⟨-, -, h4⟩ := List.nodup_append.1 h2
  rcases hgm with hgm | hgm
  ·exact h3 g hgm g (List.mem_append_left _ hA) rfl
  ·exact h4 g hA g hgm rfl
 have hs : ∀ g, (g ∈ (blk q.procA ++ q.procs.filterMap procN.kid ++ blk q.semA ++ blk q.eventA ++ blk q.boardA ++ blk q.bufferA ++ q.buffers.filterMap bufferN.kid) ∨ g ∈ []) → w'.heap[g]? = w.heap[g]? := fun g hgm => hk.same g (h.lt g (by
  rw [hbs]
  rcases hgm with hgm | hgm
  ·exact List.mem_append_left _ hgm
  ·exact List.mem_append_right _ (List.mem_append_right _ hgm))).2 (hdis g hgm)
 refine ⟨⟨own_same h.procs fun g hgm => hs g (.inl (by simp [hgm])), own_same h.sems fun g hgm => hs g (.inl (by simp [hgm])), own_same h.events fun g hgm => hs g (.inl (by simp [hgm])), own_same h.boards fun g hgm => hs g (.inl (by simp [hgm])), own_same h.buffers fun g hgm => hs g (.inl (by simp [hgm])), (by rw [hl]; exact ho), fun y hy => (h.mineP y hy).same fun g hk => hs g (.inl (by simp only [List.mem_append, List.mem_filterMap]; simp [exists_kid hy hk])), fun y hy => (h.mineF y hy).same fun g hk => hs g (.inl (by simp only [List.mem_append, List.mem_filterMap]; simp [exists_kid hy hk])), hm, ?_⟩, hbn⟩
 rw [hbn]
 exact h.nodup
/-- How many marks a partition takes. -/
def cntPart (p : PartD) : Nat := cntL cProc p.procs + cntL (fun _ => 3) p.sems + cntL (fun _ => 2) p.events + cntL (fun _ => 3) p.boards + cntL cBuffer p.buffers + cntL cPort p.ports
def mkPart (k : Int) (p : PartD) : PartD := { p with procs := markL mkProc cProc (k) p.procs, sems := markL mkSem (fun _ => 3) (k + (cntL cProc p.procs : Nat)) p.sems, events := markL mkEvent (fun _ => 2) (k + (cntL cProc p.procs : Nat) + (cntL (fun _ => 3) p.sems : Nat)) p.events, boards := markL mkBoard (fun _ => 3) (k + (cntL cProc p.procs : Nat) + (cntL (fun _ => 3) p.sems : Nat) + (cntL (fun _ => 2) p.events : Nat)) p.boards, buffers := markL mkBuffer cBuffer (k + (cntL cProc p.procs : Nat) + (cntL (fun _ => 3) p.sems : Nat) + (cntL (fun _ => 2) p.events : Nat) + (cntL (fun _ => 3) p.boards : Nat)) p.buffers, ports := markL mkPort cPort (k + (cntL cProc p.procs : Nat) + (cntL (fun _ => 3) p.sems : Nat) + (cntL (fun _ => 2) p.events : Nat) + (cntL (fun _ => 3) p.boards : Nat) + (cntL cBuffer p.buffers : Nat)) p.ports }
/-- The lengths are such that a machine can count them. -/
structure PartD.Cnt (p : PartD) : Prop where
 nProc : p.procs.length ≤ 1048576
 nSem : p.sems.length ≤ 1048576
 nEvent : p.events.length ≤ 1048576
 nBoard : p.boards.length ≤ 1048576
 nBuffer : p.buffers.length ≤ 1048576
 nPort : p.ports.length ≤ 1048576
 procs : ∀ x ∈ p.procs, x.prog.length ≤ 1048576
 buffers : ∀ x ∈ p.buffers, x.items.length ≤ 1048576
 ports : ∀ x ∈ p.ports, x.items.length ≤ 1048576
set_option maxRecDepth 100000 in
set_option maxHeartbeats 4000000 in
theorem markPart_l (p : PartD) (k : Int) (w : World) (base : Nat) (hc : p.Cnt) (h0 : 1 ≤ k) (h1 : k + (cntPart p : Nat) ≤ 90000000) (ho : PartOwn w base p) :
  Calls Tryz.prog 64 #[.agg p.cells, .int .i64 k] w fun e w' => e = .returned (.int .i64 (k + (cntPart p : Nat))) ∧ PartOwn w' base (mkPart k p) ∧ KeptBut w w' p.blocks := by
 have HC : Hid (p.Cnt ∧ k + (cntPart p : Nat) ≤ 90000000) := ⟨hc, h1⟩
 have HX : Hid (PartBox (w.alloc (.cells #[.int .i64 p.id, .int .i64 p.next, .slice p.procA p.procs.length p.procC, .slice p.semA p.sems.length p.semC, .slice p.eventA p.events.length p.eventC, .slice p.boardA p.boards.length p.boardC, .slice p.bufferA p.buffers.length p.bufferC, .slice p.portA p.ports.length p.portC] 32)) w.heap.size p ∧ PartOwn (w.alloc (.cells #[.int .i64 p.id, .int .i64 p.next, .slice p.procA p.procs.length p.procC, .slice p.semA p.sems.length p.semC, .slice p.eventA p.events.length p.eventC, .slice p.boardA p.boards.length p.boardC, .slice p.bufferA p.buffers.length p.bufferC, .slice p.portA p.ports.length p.portC] 32)) base p ∧ KeptBut w (w.alloc (.cells #[.int .i64 p.id, .int .i64 p.next, .slice p.procA p.procs.length p.procC, .slice p.semA p.sems.length p.semC, .slice p.eventA p.events.length p.eventC, .slice p.boardA p.boards.length p.boardC, .slice p.bufferA p.buffers.length p.bufferC, .slice p.portA p.ports.length p.portC] 32)) p.blocks) := ⟨heap_alloc_new _ _, ho.below ((Below.refl _ _).alloc (Nat.le_refl _) _), KeptBut.of_below ((Below.refl _ _).alloc (Nat.le_refl _) _)⟩
 have HB : Hid (∀ g ∈ p.blocks, g < w.heap.size) := fun g hg => (ho.lt g hg).2
 have q0 : 1 ≤ k ∧ k + (cntL cProc p.procs : Nat) ≤ 90000000 := by have := h1; unfold cntPart at this; omega
 have q1 : 1 ≤ k + (cntL cProc p.procs : Nat) ∧ k + (cntL cProc p.procs : Nat) + (cntL (fun _ => 3) p.sems : Nat) ≤ 90000000 := by have := h1; unfold cntPart at this; omega
 have q2 : 1 ≤ k + (cntL cProc p.procs : Nat) + (cntL (fun _ => 3) p.sems : Nat) ∧ k + (cntL cProc p.procs : Nat) + (cntL (fun _ => 3) p.sems : Nat) + (cntL (fun _ => 2) p.events : Nat) ≤ 90000000 := by have := h1; unfold cntPart at this; omega
 have q3 : 1 ≤ k + (cntL cProc p.procs : Nat) + (cntL (fun _ => 3) p.sems : Nat) + (cntL (fun _ => 2) p.events : Nat) ∧ k + (cntL cProc p.procs : Nat) + (cntL (fun _ => 3) p.sems : Nat) + (cntL (fun _ => 2) p.events : Nat) + (cntL (fun _ => 3) p.boards : Nat) ≤ 90000000 := by have := h1; unfold cntPart at this; omega
 have q4 : 1 ≤ k + (cntL cProc p.procs : Nat) + (cntL (fun _ => 3) p.sems : Nat) + (cntL (fun _ => 2) p.events : Nat) + (cntL (fun _ => 3) p.boards : Nat) ∧ k + (cntL cProc p.procs : Nat) + (cntL (fun _ => 3) p.sems : Nat) + (cntL (fun _ => 2) p.events : Nat) + (cntL (fun _ => 3) p.boards : Nat) + (cntL cBuffer p.buffers : Nat) ≤ 90000000 := by have := h1; unfold cntPart at this; omega
 have q5 : 1 ≤ k + (cntL cProc p.procs : Nat) + (cntL (fun _ => 3) p.sems : Nat) + (cntL (fun _ => 2) p.events : Nat) + (cntL (fun _ => 3) p.boards : Nat) + (cntL cBuffer p.buffers : Nat) ∧ k + (cntL cProc p.procs : Nat) + (cntL (fun _ => 3) p.sems : Nat) + (cntL (fun _ => 2) p.events : Nat) + (cntL (fun _ => 3) p.boards : Nat) + (cntL cBuffer p.buffers : Nat) + (cntL cPort p.ports : Nat) ≤ 90000000 := by have := h1; unfold cntPart at this; omega
 clear hc h1 ho
 unfold PartD.cells
 go_enter Tryz.func64, Tryz.ntmps64
 go_wp2_with fail
 generalize w.alloc (.cells #[.int .i64 p.id, .int .i64 p.next, .slice p.procA p.procs.length p.procC, .slice p.semA p.sems.length p.semC, .slice p.eventA p.events.length p.eventC, .slice p.boardA p.boards.length p.boardC, .slice p.bufferA p.buffers.length p.bufferC, .slice p.portA p.ports.length p.portC] 32) = W0 at *
 refine (markSProc_l p.procA p.procs p.procC (k) W0 base HC.out.1.nProc HC.out.1.procs q0.1 q0.2 HX.out.2.1.procs HX.out.2.1.mineP (by
  have h5 := HX.out.2.1.nodup
  have h6 : PartD.blocks p = p.blocks := rfl
  rw [h6, show p.blocks = [] ++ ((blk p.procA ++ p.procs.filterMap procN.kid) ++ (blk p.semA ++ (blk p.eventA ++ (blk p.boardA ++ (blk p.bufferA ++ (p.buffers.filterMap bufferN.kid ++ (blk p.portA ++ (p.ports.filterMap portN.kid)))))))) by simp [PartD.blocks, List.append_assoc]] at h5
  exact (List.nodup_append.1 (List.nodup_append.1 h5).2.1).1)).mono ?_
 rintro e W1 ⟨rfl, how, hmi, hkb⟩
 have ht := HX.out.2.1.turnProc how (markL_length _ _ _ _) hmi (markL_kid (N := procN) (f := mkProc) (c := cProc) (fun _ _ => rfl) _ _) hkb
 have HQ1 : Hid (PartD.blocks ({ p with procs := markL mkProc cProc (k) p.procs } : PartD) = p.blocks) := ht.2.trans rfl
 have hsub : ∀ g ∈ blk p.procA ++ p.procs.filterMap procN.kid, g ∈ p.blocks := fun g hg => by rw [show p.blocks = [] ++ ((blk p.procA ++ p.procs.filterMap procN.kid) ++ (blk p.semA ++ (blk p.eventA ++ (blk p.boardA ++ (blk p.bufferA ++ (p.buffers.filterMap bufferN.kid ++ (blk p.portA ++ (p.ports.filterMap portN.kid)))))))) by simp [PartD.blocks, List.append_assoc]]; exact List.mem_append_right _ (List.mem_append_left _ hg)
 have hpb : w.heap.size ∉ p.blocks := fun hm => by have := HB.out _ hm; omega
 have HY : Hid (PartBox W1 w.heap.size p ∧ PartOwn W1 base ({ p with procs := markL mkProc cProc (k) p.procs } : PartD) ∧ KeptBut w W1 p.blocks) := ⟨(hkb.same _ (Array.getElem?_eq_some_iff.1 HX.out.1).1 fun hm => hpb (hsub _ hm)).trans HX.out.1, ht.1, HX.out.2.2.trans (hkb.mono hsub)⟩
 clear HX how hkb ht hsub hpb hmi
 have HX := HY
 clear HY
 have m0 : W1.cell? ⟨w.heap.size, 3, none⟩ = some (.slice p.semA p.sems.length p.semC) := by have := HX.out.1; unfold PartBox at this; simp [World.cell?, this]
 go_wp2_with fail
 clear m0
 refine (markSSem_l p.semA p.sems p.semC (k + (cntL cProc p.procs : Nat)) W1 base HC.out.1.nSem q1.1 q1.2 HX.out.2.1.sems).mono ?_
 rintro e W2 ⟨rfl, how, hkb⟩
 have ht := HX.out.2.1.turnSem how (markL_length _ _ _ _) hkb
 have HQ2 : Hid (PartD.blocks ({ p with procs := markL mkProc cProc (k) p.procs, sems := markL mkSem (fun _ => 3) (k + (cntL cProc p.procs : Nat)) p.sems } : PartD) = p.blocks) := ht.2.trans HQ1.out
 have hsub : ∀ g ∈ blk p.semA, g ∈ p.blocks := fun g hg => by rw [show p.blocks = (blk p.procA ++ p.procs.filterMap procN.kid) ++ ((blk p.semA) ++ (blk p.eventA ++ (blk p.boardA ++ (blk p.bufferA ++ (p.buffers.filterMap bufferN.kid ++ (blk p.portA ++ (p.ports.filterMap portN.kid))))))) by simp [PartD.blocks, List.append_assoc]]; exact List.mem_append_right _ (List.mem_append_left _ hg)
 have hpb : w.heap.size ∉ p.blocks := fun hm => by have := HB.out _ hm; omega
 have HY : Hid (PartBox W2 w.heap.size p ∧ PartOwn W2 base ({ p with procs := markL mkProc cProc (k) p.procs, sems := markL mkSem (fun _ => 3) (k + (cntL cProc p.procs : Nat)) p.sems } : PartD) ∧ KeptBut w W2 p.blocks) := ⟨(hkb.same _ (Array.getElem?_eq_some_iff.1 HX.out.1).1 fun hm => hpb (hsub _ hm)).trans HX.out.1, ht.1, HX.out.2.2.trans (hkb.mono hsub)⟩
 clear HX how hkb ht hsub hpb
 have HX := HY
 clear HY
 have m1 : W2.cell? ⟨w.heap.size, 4, none⟩ = some (.slice p.eventA p.events.length p.eventC) := by have := HX.out.1; unfold PartBox at this; simp [World.cell?, this]
 go_wp2_with fail
 clear m1
 refine (markSEvent_l p.eventA p.events p.eventC (k + (cntL cProc p.procs : Nat) + (cntL (fun _ => 3) p.sems : Nat)) W2 base HC.out.1.nEvent q2.1 q2.2 HX.out.2.1.events).mono ?_
 rintro e W3 ⟨rfl, how, hkb⟩
 have ht := HX.out.2.1.turnEvent how (markL_length _ _ _ _) hkb
 have HQ3 : Hid (PartD.blocks ({ p with procs := markL mkProc cProc (k) p.procs, sems := markL mkSem (fun _ => 3) (k + (cntL cProc p.procs : Nat)) p.sems, events := markL mkEvent (fun _ => 2) (k + (cntL cProc p.procs : Nat) + (cntL (fun _ => 3) p.sems : Nat)) p.events } : PartD) = p.blocks) := ht.2.trans HQ2.out
 have hsub : ∀ g ∈ blk p.eventA, g ∈ p.blocks := fun g hg => by rw [show p.blocks = (blk p.procA ++ p.procs.filterMap procN.kid ++ blk p.semA) ++ ((blk p.eventA) ++ (blk p.boardA ++ (blk p.bufferA ++ (p.buffers.filterMap bufferN.kid ++ (blk p.portA ++ (p.ports.filterMap portN.kid)))))) by simp [PartD.blocks, List.append_assoc]]; exact List.mem_append_right _ (List.mem_append_left _ hg)
 have hpb : w.heap.size ∉ p.blocks := fun hm => by have := HB.out _ hm; omega
 have HY : Hid (PartBox W3 w.heap.size p ∧ PartOwn W3 base ({ p with procs := markL mkProc cProc (k) p.procs, sems := markL mkSem (fun _ => 3) (k + (cntL cProc p.procs : Nat)) p.sems, events := markL mkEvent (fun _ => 2) (k + (cntL cProc p.procs : Nat) + (cntL (fun _ => 3) p.sems : Nat)) p.events } : PartD) ∧ KeptBut w W3 p.blocks) := ⟨(hkb.same _ (Array.getElem?_eq_some_iff.1 HX.out.1).1 fun hm => hpb (hsub _ hm)).trans HX.out.1, ht.1, HX.out.2.2.trans (hkb.mono hsub)⟩
 clear HX how hkb ht hsub hpb
 have HX := HY
 clear HY
 have m2 : W3.cell? ⟨w.heap.size, 5, none⟩ = some (.slice p.boardA p.boards.length p.boardC) := by have := HX.out.1; unfold PartBox at this; simp [World.cell?, this]
 go_wp2_with fail
 clear m2
 refine (markSBoard_l p.boardA p.boards p.boardC (k + (cntL cProc p.procs : Nat) + (cntL (fun _ => 3) p.sems : Nat) + (cntL (fun _ => 2) p.events : Nat)) W3 base HC.out.1.nBoard q3.1 q3.2 HX.out.2.1.boards).mono ?_
 rintro e W4 ⟨rfl, how, hkb⟩
 have ht := HX.out.2.1.turnBoard how (markL_length _ _ _ _) hkb
 have HQ4 : Hid (PartD.blocks ({ p with procs := markL mkProc cProc (k) p.procs, sems := markL mkSem (fun _ => 3) (k + (cntL cProc p.procs : Nat)) p.sems, events := markL mkEvent (fun _ => 2) (k + (cntL cProc p.procs : Nat) + (cntL (fun _ => 3) p.sems : Nat)) p.events, boards := markL mkBoard (fun _ => 3) (k + (cntL cProc p.procs : Nat) + (cntL (fun _ => 3) p.sems : Nat) + (cntL (fun _ => 2) p.events : Nat)) p.boards } : PartD) = p.blocks) := ht.2.trans HQ3.out
 have hsub : ∀ g ∈ blk p.boardA, g ∈ p.blocks := fun g hg => by rw [show p.blocks = (blk p.procA ++ p.procs.filterMap procN.kid ++ blk p.semA ++ blk p.eventA) ++ ((blk p.boardA) ++ (blk p.bufferA ++ (p.buffers.filterMap bufferN.kid ++ (blk p.portA ++ (p.ports.filterMap portN.kid))))) by simp [PartD.blocks, List.append_assoc]]; exact List.mem_append_right _ (List.mem_append_left _ hg)
 have hpb : w.heap.size ∉ p.blocks := fun hm => by have := HB.out _ hm; omega
 have HY : Hid (PartBox W4 w.heap.size p ∧ PartOwn W4 base ({ p with procs := markL mkProc cProc (k) p.procs, sems := markL mkSem (fun _ => 3) (k + (cntL cProc p.procs : Nat)) p.sems, events := markL mkEvent (fun _ => 2) (k + (cntL cProc p.procs : Nat) + (cntL (fun _ => 3) p.sems : Nat)) p.events, boards := markL mkBoard (fun _ => 3) (k + (cntL cProc p.procs : Nat) + (cntL (fun _ => 3) p.sems : Nat) + (cntL (fun _ => 2) p.events : Nat)) p.boards } : PartD) ∧ KeptBut w W4 p.blocks) := ⟨(hkb.same _ (Array.getElem?_eq_some_iff.1 HX.out.1).1 fun hm => hpb (hsub _ hm)).trans HX.out.1, ht.1, HX.out.2.2.trans (hkb.mono hsub)⟩
 clear HX how hkb ht hsub hpb
 have HX := HY
 clear HY
 have m3 : W4.cell? ⟨w.heap.size, 6, none⟩ = some (.slice p.bufferA p.buffers.length p.bufferC) := by have := HX.out.1; unfold PartBox at this; simp [World.cell?, this]
 go_wp2_with fail
 clear m3
 refine (markSBuffer_l p.bufferA p.buffers p.bufferC (k + (cntL cProc p.procs : Nat) + (cntL (fun _ => 3) p.sems : Nat) + (cntL (fun _ => 2) p.events : Nat) + (cntL (fun _ => 3) p.boards : Nat)) W4 base HC.out.1.nBuffer HC.out.1.buffers q4.1 q4.2 HX.out.2.1.buffers HX.out.2.1.mineF (by
  have h5 := HX.out.2.1.nodup
  have h6 : PartD.blocks ({ p with procs := markL mkProc cProc (k) p.procs, sems := markL mkSem (fun _ => 3) (k + (cntL cProc p.procs : Nat)) p.sems, events := markL mkEvent (fun _ => 2) (k + (cntL cProc p.procs : Nat) + (cntL (fun _ => 3) p.sems : Nat)) p.events, boards := markL mkBoard (fun _ => 3) (k + (cntL cProc p.procs : Nat) + (cntL (fun _ => 3) p.sems : Nat) + (cntL (fun _ => 2) p.events : Nat)) p.boards } : PartD) = p.blocks := HQ4.out
  rw [h6, show p.blocks = (blk p.procA ++ p.procs.filterMap procN.kid ++ blk p.semA ++ blk p.eventA ++ blk p.boardA) ++ ((blk p.bufferA ++ p.buffers.filterMap bufferN.kid) ++ (blk p.portA ++ (p.ports.filterMap portN.kid))) by simp [PartD.blocks, List.append_assoc]] at h5
  exact (List.nodup_append.1 (List.nodup_append.1 h5).2.1).1)).mono ?_
 rintro e W5 ⟨rfl, how, hmi, hkb⟩
 have ht := HX.out.2.1.turnBuffer how (markL_length _ _ _ _) hmi (markL_kid (N := bufferN) (f := mkBuffer) (c := cBuffer) (fun _ _ => rfl) _ _) hkb
 have HQ5 : Hid (PartD.blocks ({ p with procs := markL mkProc cProc (k) p.procs, sems := markL mkSem (fun _ => 3) (k + (cntL cProc p.procs : Nat)) p.sems, events := markL mkEvent (fun _ => 2) (k + (cntL cProc p.procs : Nat) + (cntL (fun _ => 3) p.sems : Nat)) p.events, boards := markL mkBoard (fun _ => 3) (k + (cntL cProc p.procs : Nat) + (cntL (fun _ => 3) p.sems : Nat) + (cntL (fun _ => 2) p.events : Nat)) p.boards, buffers := markL mkBuffer cBuffer (k + (cntL cProc p.procs : Nat) + (cntL (fun _ => 3) p.sems : Nat) + (cntL (fun _ => 2) p.events : Nat) + (cntL (fun _ => 3) p.boards : Nat)) p.buffers } : PartD) = p.blocks) := ht.2.trans HQ4.out
 have hsub : ∀ g ∈ blk p.bufferA ++ p.buffers.filterMap bufferN.kid, g ∈ p.blocks := fun g hg => by rw [show p.blocks = (blk p.procA ++ p.procs.filterMap procN.kid ++ blk p.semA ++ blk p.eventA ++ blk p.boardA) ++ ((blk p.bufferA ++ p.buffers.filterMap bufferN.kid) ++ (blk p.portA ++ (p.ports.filterMap portN.kid))) by simp [PartD.blocks, List.append_assoc]]; exact List.mem_append_right _ (List.mem_append_left _ hg)
 have hpb : w.heap.size ∉ p.blocks := fun hm => by have := HB.out _ hm; omega
 have HY : Hid (PartBox W5 w.heap.size p ∧ PartOwn W5 base ({ p with procs := markL mkProc cProc (k) p.procs, sems := markL mkSem (fun _ => 3) (k + (cntL cProc p.procs : Nat)) p.sems, events := markL mkEvent (fun _ => 2) (k + (cntL cProc p.procs : Nat) + (cntL (fun _ => 3) p.sems : Nat)) p.events, boards := markL mkBoard (fun _ => 3) (k + (cntL cProc p.procs : Nat) + (cntL (fun _ => 3) p.sems : Nat) + (cntL (fun _ => 2) p.events : Nat)) p.boards, buffers := markL mkBuffer cBuffer (k + (cntL cProc p.procs : Nat) + (cntL (fun _ => 3) p.sems : Nat) + (cntL (fun _ => 2) p.events : Nat) + (cntL (fun _ => 3) p.boards : Nat)) p.buffers } : PartD) ∧ KeptBut w W5 p.blocks) := ⟨(hkb.same _ (Array.getElem?_eq_some_iff.1 HX.out.1).1 fun hm => hpb (hsub _ hm)).trans HX.out.1, ht.1, HX.out.2.2.trans (hkb.mono hsub)⟩
 clear HX how hkb ht hsub hpb hmi
 have HX := HY
 clear HY
 have m4 : W5.cell? ⟨w.heap.size, 7, none⟩ = some (.slice p.portA p.ports.length p.portC) := by have := HX.out.1; unfold PartBox at this; simp [World.cell?, this]
 go_wp2_with fail
 clear m4
 refine (markSPort_l p.portA p.ports p.portC (k + (cntL cProc p.procs : Nat) + (cntL (fun _ => 3) p.sems : Nat) + (cntL (fun _ => 2) p.events : Nat) + (cntL (fun _ => 3) p.boards : Nat) + (cntL cBuffer p.buffers : Nat)) W5 base HC.out.1.nPort HC.out.1.ports q5.1 q5.2 HX.out.2.1.ports HX.out.2.1.mineQ (by
  have h5 := HX.out.2.1.nodup
  have h6 : PartD.blocks ({ p with procs := markL mkProc cProc (k) p.procs, sems := markL mkSem (fun _ => 3) (k + (cntL cProc p.procs : Nat)) p.sems, events := markL mkEvent (fun _ => 2) (k + (cntL cProc p.procs : Nat) + (cntL (fun _ => 3) p.sems : Nat)) p.events, boards := markL mkBoard (fun _ => 3) (k + (cntL cProc p.procs : Nat) + (cntL (fun _ => 3) p.sems : Nat) + (cntL (fun _ => 2) p.events : Nat)) p.boards, buffers := markL mkBuffer cBuffer (k + (cntL cProc p.procs : Nat) + (cntL (fun _ => 3) p.sems : Nat) + (cntL (fun _ => 2) p.events : Nat) + (cntL (fun _ => 3) p.boards : Nat)) p.buffers } : PartD) = p.blocks := HQ5.out
  rw [h6, show p.blocks = (blk p.procA ++ p.procs.filterMap procN.kid ++ blk p.semA ++ blk p.eventA ++ blk p.boardA ++ blk p.bufferA ++ p.buffers.filterMap bufferN.kid) ++ ((blk p.portA ++ p.ports.filterMap portN.kid) ++ []) by simp [PartD.blocks, List.append_assoc]] at h5
  exact (List.nodup_append.1 (List.nodup_append.1 h5).2.1).1)).mono ?_
 rintro e W6 ⟨rfl, how, hmi, hkb⟩
 have ht := HX.out.2.1.turnPort how (markL_length _ _ _ _) hmi (markL_kid (N := portN) (f := mkPort) (c := cPort) (fun _ _ => rfl) _ _) hkb
 have HQ6 : Hid (PartD.blocks ({ p with procs := markL mkProc cProc (k) p.procs, sems := markL mkSem (fun _ => 3) (k + (cntL cProc p.procs : Nat)) p.sems, events := markL mkEvent (fun _ => 2) (k + (cntL cProc p.procs : Nat) + (cntL (fun _ => 3) p.sems : Nat)) p.events, boards := markL mkBoard (fun _ => 3) (k + (cntL cProc p.procs : Nat) + (cntL (fun _ => 3) p.sems : Nat) + (cntL (fun _ => 2) p.events : Nat)) p.boards, buffers := markL mkBuffer cBuffer (k + (cntL cProc p.procs : Nat) + (cntL (fun _ => 3) p.sems : Nat) + (cntL (fun _ => 2) p.events : Nat) + (cntL (fun _ => 3) p.boards : Nat)) p.buffers, ports := markL mkPort cPort (k + (cntL cProc p.procs : Nat) + (cntL (fun _ => 3) p.sems : Nat) + (cntL (fun _ => 2) p.events : Nat) + (cntL (fun _ => 3) p.boards : Nat) + (cntL cBuffer p.buffers : Nat)) p.ports } : PartD) = p.blocks) := ht.2.trans HQ5.out
 have hsub : ∀ g ∈ blk p.portA ++ p.ports.filterMap portN.kid, g ∈ p.blocks := fun g hg => by rw [show p.blocks = (blk p.procA ++ p.procs.filterMap procN.kid ++ blk p.semA ++ blk p.eventA ++ blk p.boardA ++ blk p.bufferA ++ p.buffers.filterMap bufferN.kid) ++ ((blk p.portA ++ p.ports.filterMap portN.kid) ++ []) by simp [PartD.blocks, List.append_assoc]]; exact List.mem_append_right _ (List.mem_append_left _ hg)
 have hpb : w.heap.size ∉ p.blocks := fun hm => by have := HB.out _ hm; omega
 have HY : Hid (PartBox W6 w.heap.size p ∧ PartOwn W6 base ({ p with procs := markL mkProc cProc (k) p.procs, sems := markL mkSem (fun _ => 3) (k + (cntL cProc p.procs : Nat)) p.sems, events := markL mkEvent (fun _ => 2) (k + (cntL cProc p.procs : Nat) + (cntL (fun _ => 3) p.sems : Nat)) p.events, boards := markL mkBoard (fun _ => 3) (k + (cntL cProc p.procs : Nat) + (cntL (fun _ => 3) p.sems : Nat) + (cntL (fun _ => 2) p.events : Nat)) p.boards, buffers := markL mkBuffer cBuffer (k + (cntL cProc p.procs : Nat) + (cntL (fun _ => 3) p.sems : Nat) + (cntL (fun _ => 2) p.events : Nat) + (cntL (fun _ => 3) p.boards : Nat)) p.buffers, ports := markL mkPort cPort (k + (cntL cProc p.procs : Nat) + (cntL (fun _ => 3) p.sems : Nat) + (cntL (fun _ => 2) p.events : Nat) + (cntL (fun _ => 3) p.boards : Nat) + (cntL cBuffer p.buffers : Nat)) p.ports } : PartD) ∧ KeptBut w W6 p.blocks) := ⟨(hkb.same _ (Array.getElem?_eq_some_iff.1 HX.out.1).1 fun hm => hpb (hsub _ hm)).trans HX.out.1, ht.1, HX.out.2.2.trans (hkb.mono hsub)⟩
 clear HX how hkb ht hsub hpb hmi
 have HX := HY
 clear HY
 go_wp2
 go_ret
 exact ⟨ret_int (by unfold cntPart; omega), HX.out.2.1, HX.out.2.2⟩
set_option maxRecDepth 100000 in
set_option maxHeartbeats 4000000 in
theorem heldPart_l (p : PartD) (k : Int) (w : World) (hc : p.Cnt) (h0 : 1 ≤ k) (h1 : k + (cntPart p : Nat) ≤ 90000000) (ho : PartD.At w (mkPart k p)) :
  Calls Tryz.prog 66 #[.agg p.cells, .int .i64 k] w fun e w' => e = .returned (.int .i64 (k + (cntPart p : Nat))) ∧ Below w.heap.size w w' := by
 have HC : Hid (p.Cnt ∧ k + (cntPart p : Nat) ≤ 90000000) := ⟨hc, h1⟩
 have HX : Hid (PartBox (w.alloc (.cells #[.int .i64 p.id, .int .i64 p.next, .slice p.procA p.procs.length p.procC, .slice p.semA p.sems.length p.semC, .slice p.eventA p.events.length p.eventC, .slice p.boardA p.boards.length p.boardC, .slice p.bufferA p.buffers.length p.bufferC, .slice p.portA p.ports.length p.portC] 32)) w.heap.size p ∧ PartD.At (w.alloc (.cells #[.int .i64 p.id, .int .i64 p.next, .slice p.procA p.procs.length p.procC, .slice p.semA p.sems.length p.semC, .slice p.eventA p.events.length p.eventC, .slice p.boardA p.boards.length p.boardC, .slice p.bufferA p.buffers.length p.bufferC, .slice p.portA p.ports.length p.portC] 32)) (mkPart k p) ∧ Below w.heap.size w (w.alloc (.cells #[.int .i64 p.id, .int .i64 p.next, .slice p.procA p.procs.length p.procC, .slice p.semA p.sems.length p.semC, .slice p.eventA p.events.length p.eventC, .slice p.boardA p.boards.length p.boardC, .slice p.bufferA p.buffers.length p.bufferC, .slice p.portA p.ports.length p.portC] 32))) := ⟨heap_alloc_new _ _, ho.below ((Below.refl _ _).alloc (Nat.le_refl _) _), (Below.refl _ _).alloc (Nat.le_refl _) _⟩
 have q0 : 1 ≤ k ∧ k + (cntL cProc p.procs : Nat) ≤ 90000000 := by have := h1; unfold cntPart at this; omega
 have q1 : 1 ≤ k + (cntL cProc p.procs : Nat) ∧ k + (cntL cProc p.procs : Nat) + (cntL (fun _ => 3) p.sems : Nat) ≤ 90000000 := by have := h1; unfold cntPart at this; omega
 have q2 : 1 ≤ k + (cntL cProc p.procs : Nat) + (cntL (fun _ => 3) p.sems : Nat) ∧ k + (cntL cProc p.procs : Nat) + (cntL (fun _ => 3) p.sems : Nat) + (cntL (fun _ => 2) p.events : Nat) ≤ 90000000 := by have := h1; unfold cntPart at this; omega
 have q3 : 1 ≤ k + (cntL cProc p.procs : Nat) + (cntL (fun _ => 3) p.sems : Nat) + (cntL (fun _ => 2) p.events : Nat) ∧ k + (cntL cProc p.procs : Nat) + (cntL (fun _ => 3) p.sems : Nat) + (cntL (fun _ => 2) p.events : Nat) + (cntL (fun _ => 3) p.boards : Nat) ≤ 90000000 := by have := h1; unfold cntPart at this; omega
 have q4 : 1 ≤ k + (cntL cProc p.procs : Nat) + (cntL (fun _ => 3) p.sems : Nat) + (cntL (fun _ => 2) p.events : Nat) + (cntL (fun _ => 3) p.boards : Nat) ∧ k + (cntL cProc p.procs : Nat) + (cntL (fun _ => 3) p.sems : Nat) + (cntL (fun _ => 2) p.events : Nat) + (cntL (fun _ => 3) p.boards : Nat) + (cntL cBuffer p.buffers : Nat) ≤ 90000000 := by have := h1; unfold cntPart at this; omega
 have q5 : 1 ≤ k + (cntL cProc p.procs : Nat) + (cntL (fun _ => 3) p.sems : Nat) + (cntL (fun _ => 2) p.events : Nat) + (cntL (fun _ => 3) p.boards : Nat) + (cntL cBuffer p.buffers : Nat) ∧ k + (cntL cProc p.procs : Nat) + (cntL (fun _ => 3) p.sems : Nat) + (cntL (fun _ => 2) p.events : Nat) + (cntL (fun _ => 3) p.boards : Nat) + (cntL cBuffer p.buffers : Nat) + (cntL cPort p.ports : Nat) ≤ 90000000 := by have := h1; unfold cntPart at this; omega
 clear hc h1 ho
 unfold PartD.cells
 go_enter Tryz.func66, Tryz.ntmps66
 go_wp2_with fail
 generalize w.alloc (.cells #[.int .i64 p.id, .int .i64 p.next, .slice p.procA p.procs.length p.procC, .slice p.semA p.sems.length p.semC, .slice p.eventA p.events.length p.eventC, .slice p.boardA p.boards.length p.boardC, .slice p.bufferA p.buffers.length p.bufferC, .slice p.portA p.ports.length p.portC] 32) = W0 at *
 refine (heldSProc_l p.procA p.procs p.procC (k) W0 HC.out.1.nProc HC.out.1.procs q0.1 q0.2 HX.out.2.1.1).mono ?_
 rintro e W1 ⟨rfl, hb⟩
 have HY : Hid (PartBox W1 w.heap.size p ∧ PartD.At W1 (mkPart k p) ∧ Below w.heap.size w W1) := ⟨HX.out.1.below hb, HX.out.2.1.below hb, HX.out.2.2.trans (hb.mono HX.out.2.2.size)⟩
 clear HX hb
 have HX := HY
 clear HY
 have nn0 : ¬ k + (cntL cProc p.procs : Nat) < 0 := by omega
 have m0 : W1.cell? ⟨w.heap.size, 3, none⟩ = some (.slice p.semA p.sems.length p.semC) := by have := HX.out.1; unfold PartBox at this; simp [World.cell?, this]
 go_wp2_with fail
 clear m0
 refine (heldSSem_l p.semA p.sems p.semC (k + (cntL cProc p.procs : Nat)) W1 HC.out.1.nSem q1.1 q1.2 HX.out.2.1.2.1).mono ?_
 rintro e W2 ⟨rfl, hb⟩
 have HY : Hid (PartBox W2 w.heap.size p ∧ PartD.At W2 (mkPart k p) ∧ Below w.heap.size w W2) := ⟨HX.out.1.below hb, HX.out.2.1.below hb, HX.out.2.2.trans (hb.mono HX.out.2.2.size)⟩
 clear HX hb
 have HX := HY
 clear HY
 have nn1 : ¬ k + (cntL cProc p.procs : Nat) + (cntL (fun _ => 3) p.sems : Nat) < 0 := by omega
 have m1 : W2.cell? ⟨w.heap.size, 4, none⟩ = some (.slice p.eventA p.events.length p.eventC) := by have := HX.out.1; unfold PartBox at this; simp [World.cell?, this]
 go_wp2_with fail
 clear m1
 refine (heldSEvent_l p.eventA p.events p.eventC (k + (cntL cProc p.procs : Nat) + (cntL (fun _ => 3) p.sems : Nat)) W2 HC.out.1.nEvent q2.1 q2.2 HX.out.2.1.2.2.1).mono ?_
 rintro e W3 ⟨rfl, hb⟩
 have HY : Hid (PartBox W3 w.heap.size p ∧ PartD.At W3 (mkPart k p) ∧ Below w.heap.size w W3) := ⟨HX.out.1.below hb, HX.out.2.1.below hb, HX.out.2.2.trans (hb.mono HX.out.2.2.size)⟩
 clear HX hb
 have HX := HY
 clear HY
 have nn2 : ¬ k + (cntL cProc p.procs : Nat) + (cntL (fun _ => 3) p.sems : Nat) + (cntL (fun _ => 2) p.events : Nat) < 0 := by omega
 have m2 : W3.cell? ⟨w.heap.size, 5, none⟩ = some (.slice p.boardA p.boards.length p.boardC) := by have := HX.out.1; unfold PartBox at this; simp [World.cell?, this]
 go_wp2_with fail
 clear m2
 refine (heldSBoard_l p.boardA p.boards p.boardC (k + (cntL cProc p.procs : Nat) + (cntL (fun _ => 3) p.sems : Nat) + (cntL (fun _ => 2) p.events : Nat)) W3 HC.out.1.nBoard q3.1 q3.2 HX.out.2.1.2.2.2.1).mono ?_
 rintro e W4 ⟨rfl, hb⟩
 have HY : Hid (PartBox W4 w.heap.size p ∧ PartD.At W4 (mkPart k p) ∧ Below w.heap.size w W4) := ⟨HX.out.1.below hb, HX.out.2.1.below hb, HX.out.2.2.trans (hb.mono HX.out.2.2.size)⟩
 clear HX hb
 have HX := HY
 clear HY
 have nn3 : ¬ k + (cntL cProc p.procs : Nat) + (cntL (fun _ => 3) p.sems : Nat) + (cntL (fun _ => 2) p.events : Nat) + (cntL (fun _ => 3) p.boards : Nat) < 0 := by omega
 have m3 : W4.cell? ⟨w.heap.size, 6, none⟩ = some (.slice p.bufferA p.buffers.length p.bufferC) := by have := HX.out.1; unfold PartBox at this; simp [World.cell?, this]
 go_wp2_with fail
 clear m3
 refine (heldSBuffer_l p.bufferA p.buffers p.bufferC (k + (cntL cProc p.procs : Nat) + (cntL (fun _ => 3) p.sems : Nat) + (cntL (fun _ => 2) p.events : Nat) + (cntL (fun _ => 3) p.boards : Nat)) W4 HC.out.1.nBuffer HC.out.1.buffers q4.1 q4.2 HX.out.2.1.2.2.2.2.1).mono ?_
 rintro e W5 ⟨rfl, hb⟩
 have HY : Hid (PartBox W5 w.heap.size p ∧ PartD.At W5 (mkPart k p) ∧ Below w.heap.size w W5) := ⟨HX.out.1.below hb, HX.out.2.1.below hb, HX.out.2.2.trans (hb.mono HX.out.2.2.size)⟩
 clear HX hb
 have HX := HY
 clear HY
 have nn4 : ¬ k + (cntL cProc p.procs : Nat) + (cntL (fun _ => 3) p.sems : Nat) + (cntL (fun _ => 2) p.events : Nat) + (cntL (fun _ => 3) p.boards : Nat) + (cntL cBuffer p.buffers : Nat) < 0 := by omega
 have m4 : W5.cell? ⟨w.heap.size, 7, none⟩ = some (.slice p.portA p.ports.length p.portC) := by have := HX.out.1; unfold PartBox at this; simp [World.cell?, this]
 go_wp2_with fail
 clear m4
 refine (heldSPort_l p.portA p.ports p.portC (k + (cntL cProc p.procs : Nat) + (cntL (fun _ => 3) p.sems : Nat) + (cntL (fun _ => 2) p.events : Nat) + (cntL (fun _ => 3) p.boards : Nat) + (cntL cBuffer p.buffers : Nat)) W5 HC.out.1.nPort HC.out.1.ports q5.1 q5.2 HX.out.2.1.2.2.2.2.2).mono ?_
 rintro e W6 ⟨rfl, hb⟩
 have HY : Hid (PartBox W6 w.heap.size p ∧ PartD.At W6 (mkPart k p) ∧ Below w.heap.size w W6) := ⟨HX.out.1.below hb, HX.out.2.1.below hb, HX.out.2.2.trans (hb.mono HX.out.2.2.size)⟩
 clear HX hb
 have HX := HY
 clear HY
 have nn5 : ¬ k + (cntL cProc p.procs : Nat) + (cntL (fun _ => 3) p.sems : Nat) + (cntL (fun _ => 2) p.events : Nat) + (cntL (fun _ => 3) p.boards : Nat) + (cntL cBuffer p.buffers : Nat) + (cntL cPort p.ports : Nat) < 0 := by omega
 go_wp2
 go_ret
 exact ⟨ret_int (by unfold cntPart; omega), HX.out.2.2⟩
end Go.Proofs.YtkbcplnlehdjfaaGreat

/- The small functions of the ops' exact laws: an op's measure, and its copy. -/
namespace Go.Proofs.YtkbcplnlehdjfaaGreat
open Go.RowKit
set_option maxHeartbeats 1000000 in
theorem szOp_any (k n m : Int) (s : ByteArray) (left : Int) (w : World) (hl : s.size ≤ maxLen) (h0 : 0 ≤ left) (h1 : left ≤ 1048576) :
  Calls Tryz.prog 125 #[.agg #[.int .i64 k, .int .i64 n, .int .i64 m, .string s], .int .i64 left] w fun e w' => e = .returned (.int .i64 (szOf left s.size)) ∧ Below w.heap.size w w' := by
 unfold maxLen at hl
 by_cases h : left < s.size
 ·have h' : left - (s.size : Int) < 0 := by omega
  go_enter Tryz.func125, Tryz.ntmps125
  go_wp2
  go_ret
  exact ⟨ret_int (szOf_neg h).symm, by go_grown⟩
 ·have h' : ¬ left - (s.size : Int) < 0 := by omega
  go_enter Tryz.func125, Tryz.ntmps125
  go_wp2
  go_ret
  exact ⟨ret_int (szOf_pos (by omega)).symm, by go_grown⟩
set_option maxHeartbeats 1000000 in
theorem toOp_any (k n m : Int) (s : ByteArray) (w : World) :
  Calls Tryz.prog 126 #[.agg #[.int .i64 k, .int .i64 n, .int .i64 m, .string s]] w fun e w' => e = .returned (.agg #[.int .i64 k, .int .i64 n, .int .i64 m, .string s]) ∧ Below w.heap.size w w' := by
 go_enter Tryz.func126, Tryz.ntmps126
 go_wp2
 exact bodyPost_ret (v := .agg #[.int .i64 k, .int .i64 n, .int .i64 m, .string s]) (by simp [results, Tryz.results126, go_sem]) rfl ⟨rfl, by go_grown⟩
set_option maxHeartbeats 1000000 in
theorem eqOp_same (k n m : Int) (s : ByteArray) (w : World) :
  Calls Tryz.prog 127 #[.agg #[.int .i64 k, .int .i64 n, .int .i64 m, .string s], .agg #[.int .i64 k, .int .i64 n, .int .i64 m, .string s]] w fun e w' => e = .returned (.bool true) ∧ Below w.heap.size w w' := by
 go_enter Tryz.func127, Tryz.ntmps127
 go_wp2
 go_ret
 exact ⟨ret_bool (by simp), by go_grown⟩
end Go.Proofs.YtkbcplnlehdjfaaGreat

/- The laws' functions on things of the kind Op: measured, copied, held against each other. (Made by mklw.py.) -/
namespace Go.Proofs.YtkbcplnlehdjfaaGreat
open Go.RowKit
attribute [local go_sem ↓] Go.wp_at_zero Go.wp_at_succ
def OpsShort (l : List OpD) : Prop := l.length ≤ 1048576 ∧ ∀ x ∈ l, x.2.2.2.size ≤ 1048576
set_option maxHeartbeats 2000000 in
theorem szSOp_l (a : Option Addr) (l : List OpD) (cap : Nat) (left : Int) (w : World) (hl : l.length ≤ maxLen) (hc : opK.Came w a l) (hs : ∀ x ∈ l, (x.2.2.2.size ≤ maxLen)) (h0 : 0 ≤ left) (h1 : left ≤ 1048576) :
  Calls Tryz.prog 61 #[.slice a l.length cap, .int .i64 left] w fun e w' => SzEnds w left (l.length) (OpsShort l) e w' := by
 have hl' := hl
 unfold maxLen at hl'
 by_cases hn : left - (l.length : Int) < 0
 ·go_enter Tryz.func61, Tryz.ntmps61
  go_wp2
  go_ret
  exact szEnds_no (Below.refl _ _) h0
 have HC : Hid (opK.Came w a l ∧ ∀ x ∈ l, (x.2.2.2.size ≤ maxLen)) := ⟨hc, hs⟩
 clear hc hs hl
 go_enter Tryz.func61, Tryz.ntmps61
 go_wp2_with fail
 go_loopw [1, 5] (fun q i wr => ∃ (k : Nat) (r : Int), k ≤ l.length ∧ i = .int .i64 k ∧ q = .int .i64 r ∧ 0 ≤ r ∧ r ≤ left - (l.length : Int) ∧ Hid ((∀ x ∈ l.take k, (x.2.2.2.size ≤ 1048576)) ∧ Below w.heap.size w wr)) (fun _ i _ => l.length - (intOf i).toNat)
 case atStart => exact ⟨0, left - (l.length : Int), Nat.zero_le _, rfl, rfl, by omega, by omega, ⟨by simp, Below.refl _ _⟩⟩
 case round =>
  obtain ⟨k, r, hk, rfl, rfl, r0, r1, HA⟩ := hrel
  by_cases hlt : k < l.length
  ·have i0 : (0 : Int) ≤ (k : Int) := by omega
   have i1 : (k : Int) < (l.length : Int) := by omega
   obtain ⟨x, hx⟩ : ∃ x, l[k]? = some x := ⟨_, List.getElem?_eq_getElem hlt⟩
   have hmem := List.mem_of_getElem? hx
   obtain ⟨b, off, rfl, hat⟩ := (HC.out.1.below HA.out.2).at hx
   have c0 : wr.cell? ⟨b, off + k * 4, none⟩ = some (.int .i64 x.1) := hat 0 _ rfl
   have c1 : wr.cell? ⟨b, off + k * 4 + 1, none⟩ = some (.int .i64 x.2.1) := hat 1 _ rfl
   have c2 : wr.cell? ⟨b, off + k * 4 + 2, none⟩ = some (.int .i64 x.2.2.1) := hat 2 _ rfl
   have c3 : wr.cell? ⟨b, off + k * 4 + 3, none⟩ = some (.string x.2.2.2) := hat 3 _ rfl
   have HX : Hid (l[k]? = some x ∧ (x.2.2.2.size ≤ maxLen)) := ⟨hx, HC.out.2 x hmem⟩
   clear hx hmem hat
   go_wp2_with fail
   refine (szOp_any x.1 x.2.1 x.2.2.1 x.2.2.2 r wr HX.out.2 r0 (by omega)).mono ?_
   rintro e w1 ⟨rfl, hb1⟩
   have HB1 : Hid (Below w.heap.size w w1) := HA.out.2.trans (hb1.mono HA.out.2.size)
   clear hb1 c0 c1 c2 c3
   by_cases hsz : r < x.2.2.2.size
   ·rw [szOf_neg hsz]
    go_wp2
    go_ret
    exact szEnds_no HB1.out h0
   rw [szOf_pos (by omega)]
   have hnn : ¬ r - (x.2.2.2.size : Int) < 0 := by omega
   go_wp2
   go_roundw
   case rel => exact ⟨k + 1, r - x.2.2.2.size, by omega, by go_num, rfl, by omega, by omega, ⟨all_up HX.out.1 HA.out.1 (by omega), HB1.out⟩⟩
   case measure => simp [intOf]; omega
  ·have i1 : ¬ (k : Int) < (l.length : Int) := by omega
   go_wp2
   go_ret
   exact ⟨r, rfl, by omega, by omega, fun _ => ⟨(show OpsShort l from ⟨by omega, all_end (by omega) HA.out.1⟩), by omega⟩, HA.out.2⟩
theorem infoOp : (Tryz.prog.info? 134).map (fun i => (i.zero, i.size, decide (i.bytes ≤ 1000))) = some (some (.agg #[.int .i64 0, .int .i64 0, .int .i64 0, .string ⟨#[]⟩]), 4, true) := by kernel_rfl
theorem makeOp (n : Nat) (hn : n ≤ 1048576) (w : World) :
  (Instr.makeSlice 37 (.int .i64 (n : Int)) (.int .i64 (n : Int))).run Tryz.prog w = .ok (.slice (some ⟨w.heap.size, 0, none⟩) n n) (w.alloc (.cells (madeCells #[.int .i64 0, .int .i64 0, .int .i64 0, .string ⟨#[]⟩] (n * 4)) 134)) := by
 obtain ⟨i, hi, e⟩ := Option.map_eq_some_iff.1 infoOp
 simp only [Prod.mk.injEq, decide_eq_true_eq] at e
 obtain ⟨e1, e2, e3⟩ := e
 have hby : n * i.bytes ≤ 1048576 * 1000 := Nat.mul_le_mul hn e3
 have := run_make (P := Tryz.prog) w 37 134 i _ Tryz.underlying37 hi e1 .i64 .i64 n n (by omega) (by omega) (by rw [Nat.mul_comm] at hby; first | omega | (rw [Nat.mul_comm]; omega)) (by omega)
 rw [this, e2]
 simp [Value.cells]
set_option maxRecDepth 100000 in
set_option maxHeartbeats 4000000 in
theorem toSOp_l (a : Option Addr) (l : List OpD) (cap : Nat) (w : World) (hl : l.length ≤ 1048576) (hc : opK.Came w a l) :
  Calls Tryz.prog 62 #[.slice a l.length cap] w fun e w' => e = .returned (.slice (some ⟨w.heap.size, 0, none⟩) l.length l.length) ∧ w'.ownsRow w.heap.size 134 4 (.slice (some ⟨w.heap.size, 0, none⟩) l.length l.length) l.length (opK.flat l) ∧ Below w.heap.size w w' := by
 have hmk := makeOp l.length hl
 have HC : Hid (opK.Came w a l) := hc
 have HF : Hid (Fill opK 134 w (w.alloc (.cells (madeCells #[.int .i64 0, .int .i64 0, .int .i64 0, .string ⟨#[]⟩] (l.length * 4)) 134)) l.length []) := Fill.start (by rw [size_madeCells]; rfl)
 clear hc
 go_enter Tryz.func62, Tryz.ntmps62
 go_wp2_with fail
 go_loopw [4] (fun i wr => ∃ k : Nat, k ≤ l.length ∧ i = .int .i64 k ∧ Hid (Fill opK 134 w wr l.length (l.take k))) (fun i _ => l.length - (intOf i).toNat)
 case atStart => exact ⟨0, Nat.zero_le _, rfl, HF.out⟩
 case round =>
  clear hmk HF
  obtain ⟨k, hk, rfl, HR⟩ := hrel
  by_cases hlt : k < l.length
  ·have i0 : (0 : Int) ≤ (k : Int) := by omega
   have i1 : (k : Int) < (l.length : Int) := by omega
   obtain ⟨x, hx⟩ : ∃ x, l[k]? = some x := ⟨_, List.getElem?_eq_getElem hlt⟩
   obtain ⟨b, off, rfl, hat⟩ := (HC.out.below HR.out.bel).at hx
   have c0 : wr.cell? ⟨b, off + k * 4, none⟩ = some (.int .i64 x.1) := hat 0 _ rfl
   have c1 : wr.cell? ⟨b, off + k * 4 + 1, none⟩ = some (.int .i64 x.2.1) := hat 1 _ rfl
   have c2 : wr.cell? ⟨b, off + k * 4 + 2, none⟩ = some (.int .i64 x.2.2.1) := hat 2 _ rfl
   have c3 : wr.cell? ⟨b, off + k * 4 + 3, none⟩ = some (.string x.2.2.2) := hat 3 _ rfl
   have HX : Hid (l[k]? = some x) := hx
   have hfl := HR.out.lt
   clear hx hat
   go_wp2_with fail
   refine (toOp_any x.1 x.2.1 x.2.2.1 x.2.2.2 wr).mono ?_
   rintro e w1 ⟨rfl, hb1⟩
   have HR1 : Hid (Fill opK 134 w w1 l.length (l.take k)) := HR.out.below hb1
   obtain ⟨⟨u, hu⟩, hf⟩ := HR1.out.at
   have d0 := hu (k * 4) (by show k * 4 < l.length * 4; omega)
   have f0 := hf (k * 4)
   have d1 := hu (k * 4 + 1) (by show k * 4 + 1 < l.length * 4; omega)
   have f1 := hf (k * 4 + 1)
   have d2 := hu (k * 4 + 2) (by show k * 4 + 2 < l.length * 4; omega)
   have f2 := hf (k * 4 + 2)
   have d3 := hu (k * 4 + 3) (by show k * 4 + 3 < l.length * 4; omega)
   have f3 := hf (k * 4 + 3)
   have HS : Hid (Fill opK 134 w ((((w1.setCell ⟨w.heap.size, k * 4, none⟩ (.int .i64 x.1)).setCell ⟨w.heap.size, k * 4 + 1, none⟩ (.int .i64 x.2.1)).setCell ⟨w.heap.size, k * 4 + 2, none⟩ (.int .i64 x.2.2.1)).setCell ⟨w.heap.size, k * 4 + 3, none⟩ (.string x.2.2.2)) l.length (l.take (k + 1))) := by
    have h5 := HR1.out.more (by rw [List.length_take]; omega) x
    rw [← take_up HX.out, List.length_take, Nat.min_eq_left hk, show opK.vals x = [.int .i64 x.1, .int .i64 x.2.1, .int .i64 x.2.2.1, .string x.2.2.2] from rfl, show opK.n = 4 from rfl] at h5
    simp only [setAllW, Nat.add_assoc, Nat.reduceAdd] at h5
    exact h5
   clear hu hf hb1 HR HR1 c0 c1 c2 c3
   go_wp2
   go_roundw
   case rel => exact ⟨k + 1, by omega, by go_num, HS.out⟩
   case measure => simp [intOf]; omega
  ·have i1 : ¬ (k : Int) < (l.length : Int) := by omega
   have ek : k = l.length := by omega
   subst ek
   go_wp2
   go_ret
   have h6 := HR.out.done (by rw [List.length_take]; omega) (by unfold maxLen; omega)
   rw [List.take_length] at h6
   exact ⟨rfl, h6, HR.out.bel⟩
def EqSOp (w : World) (a a' : Option Addr) (l : List OpD) (x : OpD) (g g' k : Nat) (w' : World) : Prop := ((w'.cell? ⟨g, k * 4, none⟩ = some (.int .i64 x.1) ∧ w'.cell? ⟨g, k * 4 + 1, none⟩ = some (.int .i64 x.2.1) ∧ w'.cell? ⟨g, k * 4 + 2, none⟩ = some (.int .i64 x.2.2.1) ∧ w'.cell? ⟨g, k * 4 + 3, none⟩ = some (.string x.2.2.2)) ∧ (w'.cell? ⟨g', k * 4, none⟩ = some (.int .i64 x.1) ∧ w'.cell? ⟨g', k * 4 + 1, none⟩ = some (.int .i64 x.2.1) ∧ w'.cell? ⟨g', k * 4 + 2, none⟩ = some (.int .i64 x.2.2.1) ∧ w'.cell? ⟨g', k * 4 + 3, none⟩ = some (.string x.2.2.2))) ∧ Hid (opK.Lies w' a l ∧ opK.Lies w' a' l ∧ Below w.heap.size w w')
theorem eqSOp_of {w w' : World} {a a' : Option Addr} {l : List OpD} {x : OpD} {g g' k : Nat} (ha : a = some ⟨g, 0, none⟩) (ha' : a' = some ⟨g', 0, none⟩) (hx : l[k]? = some x) (h : opK.Lies w' a l ∧ opK.Lies w' a' l ∧ Below w.heap.size w w') : EqSOp w a a' l x g g' k w' := by
 obtain ⟨g1, e1, h1⟩ := h.1.at hx
 obtain ⟨g2, e2, h2⟩ := h.2.1.at hx
 rw [ha] at e1
 rw [ha'] at e2
 cases e1
 cases e2
 exact ⟨⟨⟨h1 0 _ rfl, h1 1 _ rfl, h1 2 _ rfl, h1 3 _ rfl⟩, ⟨h2 0 _ rfl, h2 1 _ rfl, h2 2 _ rfl, h2 3 _ rfl⟩⟩, h⟩
set_option maxRecDepth 100000 in
set_option maxHeartbeats 4000000 in
theorem eqSOp_l (a a' : Option Addr) (l : List OpD) (cap cap' : Nat) (w : World) (hl : l.length ≤ 1048576) (h : opK.Lies w a l) (h' : opK.Lies w a' l) :
  Calls Tryz.prog 63 #[.slice a l.length cap, .slice a' l.length cap'] w fun e w' => e = .returned (.bool true) ∧ Below w.heap.size w w' := by
 have HL : Hid (opK.Lies w a l ∧ opK.Lies w a' l) := ⟨h, h'⟩
 clear h h'
 go_enter Tryz.func63, Tryz.ntmps63
 go_wp2_with fail
 go_loopw [5] (fun i wr => ∃ k : Nat, k ≤ l.length ∧ i = .int .i64 k ∧ Hid (Below w.heap.size w wr)) (fun i _ => l.length - (intOf i).toNat)
 case atStart => exact ⟨0, Nat.zero_le _, rfl, Below.refl _ _⟩
 case round =>
  obtain ⟨k, hk, rfl, HB⟩ := hrel
  by_cases hlt : k < l.length
  ·have i0 : (0 : Int) ≤ (k : Int) := by omega
   have i1 : (k : Int) < (l.length : Int) := by omega
   obtain ⟨x, hx⟩ : ∃ x, l[k]? = some x := ⟨_, List.getElem?_eq_getElem hlt⟩
   obtain ⟨g, ha, -⟩ := HL.out.1.at hx
   obtain ⟨g', ha', -⟩ := HL.out.2.at hx
   have HX : Hid (a = some ⟨g, 0, none⟩ ∧ a' = some ⟨g', 0, none⟩ ∧ l[k]? = some x) := ⟨ha, ha', hx⟩
   have HS : Hid (EqSOp w a a' l x g g' k wr) := eqSOp_of ha ha' hx ⟨HL.out.1.below HB.out, HL.out.2.below HB.out, HB.out⟩
   clear hx
   rw [ha, ha']
   clear ha ha'
   go_wp2_with fail
   refine tame_region (EqSOp w a a' l x g g' k) (by kernel_rfl) (eqSOp_of HX.out.1 HX.out.2.1 HX.out.2.2 ⟨HS.out.2.out.1.below (Below.refl _ _).drew, HS.out.2.out.2.1.below (Below.refl _ _).drew, HS.out.2.out.2.2.drew⟩) ?_
   iterate 8 (refine yl (v := ?_) ?_ ?_; rotate_left; (intro w0 hS0; obtain ⟨⟨⟨q0, q1, q2, q3⟩, ⟨r0, r1, r2, r3⟩⟩, hH⟩ := hS0; go_simp; try with_reducible rfl); simp only [pt, sb, s0, s1])
   refine cl (.bool true) 127 #[.agg #[.int .i64 x.1, .int .i64 x.2.1, .int .i64 x.2.2.1, .string x.2.2.2], .agg #[.int .i64 x.1, .int .i64 x.2.1, .int .i64 x.2.2.1, .string x.2.2.2]] ?_ ?_ ?_
   ·intro w0 hS0
    obtain ⟨⟨⟨q0, q1, q2, q3⟩, ⟨r0, r1, r2, r3⟩⟩, hH⟩ := hS0
    go_simp
    try with_reducible rfl
   ·intro w0 hS0
    refine (eqOp_same x.1 x.2.1 x.2.2.1 x.2.2.2 w0).mono ?_
    rintro e w2 ⟨rfl, hb2⟩
    exact ⟨rfl, eqSOp_of HX.out.1 HX.out.2.1 HX.out.2.2 ⟨hS0.2.out.1.below hb2, hS0.2.out.2.1.below hb2, hS0.2.out.2.2.trans (hb2.mono hS0.2.out.2.2.size)⟩⟩
   simp only [pt, sb, s0, s1]
   (refine yl (v := ?_) ?_ ?_; rotate_left; (intro w0 hS0; obtain ⟨⟨⟨q0, q1, q2, q3⟩, ⟨r0, r1, r2, r3⟩⟩, hH⟩ := hS0; go_simp; try with_reducible rfl); simp only [pt, sb, s0, s1])
   refine tame_done (by kernel_rfl) ?_ _
   intro w1 hS1
   have HZ : Hid (Below w.heap.size w w1) := hS1.2.out.2.2
   clear hS1
   go_wp2
   go_roundw
   case rel => exact ⟨k + 1, by omega, by go_num, HZ.out⟩
   case measure => simp [intOf]; omega
  ·have i1 : ¬ (k : Int) < (l.length : Int) := by omega
   go_wp2
   go_ret
   exact ⟨rfl, HB.out⟩
end Go.Proofs.YtkbcplnlehdjfaaGreat
