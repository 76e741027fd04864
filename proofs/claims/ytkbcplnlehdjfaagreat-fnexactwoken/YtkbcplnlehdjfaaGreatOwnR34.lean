/- What the proof leans on, part 34: MkPart. -/
import Derived.Test.YtkbcplnlehdjfaaGreatOwnR23
import Derived.Test.YtkbcplnlehdjfaaGreatOwnR27
import Derived.Test.YtkbcplnlehdjfaaGreatOwnR28
import Derived.Test.YtkbcplnlehdjfaaGreatOwnR29
import Derived.Test.YtkbcplnlehdjfaaGreatOwnR30
import Derived.Test.YtkbcplnlehdjfaaGreatOwnR32

namespace Go.Proofs.YtkbcplnlehdjfaaGreat
open Go.RowKit
attribute [local go_sem ↓] Go.wp_at_zero Go.wp_at_succ
theorem markL_kid {α : Type} {N : Nest α} {f : Int → α → α} {c : α → Nat} (h : ∀ k x, N.kid (f k x) = N.kid x) : ∀ (k : Int) (l : List α), (markL f c k l).filterMap N.kid = l.filterMap N.kid
 | _, [] => rfl
 | k, x :: r => by simp only [markL, List.filterMap_cons, h, markL_kid h (k + c x) r]
/-- The list of the kind Proc is turned. -/
theorem PartOwn.turnProc {w w' : World} {base : Nat} {q : PartD} {l : List ProcD} (h : PartOwn w base q) (ho : w'.ownsRow base 43 12 (.slice q.procA q.procs.length q.procC) q.procs.length (procK.flat l)) (hl : l.length = q.procs.length) (hm : ∀ y ∈ l, procN.Mine w' base y) (hki : l.filterMap procN.kid = q.procs.filterMap procN.kid) (hk : KeptBut w w' (blk q.procA ++ q.procs.filterMap procN.kid)) :
  PartOwn w' base ({ q with procs := l } : PartD) ∧ ({ q with procs := l } : PartD).blocks = q.blocks := by
 have hbs : q.blocks = [] ++ ((blk q.procA ++ q.procs.filterMap procN.kid) ++ (blk q.semA ++ (blk q.eventA ++ (blk q.boardA ++ (blk q.bufferA ++ (q.buffers.filterMap bufferN.kid ++ (blk q.portA ++ (q.ports.filterMap portN.kid)))))))) := by simp [PartD.blocks, List.append_assoc]
 have hbn : ({ q with procs := l } : PartD).blocks = q.blocks := by simp only [PartD.blocks, hki]
 have hnd := h.nodup
 rw [hbs] at hnd
 have hdis : ∀ g, (g ∈ [] ∨ g ∈ (blk q.semA ++ (blk q.eventA ++ (blk q.boardA ++ (blk q.bufferA ++ (q.buffers.filterMap bufferN.kid ++ (blk q.portA ++ (q.ports.filterMap portN.kid)))))))) → g ∉ (blk q.procA ++ q.procs.filterMap procN.kid) := fun g hgm hA => by
  obtain ⟨-, h2, h3⟩ := List.nodup_append.1 hnd
  obtain ⟨-, -, h4⟩ := List.nodup_append.1 h2
  rcases hgm with hgm | hgm
  ·exact h3 g hgm g (List.mem_append_left _ hA) rfl
  ·exact h4 g hA g hgm rfl
 have hs : ∀ g, (g ∈ [] ∨ g ∈ (blk q.semA ++ (blk q.eventA ++ (blk q.boardA ++ (blk q.bufferA ++ (q.buffers.filterMap bufferN.kid ++ (blk q.portA ++ (q.ports.filterMap portN.kid)))))))) → w'.heap[g]? = w.heap[g]? := fun g hgm => hk.same g (h.lt g (by
  rw [hbs]
  rcases hgm with hgm | hgm
  ·exact List.mem_append_left _ hgm
  ·exact List.mem_append_right _ (List.mem_append_right _ hgm))).2 (hdis g hgm)
 refine ⟨⟨(by rw [hl]; exact ho), own_same h.sems fun g hgm => hs g (.inr (by simp [hgm])), own_same h.events fun g hgm => hs g (.inr (by simp [hgm])), own_same h.boards fun g hgm => hs g (.inr (by simp [hgm])), own_same h.buffers fun g hgm => hs g (.inr (by simp [hgm])), own_same h.ports fun g hgm => hs g (.inr (by simp [hgm])), hm, fun y hy => (h.mineF y hy).same fun g hk => hs g (.inr (by simp only [List.mem_append, List.mem_filterMap]; simp [exists_kid hy hk])), fun y hy => (h.mineQ y hy).same fun g hk => hs g (.inr (by simp only [List.mem_append, List.mem_filterMap]; simp [exists_kid hy hk])), ?_⟩, hbn⟩
 rw [hbn]
 exact h.nodup
/-- The list of the kind Sem is turned. -/
theorem PartOwn.turnSem {w w' : World} {base : Nat} {q : PartD} {l : List SemD} (h : PartOwn w base q) (ho : w'.ownsRow base 49 3 (.slice q.semA q.sems.length q.semC) q.sems.length (semK.flat l)) (hl : l.length = q.sems.length) (hk : KeptBut w w' (blk q.semA)) :
  PartOwn w' base ({ q with sems := l } : PartD) ∧ ({ q with sems := l } : PartD).blocks = q.blocks := by
 have hbs : q.blocks = (blk q.procA ++ q.procs.filterMap procN.kid) ++ ((blk q.semA) ++ (blk q.eventA ++ (blk q.boardA ++ (blk q.bufferA ++ (q.buffers.filterMap bufferN.kid ++ (blk q.portA ++ (q.ports.filterMap portN.kid))))))) := by simp [PartD.blocks, List.append_assoc]
 have hbn : ({ q with sems := l } : PartD).blocks = q.blocks := by rfl
 have hnd := h.nodup
 rw [hbs] at hnd
 have hdis : ∀ g, (g ∈ (blk q.procA ++ q.procs.filterMap procN.kid) ∨ g ∈ (blk q.eventA ++ (blk q.boardA ++ (blk q.bufferA ++ (q.buffers.filterMap bufferN.kid ++ (blk q.portA ++ (q.ports.filterMap portN.kid))))))) → g ∉ (blk q.semA) := fun g hgm hA => by
  obtain ⟨-, h2, h3⟩ := List.nodup_append.1 hnd
  obtain ⟨-, -, h4⟩ := List.nodup_append.1 h2
  rcases hgm with hgm | hgm
  ·exact h3 g hgm g (List.mem_append_left _ hA) rfl
  ·exact h4 g hA g hgm rfl
 have hs : ∀ g, (g ∈ (blk q.procA ++ q.procs.filterMap procN.kid) ∨ g ∈ (blk q.eventA ++ (blk q.boardA ++ (blk q.bufferA ++ (q.buffers.filterMap bufferN.kid ++ (blk q.portA ++ (q.ports.filterMap portN.kid))))))) → w'.heap[g]? = w.heap[g]? := fun g hgm => hk.same g (h.lt g (by
  rw [hbs]
  rcases hgm with hgm | hgm
  ·exact List.mem_append_left _ hgm
  ·exact List.mem_append_right _ (List.mem_append_right _ hgm))).2 (hdis g hgm)
 refine ⟨⟨own_same h.procs fun g hgm => hs g (.inl (by simp [hgm])), (by rw [hl]; exact ho), own_same h.events fun g hgm => hs g (.inr (by simp [hgm])), own_same h.boards fun g hgm => hs g (.inr (by simp [hgm])), own_same h.buffers fun g hgm => hs g (.inr (by simp [hgm])), own_same h.ports fun g hgm => hs g (.inr (by simp [hgm])), fun y hy => (h.mineP y hy).same fun g hk => hs g (.inl (by simp only [List.mem_append, List.mem_filterMap]; simp [exists_kid hy hk])), fun y hy => (h.mineF y hy).same fun g hk => hs g (.inr (by simp only [List.mem_append, List.mem_filterMap]; simp [exists_kid hy hk])), fun y hy => (h.mineQ y hy).same fun g hk => hs g (.inr (by simp only [List.mem_append, List.mem_filterMap]; simp [exists_kid hy hk])), ?_⟩, hbn⟩
 rw [hbn]
 exact h.nodup
/-- The list of the kind Event is turned. -/
theorem PartOwn.turnEvent {w w' : World} {base : Nat} {q : PartD} {l : List EventD} (h : PartOwn w base q) (ho : w'.ownsRow base 138 2 (.slice q.eventA q.events.length q.eventC) q.events.length (eventK.flat l)) (hl : l.length = q.events.length) (hk : KeptBut w w' (blk q.eventA)) :
  PartOwn w' base ({ q with events := l } : PartD) ∧ ({ q with events := l } : PartD).blocks = q.blocks := by
 have hbs : q.blocks = (blk q.procA ++ q.procs.filterMap procN.kid ++ blk q.semA) ++ ((blk q.eventA) ++ (blk q.boardA ++ (blk q.bufferA ++ (q.buffers.filterMap bufferN.kid ++ (blk q.portA ++ (q.ports.filterMap portN.kid)))))) := by simp [PartD.blocks, List.append_assoc]
 have hbn : ({ q with events := l } : PartD).blocks = q.blocks := by rfl
 have hnd := h.nodup
 rw [hbs] at hnd
 have hdis : ∀ g, (g ∈ (blk q.procA ++ q.procs.filterMap procN.kid ++ blk q.semA) ∨ g ∈ (blk q.boardA ++ (blk q.bufferA ++ (q.buffers.filterMap bufferN.kid ++ (blk q.portA ++ (q.ports.filterMap portN.kid)))))) → g ∉ (blk q.eventA) := fun g hgm hA => by
  obtain ⟨-, h2, h3⟩ := List.nodup_append.1 hnd
  obtain ⟨-, -, h4⟩ := List.nodup_append.1 h2
  rcases hgm with hgm | hgm
  ·exact h3 g hgm g (List.mem_append_left _ hA) rfl
  ·exact h4 g hA g hgm rfl
 have hs : ∀ g, (g ∈ (blk q.procA ++ q.procs.filterMap procN.kid ++ blk q.semA) ∨ g ∈ (blk q.boardA ++ (blk q.bufferA ++ (q.buffers.filterMap bufferN.kid ++ (blk q.portA ++ (q.ports.filterMap portN.kid)))))) → w'.heap[g]? = w.heap[g]? := fun g hgm => hk.same g (h.lt g (by
  rw [hbs]
  rcases hgm with hgm | hgm
  ·exact List.mem_append_left _ hgm
  ·exact List.mem_append_right _ (List.mem_append_right _ hgm))).2 (hdis g hgm)
 refine ⟨⟨own_same h.procs fun g hgm => hs g (.inl (by simp [hgm])), own_same h.sems fun g hgm => hs g (.inl (by simp [hgm])), (by rw [hl]; exact ho), own_same h.boards fun g hgm => hs g (.inr (by simp [hgm])), own_same h.buffers fun g hgm => hs g (.inr (by simp [hgm])), own_same h.ports fun g hgm => hs g (.inr (by simp [hgm])), fun y hy => (h.mineP y hy).same fun g hk => hs g (.inl (by simp only [List.mem_append, List.mem_filterMap]; simp [exists_kid hy hk])), fun y hy => (h.mineF y hy).same fun g hk => hs g (.inr (by simp only [List.mem_append, List.mem_filterMap]; simp [exists_kid hy hk])), fun y hy => (h.mineQ y hy).same fun g hk => hs g (.inr (by simp only [List.mem_append, List.mem_filterMap]; simp [exists_kid hy hk])), ?_⟩, hbn⟩
 rw [hbn]
 exact h.nodup
/-- The list of the kind Board is turned. -/
theorem PartOwn.turnBoard {w w' : World} {base : Nat} {q : PartD} {l : List BoardD} (h : PartOwn w base q) (ho : w'.ownsRow base 141 3 (.slice q.boardA q.boards.length q.boardC) q.boards.length (boardK.flat l)) (hl : l.length = q.boards.length) (hk : KeptBut w w' (blk q.boardA)) :
  PartOwn w' base ({ q with boards := l } : PartD) ∧ ({ q with boards := l } : PartD).blocks = q.blocks := by
 have hbs : q.blocks = (blk q.procA ++ q.procs.filterMap procN.kid ++ blk q.semA ++ blk q.eventA) ++ ((blk q.boardA) ++ (blk q.bufferA ++ (q.buffers.filterMap bufferN.kid ++ (blk q.portA ++ (q.ports.filterMap portN.kid))))) := by simp [PartD.blocks, List.append_assoc]
 have hbn : ({ q with boards := l } : PartD).blocks = q.blocks := by rfl
 have hnd := h.nodup
 rw [hbs] at hnd
 have hdis : ∀ g, (g ∈ (blk q.procA ++ q.procs.filterMap procN.kid ++ blk q.semA ++ blk q.eventA) ∨ g ∈ (blk q.bufferA ++ (q.buffers.filterMap bufferN.kid ++ (blk q.portA ++ (q.ports.filterMap portN.kid))))) → g ∉ (blk q.boardA) := fun g hgm hA => by
  obtain ⟨-, h2, h3⟩ := List.nodup_append.1 hnd
  obtain ⟨-, -, h4⟩ := List.nodup_append.1 h2
  rcases hgm with hgm | hgm
  ·exact h3 g hgm g (List.mem_append_left _ hA) rfl
  ·exact h4 g hA g hgm rfl
 have hs : ∀ g, (g ∈ (blk q.procA ++ q.procs.filterMap procN.kid ++ blk q.semA ++ blk q.eventA) ∨ g ∈ (blk q.bufferA ++ (q.buffers.filterMap bufferN.kid ++ (blk q.portA ++ (q.ports.filterMap portN.kid))))) → w'.heap[g]? = w.heap[g]? := fun g hgm => hk.same g (h.lt g (by
  rw [hbs]
  rcases hgm with hgm | hgm
  ·exact List.mem_append_left _ hgm
  ·exact List.mem_append_right _ (List.mem_append_right _ hgm))).2 (hdis g hgm)
 refine ⟨⟨own_same h.procs fun g hgm => hs g (.inl (by simp [hgm])), own_same h.sems fun g hgm => hs g (.inl (by simp [hgm])), own_same h.events fun g hgm => hs g (.inl (by simp [hgm])), (by rw [hl]; exact ho), own_same h.buffers fun g hgm => hs g (.inr (by simp [hgm])), own_same h.ports fun g hgm => hs g (.inr (by simp [hgm])), fun y hy => (h.mineP y hy).same fun g hk => hs g (.inl (by simp only [List.mem_append, List.mem_filterMap]; simp [exists_kid hy hk])), fun y hy => (h.mineF y hy).same fun g hk => hs g (.inr (by simp only [List.mem_append, List.mem_filterMap]; simp [exists_kid hy hk])), fun y hy => (h.mineQ y hy).same fun g hk => hs g (.inr (by simp only [List.mem_append, List.mem_filterMap]; simp [exists_kid hy hk])), ?_⟩, hbn⟩
 rw [hbn]
 exact h.nodup
/-- The list of the kind Buffer is turned. -/
theorem PartOwn.turnBuffer {w w' : World} {base : Nat} {q : PartD} {l : List BufferD} (h : PartOwn w base q) (ho : w'.ownsRow base 144 3 (.slice q.bufferA q.buffers.length q.bufferC) q.buffers.length (bufferK.flat l)) (hl : l.length = q.buffers.length) (hm : ∀ y ∈ l, bufferN.Mine w' base y) (hki : l.filterMap bufferN.kid = q.buffers.filterMap bufferN.kid) (hk : KeptBut w w' (blk q.bufferA ++ q.buffers.filterMap bufferN.kid)) :
  PartOwn w' base ({ q with buffers := l } : PartD) ∧ ({ q with buffers := l } : PartD).blocks = q.blocks := by
 have hbs : q.blocks = (blk q.procA ++ q.procs.filterMap procN.kid ++ blk q.semA ++ blk q.eventA ++ blk q.boardA) ++ ((blk q.bufferA ++ q.buffers.filterMap bufferN.kid) ++ (blk q.portA ++ (q.ports.filterMap portN.kid))) := by simp [PartD.blocks, List.append_assoc]
 have hbn : ({ q with buffers := l } : PartD).blocks = q.blocks := by simp only [PartD.blocks, hki]
 have hnd := h.nodup
 rw [hbs] at hnd
 have hdis : ∀ g, (g ∈ (blk q.procA ++ q.procs.filterMap procN.kid ++ blk q.semA ++ blk q.eventA ++ blk q.boardA) ∨ g ∈ (blk q.portA ++ (q.ports.filterMap portN.kid))) → g ∉ (blk q.bufferA ++ q.buffers.filterMap bufferN.kid) := fun g hgm hA => by
  obtain ⟨-, h2, h3⟩ := List.nodup_append.1 hnd
  obtain ⟨-, -, h4⟩ := List.nodup_append.1 h2
  rcases hgm with hgm | hgm
  ·exact h3 g hgm g (List.mem_append_left _ hA) rfl
  ·exact h4 g hA g hgm rfl
 have hs : ∀ g, (g ∈ (blk q.procA ++ q.procs.filterMap procN.kid ++ blk q.semA ++ blk q.eventA ++ blk q.boardA) ∨ g ∈ (blk q.portA ++ (q.ports.filterMap portN.kid))) → w'.heap[g]? = w.heap[g]? := fun g hgm => hk.same g (h.lt g (by
  rw [hbs]
  rcases hgm with hgm | hgm
  ·exact List.mem_append_left _ hgm
  ·exact List.mem_append_right _ (List.mem_append_right _ hgm))).2 (hdis g hgm)
 refine ⟨⟨own_same h.procs fun g hgm => hs g (.inl (by simp [hgm])), own_same h.sems fun g hgm => hs g (.inl (by simp [hgm])), own_same h.events fun g hgm => hs g (.inl (by simp [hgm])), own_same h.boards fun g hgm => hs g (.inl (by simp [hgm])), (by rw [hl]; exact ho), own_same h.ports fun g hgm => hs g (.inr (by simp [hgm])), fun y hy => (h.mineP y hy).same fun g hk => hs g (.inl (by simp only [List.mem_append, List.mem_filterMap]; simp [exists_kid hy hk])), hm, fun y hy => (h.mineQ y hy).same fun g hk => hs g (.inr (by simp only [List.mem_append, List.mem_filterMap]; simp [exists_kid hy hk])), ?_⟩, hbn⟩
 rw [hbn]
 exact h.nodup
/-- The list of the kind Port is turned. -/
theorem PartOwn.turnPort {w w' : World} {base : Nat} {q : PartD} {l : List PortD} (h : PartOwn w base q) (ho : w'.ownsRow base 61 5 (.slice q.portA q.ports.length q.portC) q.ports.length (portK.flat l)) (hl : l.length = q.ports.length) (hm : ∀ y ∈ l, portN.Mine w' base y) (hki : l.filterMap portN.kid = q.ports.filterMap portN.kid) (hk : KeptBut w w' (blk q.portA ++ q.ports.filterMap portN.kid)) :
  PartOwn w' base ({ q with ports := l } : PartD) ∧ ({ q with ports := l } : PartD).blocks = q.blocks := by
 have hbs : q.blocks = (blk q.procA ++ q.procs.filterMap procN.kid ++ blk q.semA ++ blk q.eventA ++ blk q.boardA ++ blk q.bufferA ++ q.buffers.filterMap bufferN.kid) ++ ((blk q.portA ++ q.ports.filterMap portN.kid) ++ []) := by simp [PartD.blocks, List.append_assoc]
 have hbn : ({ q with ports := l } : PartD).blocks = q.blocks := by simp only [PartD.blocks, hki]
 have hnd := h.nodup
 rw [hbs] at hnd
 have hdis : ∀ g, (g ∈ (blk q.procA ++ q.procs.filterMap procN.kid ++ blk q.semA ++ blk q.eventA ++ blk q.boardA ++ blk q.bufferA ++ q.buffers.filterMap bufferN.kid) ∨ g ∈ []) → g ∉ (blk q.portA ++ q.ports.filterMap portN.kid) := fun g hgm hA => by
  obtain ⟨-, h2, h3⟩ := List.nodup_append.1 hnd
  obtain ⟨-, -, h4⟩ := List.nodup_append.1 h2
  rcases hgm with hgm | hgm
  ·exact h3 g hgm g (List.mem_append_left _ hA) rfl
  ·exact h4 g hA g hgm rfl
 have hs : ∀ g, (g ∈ (blk q.procA ++ q.procs.filterMap procN.kid ++ blk q.semA ++ blk q.eventA ++ blk q.boardA ++ blk q.bufferA ++ q.buffers.filterMap bufferN.kid) ∨ g ∈ []) → w'.heap[g]? = w.heap[g]? := fun g hgm => hk.same g (h.lt g (by
  rw [hbs]
  rcases hgm with hgm | hgm
  ·exact List.mem_append_left _ hgm
  ·exact List.mem_append_right _ (List.mem_append_right _ hgm))).2 (hdis g hgm)
 refine ⟨⟨own_same h.procs fun g hgm => hs g (.inl (by simp [hgm])), own_same h.sems fun g hgm => hs g (.inl (by simp [hgm])), own_same h.events fun g hgm => hs g (.inl (by simp [hgm])), own_same h.boards fun g hgm => hs g (.inl (by simp [hgm])), own_same h.buffers fun g hgm => hs g (.inl (by simp [hgm])), (by rw [hl]; exact ho), fun y hy => (h.mineP y hy).same fun g hk => hs g (.inl (by simp only [List.mem_append, List.mem_filterMap]; simp [exists_kid hy hk])), fun y hy => (h.mineF y hy).same fun g hk => hs g (.inl (by simp only [List.mem_append, List.mem_filterMap]; simp [exists_kid hy hk])), hm, ?_⟩, hbn⟩
 rw [hbn]
 exact h.nodup
/-- How many marks a partition takes. -/
def cntPart (p : PartD) : Nat := cntL cProc p.procs + cntL (fun _ => 3) p.sems + cntL (fun _ => 2) p.events + cntL (fun _ => 3) p.boards + cntL cBuffer p.buffers + cntL cPort p.ports
def mkPart (k : Int) (p : PartD) : PartD := { p with procs := markL mkProc cProc (k) p.procs, sems := markL mkSem (fun _ => 3) (k + (cntL cProc p.procs : Nat)) p.sems, events := markL mkEvent (fun _ => 2) (k + (cntL cProc p.procs : Nat) + (cntL (fun _ => 3) p.sems : Nat)) p.events, boards := markL mkBoard (fun _ => 3) (k + (cntL cProc p.procs : Nat) + (cntL (fun _ => 3) p.sems : Nat) + (cntL (fun _ => 2) p.events : Nat)) p.boards, buffers := markL mkBuffer cBuffer (k + (cntL cProc p.procs : Nat) + (cntL (fun _ => 3) p.sems : Nat) + (cntL (fun _ => 2) p.events : Nat) + (cntL (fun _ => 3) p.boards : Nat)) p.buffers, ports := markL mkPort cPort (k + (cntL cProc p.procs : Nat) + (cntL (fun _ => 3) p.sems : Nat) + (cntL (fun _ => 2) p.events : Nat) + (cntL (fun _ => 3) p.boards : Nat) + (cntL cBuffer p.buffers : Nat)) p.ports }
/-- The lengths are such that a machine can count them. -/
structure PartD.Cnt (p : PartD) : Prop where
 nProc : p.procs.length ≤ 1048576
 nSem : p.sems.length ≤ 1048576
 nEvent : p.events.length ≤ 1048576
 nBoard : p.boards.length ≤ 1048576
 nBuffer : p.buffers.length ≤ 1048576
 nPort : p.ports.length ≤ 1048576
 procs : ∀ x ∈ p.procs, x.prog.length ≤ 1048576
 buffers : ∀ x ∈ p.buffers, x.items.length ≤ 1048576
 ports : ∀ x ∈ p.ports, x.items.length ≤ 1048576
set_option maxRecDepth 100000 in
set_option maxHeartbeats 4000000 in
theorem markPart_l (p : PartD) (k : Int) (w : World) (base : Nat) (hc : p.Cnt) (h0 : 1 ≤ k) (h1 : k + (cntPart p : Nat) ≤ 90000000) (ho : PartOwn w base p) :
  Calls Tryz.prog 64 #[.agg p.cells, .int .i64 k] w fun e w' => e = .returned (.int .i64 (k + (cntPart p : Nat))) ∧ PartOwn w' base (mkPart k p) ∧ KeptBut w w' p.blocks := by
 have HC : Hid (p.Cnt ∧ k + (cntPart p : Nat) ≤ 90000000) := ⟨hc, h1⟩
 have HX : Hid (PartBox (w.alloc (.cells #[.int .i64 p.id, .int .i64 p.next, .slice p.procA p.procs.length p.procC, .slice p.semA p.sems.length p.semC, .slice p.eventA p.events.length p.eventC, .slice p.boardA p.boards.length p.boardC, .slice p.bufferA p.buffers.length p.bufferC, .slice p.portA p.ports.length p.portC] 32)) w.heap.size p ∧ PartOwn (w.alloc (.cells #[.int .i64 p.id, .int .i64 p.next, .slice p.procA p.procs.length p.procC, .slice p.semA p.sems.length p.semC, .slice p.eventA p.events.length p.eventC, .slice p.boardA p.boards.length p.boardC, .slice p.bufferA p.buffers.length p.bufferC, .slice p.portA p.ports.length p.portC] 32)) base p ∧ KeptBut w (w.alloc (.cells #[.int .i64 p.id, .int .i64 p.next, .slice p.procA p.procs.length p.procC, .slice p.semA p.sems.length p.semC, .slice p.eventA p.events.length p.eventC, .slice p.boardA p.boards.length p.boardC, .slice p.bufferA p.buffers.length p.bufferC, .slice p.portA p.ports.length p.portC] 32)) p.blocks) := ⟨heap_alloc_new _ _, ho.below ((Below.refl _ _).alloc (Nat.le_refl _) _), KeptBut.of_below ((Below.refl _ _).alloc (Nat.le_refl _) _)⟩
 have HB : Hid (∀ g ∈ p.blocks, g < w.heap.size) := fun g hg => (ho.lt g hg).2
 have q0 : 1 ≤ k ∧ k + (cntL cProc p.procs : Nat) ≤ 90000000 := by have := h1; unfold cntPart at this; omega
 have q1 : 1 ≤ k + (cntL cProc p.procs : Nat) ∧ k + (cntL cProc p.procs : Nat) + (cntL (fun _ => 3) p.sems : Nat) ≤ 90000000 := by have := h1; unfold cntPart at this; omega
 have q2 : 1 ≤ k + (cntL cProc p.procs : Nat) + (cntL (fun _ => 3) p.sems : Nat) ∧ k + (cntL cProc p.procs : Nat) + (cntL (fun _ => 3) p.sems : Nat) + (cntL (fun _ => 2) p.events : Nat) ≤ 90000000 := by have := h1; unfold cntPart at this; omega
 have q3 : 1 ≤ k + (cntL cProc p.procs : Nat) + (cntL (fun _ => 3) p.sems : Nat) + (cntL (fun _ => 2) p.events : Nat) ∧ k + (cntL cProc p.procs : Nat) + (cntL (fun _ => 3) p.sems : Nat) + (cntL (fun _ => 2) p.events : Nat) + (cntL (fun _ => 3) p.boards : Nat) ≤ 90000000 := by have := h1; unfold cntPart at this; omega
 have q4 : 1 ≤ k + (cntL cProc p.procs : Nat) + (cntL (fun _ => 3) p.sems : Nat) + (cntL (fun _ => 2) p.events : Nat) + (cntL (fun _ => 3) p.boards : Nat) ∧ k + (cntL cProc p.procs : Nat) + (cntL (fun _ => 3) p.sems : Nat) + (cntL (fun _ => 2) p.events : Nat) + (cntL (fun _ => 3) p.boards : Nat) + (cntL cBuffer p.buffers : Nat) ≤ 90000000 := by have := h1; unfold cntPart at this; omega
 have q5 : 1 ≤ k + (cntL cProc p.procs : Nat) + (cntL (fun _ => 3) p.sems : Nat) + (cntL (fun _ => 2) p.events : Nat) + (cntL (fun _ => 3) p.boards : Nat) + (cntL cBuffer p.buffers : Nat) ∧ k + (cntL cProc p.procs : Nat) + (cntL (fun _ => 3) p.sems : Nat) + (cntL (fun _ => 2) p.events : Nat) + (cntL (fun _ => 3) p.boards : Nat) + (cntL cBuffer p.buffers : Nat) + (cntL cPort p.ports : Nat) ≤ 90000000 := by have := h1; unfold cntPart at this; omega
 clear hc h1 ho
 unfold PartD.cells
 go_enter Tryz.func64, Tryz.ntmps64
 go_wp2_with fail
 generalize w.alloc (.cells #[.int .i64 p.id, .int .i64 p.next, .slice p.procA p.procs.length p.procC, .slice p.semA p.sems.length p.semC, .slice p.eventA p.events.length p.eventC, .slice p.boardA p.boards.length p.boardC, .slice p.bufferA p.buffers.length p.bufferC, .slice p.portA p.ports.length p.portC] 32) = W0 at *
 refine (markSProc_l p.procA p.procs p.procC (k) W0 base HC.out.1.nProc HC.out.1.procs q0.1 q0.2 HX.out.2.1.procs HX.out.2.1.mineP (by
  have h5 := HX.out.2.1.nodup
  have h6 : PartD.blocks p = p.blocks := rfl
  rw [h6, show p.blocks = [] ++ ((blk p.procA ++ p.procs.filterMap procN.kid) ++ (blk p.semA ++ (blk p.eventA ++ (blk p.boardA ++ (blk p.bufferA ++ (p.buffers.filterMap bufferN.kid ++ (blk p.portA ++ (p.ports.filterMap portN.kid)))))))) by simp [PartD.blocks, List.append_assoc]] at h5
  exact (List.nodup_append.1 (List.nodup_append.1 h5).2.1).1)).mono ?_
 rintro e W1 ⟨rfl, how, hmi, hkb⟩
 have ht := HX.out.2.1.turnProc how (markL_length _ _ _ _) hmi (markL_kid (N := procN) (f := mkProc) (c := cProc) (fun _ _ => rfl) _ _) hkb
 have HQ1 : Hid (PartD.blocks ({ p with procs := markL mkProc cProc (k) p.procs } : PartD) = p.blocks) := ht.2.trans rfl
 have hsub : ∀ g ∈ blk p.procA ++ p.procs.filterMap procN.kid, g ∈ p.blocks := fun g hg => by rw [show p.blocks = [] ++ ((blk p.procA ++ p.procs.filterMap procN.kid) ++ (blk p.semA ++ (blk p.eventA ++ (blk p.boardA ++ (blk p.bufferA ++ (p.buffers.filterMap bufferN.kid ++ (blk p.portA ++ (p.ports.filterMap portN.kid)))))))) by simp [PartD.blocks, List.append_assoc]]; exact List.mem_append_right _ (List.mem_append_left _ hg)
 have hpb : w.heap.size ∉ p.blocks := fun hm => by have := HB.out _ hm; omega
 have HY : Hid (PartBox W1 w.heap.size p ∧ PartOwn W1 base ({ p with procs := markL mkProc cProc (k) p.procs } : PartD) ∧ KeptBut w W1 p.blocks) := ⟨(hkb.same _ (Array.getElem?_eq_some_iff.1 HX.out.1).1 fun hm => hpb (hsub _ hm)).trans HX.out.1, ht.1, HX.out.2.2.trans (hkb.mono hsub)⟩
 clear HX how hkb ht hsub hpb hmi
 have HX := HY
 clear HY
 have m0 : W1.cell? ⟨w.heap.size, 3, none⟩ = some (.slice p.semA p.sems.length p.semC) := by have := HX.out.1; unfold PartBox at this; simp [World.cell?, this]
 go_wp2_with fail
 clear m0
 refine (markSSem_l p.semA p.sems p.semC (k + (cntL cProc p.procs : Nat)) W1 base HC.out.1.nSem q1.1 q1.2 HX.out.2.1.sems).mono ?_
 rintro e W2 ⟨rfl, how, hkb⟩
 have ht := HX.out.2.1.turnSem how (markL_length _ _ _ _) hkb
 have HQ2 : Hid (PartD.blocks ({ p with procs := markL mkProc cProc (k) p.procs, sems := markL mkSem (fun _ => 3) (k + (cntL cProc p.procs : Nat)) p.sems } : PartD) = p.blocks) := ht.2.trans HQ1.out
 have hsub : ∀ g ∈ blk p.semA, g ∈ p.blocks := fun g hg => by rw [show p.blocks = (blk p.procA ++ p.procs.filterMap procN.kid) ++ ((blk p.semA) ++ (blk p.eventA ++ (blk p.boardA ++ (blk p.bufferA ++ (p.buffers.filterMap bufferN.kid ++ (blk p.portA ++ (p.ports.filterMap portN.kid))))))) by simp [PartD.blocks, List.append_assoc]]; exact List.mem_append_right _ (List.mem_append_left _ hg)
 have hpb : w.heap.size ∉ p.blocks := fun hm => by have := HB.out _ hm; omega
 have HY : Hid (PartBox W2 w.heap.size p ∧ PartOwn W2 base ({ p with procs := markL mkProc cProc (k) p.procs, sems := markL mkSem (fun _ => 3) (k + (cntL cProc p.procs : Nat)) p.sems } : PartD) ∧ KeptBut w W2 p.blocks) := ⟨(hkb.same _ (Array.getElem?_eq_some_iff.1 HX.out.1).1 fun hm => hpb (hsub _ hm)).trans HX.out.1, ht.1, HX.out.2.2.trans (hkb.mono hsub)⟩
 clear HX how hkb ht hsub hpb
 have HX := HY
 clear HY
 have m1 : W2.cell? ⟨w.heap.size, 4, none⟩ = some (.slice p.eventA p.events.length p.eventC) := by have := HX.out.1; unfold PartBox at this; simp [World.cell?, this]
 go_wp2_with fail
 clear m1
 refine (markSEvent_l p.eventA p.events p.eventC (k + (cntL cProc p.procs : Nat) + (cntL (fun _ => 3) p.sems : Nat)) W2 base HC.out.1.nEvent q2.1 q2.2 HX.out.2.1.events).mono ?_
 rintro e W3 ⟨rfl, how, hkb⟩
 have ht := HX.out.2.1.turnEvent how (markL_length _ _ _ _) hkb
 have HQ3 : Hid (PartD.blocks ({ p with procs := markL mkProc cProc (k) p.procs, sems := markL mkSem (fun _ => 3) (k + (cntL cProc p.procs : Nat)) p.sems, events := markL mkEvent (fun _ => 2) (k + (cntL cProc p.procs : Nat) + (cntL (fun _ => 3) p.sems : Nat)) p.events } : PartD) = p.blocks) := ht.2.trans HQ2.out
 have hsub : ∀ g ∈ blk p.eventA, g ∈ p.blocks := fun g hg => by rw [show p.blocks = (blk p.procA ++ p.procs.filterMap procN.kid ++ blk p.semA) ++ ((blk p.eventA) ++ (blk p.boardA ++ (blk p.bufferA ++ (p.buffers.filterMap bufferN.kid ++ (blk p.portA ++ (p.ports.filterMap portN.kid)))))) by simp [PartD.blocks, List.append_assoc]]; exact List.mem_append_right _ (List.mem_append_left _ hg)
 have hpb : w.heap.size ∉ p.blocks := fun hm => by have := HB.out _ hm; omega
 have HY : Hid (PartBox W3 w.heap.size p ∧ PartOwn W3 base ({ p with procs := markL mkProc cProc (k) p.procs, sems := markL mkSem (fun _ => 3) (k + (cntL cProc p.procs : Nat)) p.sems, events := markL mkEvent (fun _ => 2) (k + (cntL cProc p.procs : Nat) + (cntL (fun _ => 3) p.sems : Nat)) p.events } : PartD) ∧ KeptBut w W3 p.blocks) := ⟨(hkb.same _ (Array.getElem?_eq_some_iff.1 HX.out.1).1 fun hm => hpb (hsub _ hm)).trans HX.out.1, ht.1, HX.out.2.2.trans (hkb.mono hsub)⟩
 clear HX how hkb ht hsub hpb
 have HX := HY
 clear HY
 have m2 : W3.cell? ⟨w.heap.size, 5, none⟩ = some (.slice p.boardA p.boards.length p.boardC) := by have := HX.out.1; unfold PartBox at this; simp [World.cell?, this]
 go_wp2_with fail
 clear m2
 refine (markSBoard_l p.boardA p.boards p.boardC (k + (cntL cProc p.procs : Nat) + (cntL (fun _ => 3) p.sems : Nat) + (cntL (fun _ => 2) p.events : Nat)) W3 base HC.out.1.nBoard q3.1 q3.2 HX.out.2.1.boards).mono ?_
 rintro e W4 ⟨rfl, how, hkb⟩
 have ht := HX.out.2.1.turnBoard how (markL_length _ _ _ _) hkb
 have HQ4 : Hid (PartD.blocks ({ p with procs := markL mkProc cProc (k) p.procs, sems := markL mkSem (fun _ => 3) (k + (cntL cProc p.procs : Nat)) p.sems, events := markL mkEvent (fun _ => 2) (k + (cntL cProc p.procs : Nat) + (cntL (fun _ => 3) p.sems : Nat)) p.events, boards := markL mkBoard (fun _ => 3) (k + (cntL cProc p.procs : Nat) + (cntL (fun _ => 3) p.sems : Nat) + (cntL (fun _ => 2) p.events : Nat)) p.boards } : PartD) = p.blocks) := ht.2.trans HQ3.out
 have hsub : ∀ g ∈ blk p.boardA, g ∈ p.blocks := fun g hg => by rw [show p.blocks = (blk p.procA ++ p.procs.filterMap procN.kid ++ blk p.semA ++ blk p.eventA) ++ ((blk p.boardA) ++ (blk p.bufferA ++ (p.buffers.filterMap bufferN.kid ++ (blk p.portA ++ (p.ports.filterMap portN.kid))))) by simp [PartD.blocks, List.append_assoc]]; exact List.mem_append_right _ (List.mem_append_left _ hg)
 have hpb : w.heap.size ∉ p.blocks := fun hm => by have := HB.out _ hm; omega
 have HY : Hid (PartBox W4 w.heap.size p ∧ PartOwn W4 base ({ p with procs := markL mkProc cProc (k) p.procs, sems := markL mkSem (fun _ => 3) (k + (cntL cProc p.procs : Nat)) p.sems, events := markL mkEvent (fun _ => 2) (k + (cntL cProc p.procs : Nat) + (cntL (fun _ => 3) p.sems : Nat)) p.events, boards := markL mkBoard (fun _ => 3) (k + (cntL cProc p.procs : Nat) + (cntL (fun _ => 3) p.sems : Nat) + (cntL (fun _ => 2) p.events : Nat)) p.boards } : PartD) ∧ KeptBut w W4 p.blocks) := ⟨(hkb.same _ (Array.getElem?_eq_some_iff.1 HX.out.1).1 fun hm => hpb (hsub _ hm)).trans HX.out.1, ht.1, HX.out.2.2.trans (hkb.mono hsub)⟩
 clear HX how hkb ht hsub hpb
 have HX := HY
 clear HY
 have m3 : W4.cell? ⟨w.heap.size, 6, none⟩ = some (.slice p.bufferA p.buffers.length p.bufferC) := by have := HX.out.1; unfold PartBox at this; simp [World.cell?, this]
 go_wp2_with fail
 clear m3
 refine (markSBuffer_l p.bufferA p.buffers p.bufferC (k + (cntL cProc p.procs : Nat) + (cntL (fun _ => 3) p.sems : Nat) + (cntL (fun _ => 2) p.events : Nat) + (cntL (fun _ => 3) p.boards : Nat)) W4 base HC.out.1.nBuffer HC.out.1.buffers q4.1 q4.2 HX.out.2.1.buffers HX.out.2.1.mineF (by
  have h5 := HX.out.2.1.nodup
  have h6 : PartD.blocks ({ p with procs := markL mkProc cProc (k) p.procs, sems := markL mkSem (fun _ => 3) (k + (cntL cProc p.procs : Nat)) p.sems, events := markL mkEvent (fun _ => 2) (k + (cntL cProc p.procs : Nat) + (cntL (fun _ => 3) p.sems : Nat)) p.events, boards := markL mkBoard (fun _ => 3) (k + (cntL cProc p.procs : Nat) + (cntL (fun _ => 3) p.sems : Nat) + (cntL (fun _ => 2) p.events : Nat)) p.boards } : PartD) = p.blocks := HQ4.out
  rw [h6, show p.blocks = (blk p.procA ++ p.procs.filterMap procN.kid ++ blk p.semA ++ blk p.eventA ++ blk p.boardA) ++ ((blk p.bufferA ++ p.buffers.filterMap bufferN.kid) ++ (blk p.portA ++ (p.ports.filterMap portN.kid))) by simp [PartD.blocks, List.append_assoc]] at h5
  exact (List.nodup_append.1 (List.nodup_append.1 h5).2.1).1)).mono ?_
 rintro e W5 ⟨rfl, how, hmi, hkb⟩
 have ht := HX.out.2.1.turnBuffer how (markL_length _ _ _ _) hmi (markL_kid (N := bufferN) (f := mkBuffer) (c := cBuffer) (fun _ _ => rfl) _ _) hkb
 have HQ5 : Hid (PartD.blocks ({ p with procs := markL mkProc cProc (k) p.procs, sems := markL mkSem (fun _ => 3) (k + (cntL cProc p.procs : Nat)) p.sems, events := markL mkEvent (fun _ => 2) (k + (cntL cProc p.procs : Nat) + (cntL (fun _ => 3) p.sems : Nat)) p.events, boards := markL mkBoard (fun _ => 3) (k + (cntL cProc p.procs : Nat) + (cntL (fun _ => 3) p.sems : Nat) + (cntL (fun _ => 2) p.events : Nat)) p.boards, buffers := markL mkBuffer cBuffer (k + (cntL cProc p.procs : Nat) + (cntL (fun _ => 3) p.sems : Nat) + (cntL (fun _ => 2) p.events : Nat) + (cntL (fun _ => 3) p.boards : Nat)) p.buffers } : PartD) = p.blocks) := ht.2.trans HQ4.out
 have hsub : ∀ g ∈ blk p.bufferA ++ p.buffers.filterMap bufferN.kid, g ∈ p.blocks := fun g hg => by rw [show p.blocks = (blk p.procA ++ p.procs.filterMap procN.kid ++ blk p.semA ++ blk p.eventA ++ blk p.boardA) ++ ((blk p.bufferA ++ p.buffers.filterMap bufferN.kid) ++ (blk p.portA ++ (p.ports.filterMap portN.kid))) by simp [PartD.blocks, List.append_assoc]]; exact List.mem_append_right _ (List.mem_append_left _ hg)
 have hpb : w.heap.size ∉ p.blocks := fun hm => by have := HB.out _ hm; omega
 have HY : Hid (PartBox W5 w.heap.size p ∧ PartOwn W5 base ({ p with procs := markL mkProc cProc (k) p.procs, sems := markL mkSem (fun _ => 3) (k + (cntL cProc p.procs : Nat)) p.sems, events := markL mkEvent (fun _ => 2) (k + (cntL cProc p.procs : Nat) + (cntL (fun _ => 3) p.sems : Nat)) p.events, boards := markL mkBoard (fun _ => 3) (k + (cntL cProc p.procs : Nat) + (cntL (fun _ => 3) p.sems : Nat) + (cntL (fun _ => 2) p.events : Nat)) p.boards, buffers := markL mkBuffer cBuffer (k + (cntL cProc p.procs : Nat) + (cntL (fun _ => 3) p.sems : Nat) + (cntL (fun _ => 2) p.events : Nat) + (cntL (fun _ => 3) p.boards : Nat)) p.buffers } : PartD) ∧ KeptBut w W5 p.blocks) := ⟨(hkb.same _ (Array.getElem?_eq_some_iff.1 HX.out.1).1 fun hm => hpb (hsub _ hm)).trans HX.out.1, ht.1, HX.out.2.2.trans (hkb.mono hsub)⟩
 clear HX how hkb ht hsub hpb hmi
 have HX := HY
 clear HY
 have m4 : W5.cell? ⟨w.heap.size, 7, none⟩ = some (.slice p.portA p.ports.length p.portC) := by have := HX.out.1; unfold PartBox at this; simp [World.cell?, this]
 go_wp2_with fail
 clear m4
 refine (markSPort_l p.portA p.ports p.portC (k + (cntL cProc p.procs : Nat) + (cntL (fun _ => 3) p.sems : Nat) + (cntL (fun _ => 2) p.events : Nat) + (cntL (fun _ => 3) p.boards : Nat) + (cntL cBuffer p.buffers : Nat)) W5 base HC.out.1.nPort HC.out.1.ports q5.1 q5.2 HX.out.2.1.ports HX.out.2.1.mineQ (by
  have h5 := HX.out.2.1.nodup
  have h6 : PartD.blocks ({ p with procs := markL mkProc cProc (k) p.procs, sems := markL mkSem (fun _ => 3) (k + (cntL cProc p.procs : Nat)) p.sems, events := markL mkEvent (fun _ => 2) (k + (cntL cProc p.procs : Nat) + (cntL (fun _ => 3) p.sems : Nat)) p.events, boards := markL mkBoard (fun _ => 3) (k + (cntL cProc p.procs : Nat) + (cntL (fun _ => 3) p.sems : Nat) + (cntL (fun _ => 2) p.events : Nat)) p.boards, buffers := markL mkBuffer cBuffer (k + (cntL cProc p.procs : Nat) + (cntL (fun _ => 3) p.sems : Nat) + (cntL (fun _ => 2) p.events : Nat) + (cntL (fun _ => 3) p.boards : Nat)) p.buffers } : PartD) = p.blocks := HQ5.out
  rw [h6, show p.blocks = (blk p.procA ++ p.procs.filterMap procN.kid ++ blk p.semA ++ blk p.eventA ++ blk p.boardA ++ blk p.bufferA ++ p.buffers.filterMap bufferN.kid) ++ ((blk p.portA ++ p.ports.filterMap portN.kid) ++ []) by simp [PartD.blocks, List.append_assoc]] at h5
  exact (List.nodup_append.1 (List.nodup_append.1 h5).2.1).1)).mono ?_
 rintro e W6 ⟨rfl, how, hmi, hkb⟩
 have ht := HX.out.2.1.turnPort how (markL_length _ _ _ _) hmi (markL_kid (N := portN) (f := mkPort) (c := cPort) (fun _ _ => rfl) _ _) hkb
 have HQ6 : Hid (PartD.blocks ({ p with procs := markL mkProc cProc (k) p.procs, sems := markL mkSem (fun _ => 3) (k + (cntL cProc p.procs : Nat)) p.sems, events := markL mkEvent (fun _ => 2) (k + (cntL cProc p.procs : Nat) + (cntL (fun _ => 3) p.sems : Nat)) p.events, boards := markL mkBoard (fun _ => 3) (k + (cntL cProc p.procs : Nat) + (cntL (fun _ => 3) p.sems : Nat) + (cntL (fun _ => 2) p.events : Nat)) p.boards, buffers := markL mkBuffer cBuffer (k + (cntL cProc p.procs : Nat) + (cntL (fun _ => 3) p.sems : Nat) + (cntL (fun _ => 2) p.events : Nat) + (cntL (fun _ => 3) p.boards : Nat)) p.buffers, ports := markL mkPort cPort (k + (cntL cProc p.procs : Nat) + (cntL (fun _ => 3) p.sems : Nat) + (cntL (fun _ => 2) p.events : Nat) + (cntL (fun _ => 3) p.boards : Nat) + (cntL cBuffer p.buffers : Nat)) p.ports } : PartD) = p.blocks) := ht.2.trans HQ5.out
 have hsub : ∀ g ∈ blk p.portA ++ p.ports.filterMap portN.kid, g ∈ p.blocks := fun g hg => by rw [show p.blocks = (blk p.procA ++ p.procs.filterMap procN.kid ++ blk p.semA ++ blk p.eventA ++ blk p.boardA ++ blk p.bufferA ++ p.buffers.filterMap bufferN.kid) ++ ((blk p.portA ++ p.ports.filterMap portN.kid) ++ []) by simp [PartD.blocks, List.append_assoc]]; exact List.mem_append_right _ (List.mem_append_left _ hg)
 have hpb : w.heap.size ∉ p.blocks := fun hm => by have := HB.out _ hm; omega
 have HY : Hid (PartBox W6 w.heap.size p ∧ PartOwn W6 base ({ p with procs := markL mkProc cProc (k) p.procs, sems := markL mkSem (fun _ => 3) (k + (cntL cProc p.procs : Nat)) p.sems, events := markL mkEvent (fun _ => 2) (k + (cntL cProc p.procs : Nat) + (cntL (fun _ => 3) p.sems : Nat)) p.events, boards := markL mkBoard (fun _ => 3) (k + (cntL cProc p.procs : Nat) + (cntL (fun _ => 3) p.sems : Nat) + (cntL (fun _ => 2) p.events : Nat)) p.boards, buffers := markL mkBuffer cBuffer (k + (cntL cProc p.procs : Nat) + (cntL (fun _ => 3) p.sems : Nat) + (cntL (fun _ => 2) p.events : Nat) + (cntL (fun _ => 3) p.boards : Nat)) p.buffers, ports := markL mkPort cPort (k + (cntL cProc p.procs : Nat) + (cntL (fun _ => 3) p.sems : Nat) + (cntL (fun _ => 2) p.events : Nat) + (cntL (fun _ => 3) p.boards : Nat) + (cntL cBuffer p.buffers : Nat)) p.ports } : PartD) ∧ KeptBut w W6 p.blocks) := ⟨(hkb.same _ (Array.getElem?_eq_some_iff.1 HX.out.1).1 fun hm => hpb (hsub _ hm)).trans HX.out.1, ht.1, HX.out.2.2.trans (hkb.mono hsub)⟩
 clear HX how hkb ht hsub hpb hmi
 have HX := HY
 clear HY
 go_wp2
 go_ret
 exact ⟨ret_int (by unfold cntPart; omega), HX.out.2.1, HX.out.2.2⟩
set_option maxRecDepth 100000 in
set_option maxHeartbeats 4000000 in
theorem heldPart_l (p : PartD) (k : Int) (w : World) (hc : p.Cnt) (h0 : 1 ≤ k) (h1 : k + (cntPart p : Nat) ≤ 90000000) (ho : PartD.At w (mkPart k p)) :
  Calls Tryz.prog 66 #[.agg p.cells, .int .i64 k] w fun e w' => e = .returned (.int .i64 (k + (cntPart p : Nat))) ∧ Below w.heap.size w w' := by
 have HC : Hid (p.Cnt ∧ k + (cntPart p : Nat) ≤ 90000000) := ⟨hc, h1⟩
 have HX : Hid (PartBox (w.alloc (.cells #[.int .i64 p.id, .int .i64 p.next, .slice p.procA p.procs.length p.procC, .slice p.semA p.sems.length p.semC, .slice p.eventA p.events.length p.eventC, .slice p.boardA p.boards.length p.boardC, .slice p.bufferA p.buffers.length p.bufferC, .slice p.portA p.ports.length p.portC] 32)) w.heap.size p ∧ PartD.At (w.alloc (.cells #[.int .i64 p.id, .int .i64 p.next, .slice p.procA p.procs.length p.procC, .slice p.semA p.sems.length p.semC, .slice p.eventA p.events.length p.eventC, .slice p.boardA p.boards.length p.boardC, .slice p.bufferA p.buffers.length p.bufferC, .slice p.portA p.ports.length p.portC] 32)) (mkPart k p) ∧ Below w.heap.size w (w.alloc (.cells #[.int .i64 p.id, .int .i64 p.next, .slice p.procA p.procs.length p.procC, .slice p.semA p.sems.length p.semC, .slice p.eventA p.events.length p.eventC, .slice p.boardA p.boards.length p.boardC, .slice p.bufferA p.buffers.length p.bufferC, .slice p.portA p.ports.length p.portC] 32))) := ⟨heap_alloc_new _ _, ho.below ((Below.refl _ _).alloc (Nat.le_refl _) _), (Below.refl _ _).alloc (Nat.le_refl _) _⟩
 have q0 : 1 ≤ k ∧ k + (cntL cProc p.procs : Nat) ≤ 90000000 := by have := h1; unfold cntPart at this; omega
 have q1 : 1 ≤ k + (cntL cProc p.procs : Nat) ∧ k + (cntL cProc p.procs : Nat) + (cntL (fun _ => 3) p.sems : Nat) ≤ 90000000 := by have := h1; unfold cntPart at this; omega
 have q2 : 1 ≤ k + (cntL cProc p.procs : Nat) + (cntL (fun _ => 3) p.sems : Nat) ∧ k + (cntL cProc p.procs : Nat) + (cntL (fun _ => 3) p.sems : Nat) + (cntL (fun _ => 2) p.events : Nat) ≤ 90000000 := by have := h1; unfold cntPart at this; omega
 have q3 : 1 ≤ k + (cntL cProc p.procs : Nat) + (cntL (fun _ => 3) p.sems : Nat) + (cntL (fun _ => 2) p.events : Nat) ∧ k + (cntL cProc p.procs : Nat) + (cntL (fun _ => 3) p.sems : Nat) + (cntL (fun _ => 2) p.events : Nat) + (cntL (fun _ => 3) p.boards : Nat) ≤ 90000000 := by have := h1; unfold cntPart at this; omega
 have q4 : 1 ≤ k + (cntL cProc p.procs : Nat) + (cntL (fun _ => 3) p.sems : Nat) + (cntL (fun _ => 2) p.events : Nat) + (cntL (fun _ => 3) p.boards : Nat) ∧ k + (cntL cProc p.procs : Nat) + (cntL (fun _ => 3) p.sems : Nat) + (cntL (fun _ => 2) p.events : Nat) + (cntL (fun _ => 3) p.boards : Nat) + (cntL cBuffer p.buffers : Nat) ≤ 90000000 := by have := h1; unfold cntPart at this; omega
 have q5 : 1 ≤ k + (cntL cProc p.procs : Nat) + (cntL (fun _ => 3) p.sems : Nat) + (cntL (fun _ => 2) p.events : Nat) + (cntL (fun _ => 3) p.boards : Nat) + (cntL cBuffer p.buffers : Nat) ∧ k + (cntL cProc p.procs : Nat) + (cntL (fun _ => 3) p.sems : Nat) + (cntL (fun _ => 2) p.events : Nat) + (cntL (fun _ => 3) p.boards : Nat) + (cntL cBuffer p.buffers : Nat) + (cntL cPort p.ports : Nat) ≤ 90000000 := by have := h1; unfold cntPart at this; omega
 clear hc h1 ho
 unfold PartD.cells
 go_enter Tryz.func66, Tryz.ntmps66
 go_wp2_with fail
 generalize w.alloc (.cells #[.int .i64 p.id, .int .i64 p.next, .slice p.procA p.procs.length p.procC, .slice p.semA p.sems.length p.semC, .slice p.eventA p.events.length p.eventC, .slice p.boardA p.boards.length p.boardC, .slice p.bufferA p.buffers.length p.bufferC, .slice p.portA p.ports.length p.portC] 32) = W0 at *
 refine (heldSProc_l p.procA p.procs p.procC (k) W0 HC.out.1.nProc HC.out.1.procs q0.1 q0.2 HX.out.2.1.1).mono ?_
 rintro e W1 ⟨rfl, hb⟩
 have HY : Hid (PartBox W1 w.heap.size p ∧ PartD.At W1 (mkPart k p) ∧ Below w.heap.size w W1) := ⟨HX.out.1.below hb, HX.out.2.1.below hb, HX.out.2.2.trans (hb.mono HX.out.2.2.size)⟩
 clear HX hb
 have HX := HY
 clear HY
 have nn0 : ¬ k + (cntL cProc p.procs : Nat) < 0 := by omega
 have m0 : W1.cell? ⟨w.heap.size, 3, none⟩ = some (.slice p.semA p.sems.length p.semC) := by have := HX.out.1; unfold PartBox at this; simp [World.cell?, this]
 go_wp2_with fail
 clear m0
 refine (heldSSem_l p.semA p.sems p.semC (k + (cntL cProc p.procs : Nat)) W1 HC.out.1.nSem q1.1 q1.2 HX.out.2.1.2.1).mono ?_
 rintro e W2 ⟨rfl, hb⟩
 have HY : Hid (PartBox W2 w.heap.size p ∧ PartD.At W2 (mkPart k p) ∧ Below w.heap.size w W2) := ⟨HX.out.1.below hb, HX.out.2.1.below hb, HX.out.2.2.trans (hb.mono HX.out.2.2.size)⟩
 clear HX hb
 have HX := HY
 clear HY
 have nn1 : ¬ k + (cntL cProc p.procs : Nat) + (cntL (fun _ => 3) p.sems : Nat) < 0 := by omega
 have m1 : W2.cell? ⟨w.heap.size, 4, none⟩ = some (.slice p.eventA p.events.length p.eventC) := by have := HX.out.1; unfold PartBox at this; simp [World.cell?, this]
 go_wp2_with fail
 clear m1
 refine (heldSEvent_l p.eventA p.events p.eventC (k + (cntL cProc p.procs : Nat) + (cntL (fun _ => 3) p.sems : Nat)) W2 HC.out.1.nEvent q2.1 q2.2 HX.out.2.1.2.2.1).mono ?_
 rintro e W3 ⟨rfl, hb⟩
 have HY : Hid (PartBox W3 w.heap.size p ∧ PartD.At W3 (mkPart k p) ∧ Below w.heap.size w W3) := ⟨HX.out.1.below hb, HX.out.2.1.below hb, HX.out.2.2.trans (hb.mono HX.out.2.2.size)⟩
 clear HX hb
 have HX := HY
 clear HY
 have nn2 : ¬ k + (cntL cProc p.procs : Nat) + (cntL (fun _ => 3) p.sems : Nat) + (cntL (fun _ => 2) p.events : Nat) < 0 := by omega
 have m2 : W3.cell? ⟨w.heap.size, 5, none⟩ = some (.slice p.boardA p.boards.length p.boardC) := by have := HX.out.1; unfold PartBox at this; simp [World.cell?, this]
 go_wp2_with fail
 clear m2
 refine (heldSBoard_l p.boardA p.boards p.boardC (k + (cntL cProc p.procs : Nat) + (cntL (fun _ => 3) p.sems : Nat) + (cntL (fun _ => 2) p.events : Nat)) W3 HC.out.1.nBoard q3.1 q3.2 HX.out.2.1.2.2.2.1).mono ?_
 rintro e W4 ⟨rfl, hb⟩
 have HY : Hid (PartBox W4 w.heap.size p ∧ PartD.At W4 (mkPart k p) ∧ Below w.heap.size w W4) := ⟨HX.out.1.below hb, HX.out.2.1.below hb, HX.out.2.2.trans (hb.mono HX.out.2.2.size)⟩
 clear HX hb
 have HX := HY
 clear HY
 have nn3 : ¬ k + (cntL cProc p.procs : Nat) + (cntL (fun _ => 3) p.sems : Nat) + (cntL (fun _ => 2) p.events : Nat) + (cntL (fun _ => 3) p.boards : Nat) < 0 := by omega
 have m3 : W4.cell? ⟨w.heap.size, 6, none⟩ = some (.slice p.bufferA p.buffers.length p.bufferC) := by have := HX.out.1; unfold PartBox at this; simp [World.cell?, this]
 go_wp2_with fail
 clear m3
 refine (heldSBuffer_l p.bufferA p.buffers p.bufferC (k + (cntL cProc p.procs : Nat) + (cntL (fun _ => 3) p.sems : Nat) + (cntL (fun _ => 2) p.events : Nat) + (cntL (fun _ => 3) p.boards : Nat)) W4 HC.out.1.nBuffer HC.out.1.buffers q4.1 q4.2 HX.out.2.1.2.2.2.2.1).mono ?_
 rintro e W5 ⟨rfl, hb⟩
 have HY : Hid (PartBox W5 w.heap.size p ∧ PartD.At W5 (mkPart k p) ∧ Below w.heap.size w W5) := ⟨HX.out.1.below hb, HX.out.2.1.below hb, HX.out.2.2.trans (hb.mono HX.out.2.2.size)⟩
 clear HX hb
 have HX := HY
 clear HY
 have nn4 : ¬ k + (cntL cProc p.procs : Nat) + (cntL (fun _ => 3) p.sems : Nat) + (cntL (fun _ => 2) p.events : Nat) + (cntL (fun _ => 3) p.boards : Nat) + (cntL cBuffer p.buffers : Nat) < 0 := by omega
 have m4 : W5.cell? ⟨w.heap.size, 7, none⟩ = some (.slice p.portA p.ports.length p.portC) := by have := HX.out.1; unfold PartBox at this; simp [World.cell?, this]
 go_wp2_with fail
 clear m4
 refine (heldSPort_l p.portA p.ports p.portC (k + (cntL cProc p.procs : Nat) + (cntL (fun _ => 3) p.sems : Nat) + (cntL (fun _ => 2) p.events : Nat) + (cntL (fun _ => 3) p.boards : Nat) + (cntL cBuffer p.buffers : Nat)) W5 HC.out.1.nPort HC.out.1.ports q5.1 q5.2 HX.out.2.1.2.2.2.2.2).mono ?_
 rintro e W6 ⟨rfl, hb⟩
 have HY : Hid (PartBox W6 w.heap.size p ∧ PartD.At W6 (mkPart k p) ∧ Below w.heap.size w W6) := ⟨HX.out.1.below hb, HX.out.2.1.below hb, HX.out.2.2.trans (hb.mono HX.out.2.2.size)⟩
 clear HX hb
 have HX := HY
 clear HY
 have nn5 : ¬ k + (cntL cProc p.procs : Nat) + (cntL (fun _ => 3) p.sems : Nat) + (cntL (fun _ => 2) p.events : Nat) + (cntL (fun _ => 3) p.boards : Nat) + (cntL cBuffer p.buffers : Nat) + (cntL cPort p.ports : Nat) < 0 := by omega
 go_wp2
 go_ret
 exact ⟨ret_int (by unfold cntPart; omega), HX.out.2.2⟩
end Go.Proofs.YtkbcplnlehdjfaaGreat
