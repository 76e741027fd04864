/- What the proof leans on, part 23: MkPart. -/
import Derived.Test.YtkbcplnlehdjfaaGreatOwnCh20
import Derived.Test.YtkbcplnlehdjfaaGreatOwnCh21
set_option maxRecDepth 100000
set_option maxHeartbeats 8000000

namespace Go.Proofs.YtkbcplnlehdjfaaGreat
open Go.RowKit
attribute [local go_sem ↓] Go.wp_at_zero Go.wp_at_succ
theorem PartOwn.turnProc {w w':World} {base:Nat} {q:PartD} {l:List ProcD} (h:PartOwn w base q)(ho:w'.ownsRow base 43 12(.slice q.procA q.procs.length q.procC)q.procs.length(procK.flat l))(hl:l.length=q.procs.length)(hm: ∀ y∈l,procN.Mine w' base y)(hki:l.filterMap procN.kid=q.procs.filterMap procN.kid)(hk:KeptBut w w'(blk q.procA ++ q.procs.filterMap procN.kid)):
  PartOwn w' base({ q with procs:=l } :PartD)∧({ q with procs:=l } :PartD).blocks=q.blocks:=by
 have hbs:q.blocks= [] ++ ((blk q.procA ++ q.procs.filterMap procN.kid) ++ (blk q.semA ++ (blk q.eventA ++ (blk q.boardA ++ (blk q.bufferA ++ (q.buffers.filterMap bufferN.kid ++ (blk q.portA ++ (q.ports.filterMap portN.kid)))))))):=by simp [PartD.blocks,List.append_assoc]
 have hbn:({ q with procs:=l } :PartD).blocks=q.blocks:=by simp only [PartD.blocks,hki]
 have hnd:=h.nodup
 rw [hbs] at hnd
 have hdis: ∀ g,(g∈ [] ∨g∈(blk q.semA ++ (blk q.eventA ++ (blk q.boardA ++ (blk q.bufferA ++ (q.buffers.filterMap bufferN.kid ++ (blk q.portA ++ (q.ports.filterMap portN.kid))))))))→g∉(blk q.procA ++ q.procs.filterMap procN.kid):=fun g hgm hA=>by
  obtain⟨-,h2,h3⟩:=List.nodup_append.1 hnd
  obtain⟨-,-,h4⟩:=List.nodup_append.1 h2
  rcases hgm with hgm | hgm
  ·exact h3 g hgm g(List.mem_append_left _ hA)rfl
  ·exact h4 g hA g hgm rfl
 have hs: ∀ g,(g∈ [] ∨g∈(blk q.semA ++ (blk q.eventA ++ (blk q.boardA ++ (blk q.bufferA ++ (q.buffers.filterMap bufferN.kid ++ (blk q.portA ++ (q.ports.filterMap portN.kid))))))))→w'.heap[g]? =w.heap[g]? :=fun g hgm=>hk.same g(h.lt g(by
  rw [hbs]
  rcases hgm with hgm | hgm
  ·exact List.mem_append_left _ hgm
  ·exact List.mem_append_right _(List.mem_append_right _ hgm))).2(hdis g hgm)
 refine⟨⟨(by rw [hl]; exact ho),own_same h.sems fun g hgm=>hs g(.inr(by simp [hgm])),own_same h.events fun g hgm=>hs g(.inr(by simp [hgm])),own_same h.boards fun g hgm=>hs g(.inr(by simp [hgm])),own_same h.buffers fun g hgm=>hs g(.inr(by simp [hgm])),own_same h.ports fun g hgm=>hs g(.inr(by simp [hgm])),hm,fun y hy=>(h.mineF y hy).same fun g hk=>hs g(.inr(by simp only [List.mem_append,List.mem_filterMap]; simp [exists_kid hy hk])),fun y hy=>(h.mineQ y hy).same fun g hk=>hs g(.inr(by simp only [List.mem_append,List.mem_filterMap]; simp [exists_kid hy hk])),?_⟩,hbn⟩
 rw [hbn]
 exact h.nodup
theorem PartOwn.turnSem {w w':World} {base:Nat} {q:PartD} {l:List SemD} (h:PartOwn w base q)(ho:w'.ownsRow base 49 3(.slice q.semA q.sems.length q.semC)q.sems.length(semK.flat l))(hl:l.length=q.sems.length)(hk:KeptBut w w'(blk q.semA)):
  PartOwn w' base({ q with sems:=l } :PartD)∧({ q with sems:=l } :PartD).blocks=q.blocks:=by
 have hbs:q.blocks=(blk q.procA ++ q.procs.filterMap procN.kid) ++ ((blk q.semA) ++ (blk q.eventA ++ (blk q.boardA ++ (blk q.bufferA ++ (q.buffers.filterMap bufferN.kid ++ (blk q.portA ++ (q.ports.filterMap portN.kid))))))):=by simp [PartD.blocks,List.append_assoc]
 have hbn:({ q with sems:=l } :PartD).blocks=q.blocks:=by rfl
 have hnd:=h.nodup
 rw [hbs] at hnd
 have hdis: ∀ g,(g∈(blk q.procA ++ q.procs.filterMap procN.kid)∨g∈(blk q.eventA ++ (blk q.boardA ++ (blk q.bufferA ++ (q.buffers.filterMap bufferN.kid ++ (blk q.portA ++ (q.ports.filterMap portN.kid)))))))→g∉(blk q.semA):=fun g hgm hA=>by
  obtain⟨-,h2,h3⟩:=List.nodup_append.1 hnd
  obtain⟨-,-,h4⟩:=List.nodup_append.1 h2
  rcases hgm with hgm | hgm
  ·exact h3 g hgm g(List.mem_append_left _ hA)rfl
  ·exact h4 g hA g hgm rfl
 have hs: ∀ g,(g∈(blk q.procA ++ q.procs.filterMap procN.kid)∨g∈(blk q.eventA ++ (blk q.boardA ++ (blk q.bufferA ++ (q.buffers.filterMap bufferN.kid ++ (blk q.portA ++ (q.ports.filterMap portN.kid)))))))→w'.heap[g]? =w.heap[g]? :=fun g hgm=>hk.same g(h.lt g(by
  rw [hbs]
  rcases hgm with hgm | hgm
  ·exact List.mem_append_left _ hgm
  ·exact List.mem_append_right _(List.mem_append_right _ hgm))).2(hdis g hgm)
 refine⟨⟨own_same h.procs fun g hgm=>hs g(.inl(by simp [hgm])),(by rw [hl]; exact ho),own_same h.events fun g hgm=>hs g(.inr(by simp [hgm])),own_same h.boards fun g hgm=>hs g(.inr(by simp [hgm])),own_same h.buffers fun g hgm=>hs g(.inr(by simp [hgm])),own_same h.ports fun g hgm=>hs g(.inr(by simp [hgm])),fun y hy=>(h.mineP y hy).same fun g hk=>hs g(.inl(by simp only [List.mem_append,List.mem_filterMap]; simp [exists_kid hy hk])),fun y hy=>(h.mineF y hy).same fun g hk=>hs g(.inr(by simp only [List.mem_append,List.mem_filterMap]; simp [exists_kid hy hk])),fun y hy=>(h.mineQ y hy).same fun g hk=>hs g(.inr(by simp only [List.mem_append,List.mem_filterMap]; simp [exists_kid hy hk])),?_⟩,hbn⟩
 rw [hbn]
 exact h.nodup
theorem PartOwn.turnEvent {w w':World} {base:Nat} {q:PartD} {l:List EventD} (h:PartOwn w base q)(ho:w'.ownsRow base 138 2(.slice q.eventA q.events.length q.eventC)q.events.length(eventK.flat l))(hl:l.length=q.events.length)(hk:KeptBut w w'(blk q.eventA)):
  PartOwn w' base({ q with events:=l } :PartD)∧({ q with events:=l } :PartD).blocks=q.blocks:=by
 have hbs:q.blocks=(blk q.procA ++ q.procs.filterMap procN.kid ++ blk q.semA) ++ ((blk q.eventA) ++ (blk q.boardA ++ (blk q.bufferA ++ (q.buffers.filterMap bufferN.kid ++ (blk q.portA ++ (q.ports.filterMap portN.kid)))))):=by simp [PartD.blocks,List.append_assoc]
 have hbn:({ q with events:=l } :PartD).blocks=q.blocks:=by rfl
 have hnd:=h.nodup
 rw [hbs] at hnd
 have hdis: ∀ g,(g∈(blk q.procA ++ q.procs.filterMap procN.kid ++ blk q.semA)∨g∈(blk q.boardA ++ (blk q.bufferA ++ (q.buffers.filterMap bufferN.kid ++ (blk q.portA ++ (q.ports.filterMap portN.kid))))))→g∉(blk q.eventA):=fun g hgm hA=>by
  obtain⟨-,h2,h3⟩:=List.nodup_append.1 hnd
  obtain⟨-,-,h4⟩:=List.nodup_append.1 h2
  rcases hgm with hgm | hgm
  ·exact h3 g hgm g(List.mem_append_left _ hA)rfl
  ·exact h4 g hA g hgm rfl
 have hs: ∀ g,(g∈(blk q.procA ++ q.procs.filterMap procN.kid ++ blk q.semA)∨g∈(blk q.boardA ++ (blk q.bufferA ++ (q.buffers.filterMap bufferN.kid ++ (blk q.portA ++ (q.ports.filterMap portN.kid))))))→w'.heap[g]? =w.heap[g]? :=fun g hgm=>hk.same g(h.lt g(by
  rw [hbs]
  rcases hgm with hgm | hgm
  ·exact List.mem_append_left _ hgm
  ·exact List.mem_append_right _(List.mem_append_right _ hgm))).2(hdis g hgm)
 refine⟨⟨own_same h.procs fun g hgm=>hs g(.inl(by simp [hgm])),own_same h.sems fun g hgm=>hs g(.inl(by simp [hgm])),(by rw [hl]; exact ho),own_same h.boards fun g hgm=>hs g(.inr(by simp [hgm])),own_same h.buffers fun g hgm=>hs g(.inr(by simp [hgm])),own_same h.ports fun g hgm=>hs g(.inr(by simp [hgm])),fun y hy=>(h.mineP y hy).same fun g hk=>hs g(.inl(by simp only [List.mem_append,List.mem_filterMap]; simp [exists_kid hy hk])),fun y hy=>(h.mineF y hy).same fun g hk=>hs g(.inr(by simp only [List.mem_append,List.mem_filterMap]; simp [exists_kid hy hk])),fun y hy=>(h.mineQ y hy).same fun g hk=>hs g(.inr(by simp only [List.mem_append,List.mem_filterMap]; simp [exists_kid hy hk])),?_⟩,hbn⟩
 rw [hbn]
 exact h.nodup
theorem PartOwn.turnBoard {w w':World} {base:Nat} {q:PartD} {l:List BoardD} (h:PartOwn w base q)(ho:w'.ownsRow base 141 3(.slice q.boardA q.boards.length q.boardC)q.boards.length(boardK.flat l))(hl:l.length=q.boards.length)(hk:KeptBut w w'(blk q.boardA)):
  PartOwn w' base({ q with boards:=l } :PartD)∧({ q with boards:=l } :PartD).blocks=q.blocks:=by
 have hbs:q.blocks=(blk q.procA ++ q.procs.filterMap procN.kid ++ blk q.semA ++ blk q.eventA) ++ ((blk q.boardA) ++ (blk q.bufferA ++ (q.buffers.filterMap bufferN.kid ++ (blk q.portA ++ (q.ports.filterMap portN.kid))))):=by simp [PartD.blocks,List.append_assoc]
 have hbn:({ q with boards:=l } :PartD).blocks=q.blocks:=by rfl
 have hnd:=h.nodup
 rw [hbs] at hnd
 have hdis: ∀ g,(g∈(blk q.procA ++ q.procs.filterMap procN.kid ++ blk q.semA ++ blk q.eventA)∨g∈(blk q.bufferA ++ (q.buffers.filterMap bufferN.kid ++ (blk q.portA ++ (q.ports.filterMap portN.kid)))))→g∉(blk q.boardA):=fun g hgm hA=>by
  obtain⟨-,h2,h3⟩:=List.nodup_append.1 hnd
  obtain⟨-,-,h4⟩:=List.nodup_append.1 h2
  rcases hgm with hgm | hgm
  ·exact h3 g hgm g(List.mem_append_left _ hA)rfl
  ·exact h4 g hA g hgm rfl
 have hs: ∀ g,(g∈(blk q.procA ++ q.procs.filterMap procN.kid ++ blk q.semA ++ blk q.eventA)∨g∈(blk q.bufferA ++ (q.buffers.filterMap bufferN.kid ++ (blk q.portA ++ (q.ports.filterMap portN.kid)))))→w'.heap[g]? =w.heap[g]? :=fun g hgm=>hk.same g(h.lt g(by
  rw [hbs]
  rcases hgm with hgm | hgm
  ·exact List.mem_append_left _ hgm
  ·exact List.mem_append_right _(List.mem_append_right _ hgm))).2(hdis g hgm)
 refine⟨⟨own_same h.procs fun g hgm=>hs g(.inl(by simp [hgm])),own_same h.sems fun g hgm=>hs g(.inl(by simp [hgm])),own_same h.events fun g hgm=>hs g(.inl(by simp [hgm])),(by rw [hl]; exact ho),own_same h.buffers fun g hgm=>hs g(.inr(by simp [hgm])),own_same h.ports fun g hgm=>hs g(.inr(by simp [hgm])),fun y hy=>(h.mineP y hy).same fun g hk=>hs g(.inl(by simp only [List.mem_append,List.mem_filterMap]; simp [exists_kid hy hk])),fun y hy=>(h.mineF y hy).same fun g hk=>hs g(.inr(by simp only [List.mem_append,List.mem_filterMap]; simp [exists_kid hy hk])),fun y hy=>(h.mineQ y hy).same fun g hk=>hs g(.inr(by simp only [List.mem_append,List.mem_filterMap]; simp [exists_kid hy hk])),?_⟩,hbn⟩
 rw [hbn]
 exact h.nodup
end Go.Proofs.YtkbcplnlehdjfaaGreat
