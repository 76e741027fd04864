/- What the proof leans on, part 22: MkPart. -/
import Derived.Test.YtkbcplnlehdjfaaGreatOwnB19
import Derived.Test.YtkbcplnlehdjfaaGreatOwnB20
set_option maxRecDepth 100000
set_option maxHeartbeats 8000000

namespace Go.Proofs.YtkbcplnlehdjfaaGreat
open Go.RowKit
attribute [local go_sem ↓] Go.wp_at_zero Go.wp_at_succ
theorem ap.As {w w':World} {base:Nat} {q:af} {l:List ao} (h:ap w base q) (ho:w'.ownsRow base 43 12 (.slice q.aN q.procs.length q.aW) q.procs.length (bg.flat l)) (hl:l.length=q.procs.length) (hm: ∀ y∈l,aR.cO w' base y) (hki:l.filterMap aR.bt=q.procs.filterMap aR.bt) (hk:aI w w' (blk q.aN ++ q.procs.filterMap aR.bt)):
  ap w' base ({ q with procs:=l } :af)∧({ q with procs:=l } :af).blocks=q.blocks:=by
 have hbs:q.blocks= [] ++ ((blk q.aN ++ q.procs.filterMap aR.bt) ++ (blk q.bc ++ (blk q.ay ++ (blk q.ax ++ (blk q.am ++ (q.ae.filterMap aC.bt ++ (blk q.aK ++ (q.ai.filterMap aU.bt)))))))):=by simp [af.blocks,List.append_assoc]
 have rN:({ q with procs:=l } :af).blocks=q.blocks:=by simp only [af.blocks,hki]
 have hnd:=h.nodup
 rw [hbs] at hnd
 have nc: ∀ g,(g∈ [] ∨g∈(blk q.bc ++ (blk q.ay ++ (blk q.ax ++ (blk q.am ++ (q.ae.filterMap aC.bt ++ (blk q.aK ++ (q.ai.filterMap aU.bt))))))))→g∉(blk q.aN ++ q.procs.filterMap aR.bt):=fun g bR hA=>by
  obtain ⟨-,h2,h3⟩:=List.nodup_append.1 hnd
  obtain ⟨-,-,h4⟩:=List.nodup_append.1 h2
  rcases bR with bR | bR
  ·exact h3 g bR g (List.mem_append_left _ hA) rfl
  ·exact h4 g hA g bR rfl
 have hs: ∀ g,(g∈ [] ∨g∈(blk q.bc ++ (blk q.ay ++ (blk q.ax ++ (blk q.am ++ (q.ae.filterMap aC.bt ++ (blk q.aK ++ (q.ai.filterMap aU.bt))))))))→w'.heap[g]? =w.heap[g]? :=fun g bR=>hk.same g (h.lt g (by
  rw [hbs]
  rcases bR with bR | bR
  ·exact List.mem_append_left _ bR
  ·exact List.mem_append_right _ (List.mem_append_right _ bR))).2 (nc g bR)
 refine ⟨⟨(by rw [hl]; exact ho),aL h.aj fun g bR=>hs g (.inr (by simp [bR])),aL h.events fun g bR=>hs g (.inr (by simp [bR])),aL h.ag fun g bR=>hs g (.inr (by simp [bR])),aL h.ae fun g bR=>hs g (.inr (by simp [bR])),aL h.ai fun g bR=>hs g (.inr (by simp [bR])),hm,fun y hy=>(h.eE y hy).same fun g hk=>hs g (.inr (by simp only [List.mem_append,List.mem_filterMap]; simp [dd hy hk])),fun y hy=>(h.eR y hy).same fun g hk=>hs g (.inr (by simp only [List.mem_append,List.mem_filterMap]; simp [dd hy hk])),?_⟩,rN⟩
 rw [rN]
 exact h.nodup
theorem ap.DT {w w':World} {base:Nat} {q:af} {l:List bD} (h:ap w base q) (ho:w'.ownsRow base 49 3 (.slice q.bc q.aj.length q.bF) q.aj.length (dm.flat l)) (hl:l.length=q.aj.length) (hk:aI w w' (blk q.bc)):
  ap w' base ({ q with aj:=l } :af)∧({ q with aj:=l } :af).blocks=q.blocks:=by
 have hbs:q.blocks=(blk q.aN ++ q.procs.filterMap aR.bt) ++ ((blk q.bc) ++ (blk q.ay ++ (blk q.ax ++ (blk q.am ++ (q.ae.filterMap aC.bt ++ (blk q.aK ++ (q.ai.filterMap aU.bt))))))):=by simp [af.blocks,List.append_assoc]
 have rN:({ q with aj:=l } :af).blocks=q.blocks:=by rfl
 have hnd:=h.nodup
 rw [hbs] at hnd
 have nc: ∀ g,(g∈(blk q.aN ++ q.procs.filterMap aR.bt)∨g∈(blk q.ay ++ (blk q.ax ++ (blk q.am ++ (q.ae.filterMap aC.bt ++ (blk q.aK ++ (q.ai.filterMap aU.bt)))))))→g∉(blk q.bc):=fun g bR hA=>by
  obtain ⟨-,h2,h3⟩:=List.nodup_append.1 hnd
  obtain ⟨-,-,h4⟩:=List.nodup_append.1 h2
  rcases bR with bR | bR
  ·exact h3 g bR g (List.mem_append_left _ hA) rfl
  ·exact h4 g hA g bR rfl
 have hs: ∀ g,(g∈(blk q.aN ++ q.procs.filterMap aR.bt)∨g∈(blk q.ay ++ (blk q.ax ++ (blk q.am ++ (q.ae.filterMap aC.bt ++ (blk q.aK ++ (q.ai.filterMap aU.bt)))))))→w'.heap[g]? =w.heap[g]? :=fun g bR=>hk.same g (h.lt g (by
  rw [hbs]
  rcases bR with bR | bR
  ·exact List.mem_append_left _ bR
  ·exact List.mem_append_right _ (List.mem_append_right _ bR))).2 (nc g bR)
 refine ⟨⟨aL h.procs fun g bR=>hs g (.inl (by simp [bR])),(by rw [hl]; exact ho),aL h.events fun g bR=>hs g (.inr (by simp [bR])),aL h.ag fun g bR=>hs g (.inr (by simp [bR])),aL h.ae fun g bR=>hs g (.inr (by simp [bR])),aL h.ai fun g bR=>hs g (.inr (by simp [bR])),fun y hy=>(h.eI y hy).same fun g hk=>hs g (.inl (by simp only [List.mem_append,List.mem_filterMap]; simp [dd hy hk])),fun y hy=>(h.eE y hy).same fun g hk=>hs g (.inr (by simp only [List.mem_append,List.mem_filterMap]; simp [dd hy hk])),fun y hy=>(h.eR y hy).same fun g hk=>hs g (.inr (by simp only [List.mem_append,List.mem_filterMap]; simp [dd hy hk])),?_⟩,rN⟩
 rw [rN]
 exact h.nodup
theorem ap.xA {w w':World} {base:Nat} {q:af} {l:List aB} (h:ap w base q) (ho:w'.ownsRow base 138 2 (.slice q.ay q.events.length q.aO) q.events.length (bJ.flat l)) (hl:l.length=q.events.length) (hk:aI w w' (blk q.ay)):
  ap w' base ({ q with events:=l } :af)∧({ q with events:=l } :af).blocks=q.blocks:=by
 have hbs:q.blocks=(blk q.aN ++ q.procs.filterMap aR.bt ++ blk q.bc) ++ ((blk q.ay) ++ (blk q.ax ++ (blk q.am ++ (q.ae.filterMap aC.bt ++ (blk q.aK ++ (q.ai.filterMap aU.bt)))))):=by simp [af.blocks,List.append_assoc]
 have rN:({ q with events:=l } :af).blocks=q.blocks:=by rfl
 have hnd:=h.nodup
 rw [hbs] at hnd
 have nc: ∀ g,(g∈(blk q.aN ++ q.procs.filterMap aR.bt ++ blk q.bc)∨g∈(blk q.ax ++ (blk q.am ++ (q.ae.filterMap aC.bt ++ (blk q.aK ++ (q.ai.filterMap aU.bt))))))→g∉(blk q.ay):=fun g bR hA=>by
  obtain ⟨-,h2,h3⟩:=List.nodup_append.1 hnd
  obtain ⟨-,-,h4⟩:=List.nodup_append.1 h2
  rcases bR with bR | bR
  ·exact h3 g bR g (List.mem_append_left _ hA) rfl
  ·exact h4 g hA g bR rfl
 have hs: ∀ g,(g∈(blk q.aN ++ q.procs.filterMap aR.bt ++ blk q.bc)∨g∈(blk q.ax ++ (blk q.am ++ (q.ae.filterMap aC.bt ++ (blk q.aK ++ (q.ai.filterMap aU.bt))))))→w'.heap[g]? =w.heap[g]? :=fun g bR=>hk.same g (h.lt g (by
  rw [hbs]
  rcases bR with bR | bR
  ·exact List.mem_append_left _ bR
  ·exact List.mem_append_right _ (List.mem_append_right _ bR))).2 (nc g bR)
 refine ⟨⟨aL h.procs fun g bR=>hs g (.inl (by simp [bR])),aL h.aj fun g bR=>hs g (.inl (by simp [bR])),(by rw [hl]; exact ho),aL h.ag fun g bR=>hs g (.inr (by simp [bR])),aL h.ae fun g bR=>hs g (.inr (by simp [bR])),aL h.ai fun g bR=>hs g (.inr (by simp [bR])),fun y hy=>(h.eI y hy).same fun g hk=>hs g (.inl (by simp only [List.mem_append,List.mem_filterMap]; simp [dd hy hk])),fun y hy=>(h.eE y hy).same fun g hk=>hs g (.inr (by simp only [List.mem_append,List.mem_filterMap]; simp [dd hy hk])),fun y hy=>(h.eR y hy).same fun g hk=>hs g (.inr (by simp only [List.mem_append,List.mem_filterMap]; simp [dd hy hk])),?_⟩,rN⟩
 rw [rN]
 exact h.nodup
theorem ap.xM {w w':World} {base:Nat} {q:af} {l:List az} (h:ap w base q) (ho:w'.ownsRow base 141 3 (.slice q.ax q.ag.length q.aP) q.ag.length (bG.flat l)) (hl:l.length=q.ag.length) (hk:aI w w' (blk q.ax)):
  ap w' base ({ q with ag:=l } :af)∧({ q with ag:=l } :af).blocks=q.blocks:=by
 have hbs:q.blocks=(blk q.aN ++ q.procs.filterMap aR.bt ++ blk q.bc ++ blk q.ay) ++ ((blk q.ax) ++ (blk q.am ++ (q.ae.filterMap aC.bt ++ (blk q.aK ++ (q.ai.filterMap aU.bt))))):=by simp [af.blocks,List.append_assoc]
 have rN:({ q with ag:=l } :af).blocks=q.blocks:=by rfl
 have hnd:=h.nodup
 rw [hbs] at hnd
 have nc: ∀ g,(g∈(blk q.aN ++ q.procs.filterMap aR.bt ++ blk q.bc ++ blk q.ay)∨g∈(blk q.am ++ (q.ae.filterMap aC.bt ++ (blk q.aK ++ (q.ai.filterMap aU.bt)))))→g∉(blk q.ax):=fun g bR hA=>by
  obtain ⟨-,h2,h3⟩:=List.nodup_append.1 hnd
  obtain ⟨-,-,h4⟩:=List.nodup_append.1 h2
  rcases bR with bR | bR
  ·exact h3 g bR g (List.mem_append_left _ hA) rfl
  ·exact h4 g hA g bR rfl
 have hs: ∀ g,(g∈(blk q.aN ++ q.procs.filterMap aR.bt ++ blk q.bc ++ blk q.ay)∨g∈(blk q.am ++ (q.ae.filterMap aC.bt ++ (blk q.aK ++ (q.ai.filterMap aU.bt)))))→w'.heap[g]? =w.heap[g]? :=fun g bR=>hk.same g (h.lt g (by
  rw [hbs]
  rcases bR with bR | bR
  ·exact List.mem_append_left _ bR
  ·exact List.mem_append_right _ (List.mem_append_right _ bR))).2 (nc g bR)
 refine ⟨⟨aL h.procs fun g bR=>hs g (.inl (by simp [bR])),aL h.aj fun g bR=>hs g (.inl (by simp [bR])),aL h.events fun g bR=>hs g (.inl (by simp [bR])),(by rw [hl]; exact ho),aL h.ae fun g bR=>hs g (.inr (by simp [bR])),aL h.ai fun g bR=>hs g (.inr (by simp [bR])),fun y hy=>(h.eI y hy).same fun g hk=>hs g (.inl (by simp only [List.mem_append,List.mem_filterMap]; simp [dd hy hk])),fun y hy=>(h.eE y hy).same fun g hk=>hs g (.inr (by simp only [List.mem_append,List.mem_filterMap]; simp [dd hy hk])),fun y hy=>(h.eR y hy).same fun g hk=>hs g (.inr (by simp only [List.mem_append,List.mem_filterMap]; simp [dd hy hk])),?_⟩,rN⟩
 rw [rN]
 exact h.nodup
end Go.Proofs.YtkbcplnlehdjfaaGreat
