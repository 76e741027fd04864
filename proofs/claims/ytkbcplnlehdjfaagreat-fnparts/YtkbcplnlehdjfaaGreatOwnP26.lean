/- What the proof leans on, part 26. -/
import Derived.Test.YtkbcplnlehdjfaaGreatOwnP24
set_option maxRecDepth 100000
set_option maxHeartbeats 8000000
open List renaming append_assoc->Lm,mem_append->Kg,mem_append_left->Lz,mem_append_right->Ly,mem_filterMap->Lq,nodup_append->Kf

namespace Go.Proofs.YtkbcplnlehdjfaaGreat
open Go.RowKit
attribute [local go_sem ↓] Go.wp_at_zero Go.wp_at_succ
theorem ap.As {w w':World} {base:Nat} {q:af} {l:List ao} (h:ap w base q) (ho:w'.ownsRow base 43 12 (.slice q.aN q.L8.length q.aW) q.L8.length (bg.flat l)) (hl:l.length=q.L8.length) (hm: ∀ y∈l,aR.cO w' base y) (hki:l.filterMap aR.bt=q.L8.filterMap aR.bt) (hk:aI w w' (blk q.aN ++ q.L8.filterMap aR.bt)):
  ap w' base ({ q with L8:=l } :af)∧({ q with L8:=l } :af).Mc=q.Mc:=by
 have hbs:q.Mc= [] ++ ((blk q.aN ++ q.L8.filterMap aR.bt) ++ (blk q.bc ++ (blk q.ay ++ (blk q.ax ++ (blk q.am ++ (q.ae.filterMap aC.bt ++ (blk q.aK ++ (q.ai.filterMap aU.bt)))))))):=by simp [af.Mc,Lm]
 have rN:({ q with L8:=l } :af).Mc=q.Mc:=by simp only [af.Mc,hki]
 have hnd:=h.nodup;rw [hbs] at hnd;have nc: ∀ g,(g∈ [] ∨g∈(blk q.bc ++ (blk q.ay ++ (blk q.ax ++ (blk q.am ++ (q.ae.filterMap aC.bt ++ (blk q.aK ++ (q.ai.filterMap aU.bt))))))))→g∉(blk q.aN ++ q.L8.filterMap aR.bt):=fun g bR hA=>by
  obtain ⟨-,h2,h3⟩:=Kf.1 hnd;obtain ⟨-,-,h4⟩:=Kf.1 h2;rcases bR with bR | bR
  ·exact h3 g bR g (Lz _ hA) rfl
  ·exact h4 g hA g bR rfl
 have hs: ∀ g,(g∈ [] ∨g∈(blk q.bc ++ (blk q.ay ++ (blk q.ax ++ (blk q.am ++ (q.ae.filterMap aC.bt ++ (blk q.aK ++ (q.ai.filterMap aU.bt))))))))→w'.heap[g]? =w.heap[g]? :=fun g bR=>hk.same g (h.lt g (by
  rw [hbs];rcases bR with bR | bR
  ·exact Lz _ bR
  ·exact Ly _ (Ly _ bR))).2 (nc g bR)
 refine ⟨⟨(by rw [hl]; exact ho),aL h.aj fun g bR=>hs g (.inr (by simp [bR])),aL h.L9 fun g bR=>hs g (.inr (by simp [bR])),aL h.ag fun g bR=>hs g (.inr (by simp [bR])),aL h.ae fun g bR=>hs g (.inr (by simp [bR])),aL h.ai fun g bR=>hs g (.inr (by simp [bR])),hm,fun y hy=>(h.eE y hy).same fun g hk=>hs g (.inr (by simp only [Kg,Lq]; simp [dd hy hk])),fun y hy=>(h.eR y hy).same fun g hk=>hs g (.inr (by simp only [Kg,Lq]; simp [dd hy hk])),?_⟩,rN⟩;rw [rN];exact h.nodup
theorem ap.DT {w w':World} {base:Nat} {q:af} {l:List bD} (h:ap w base q) (ho:w'.ownsRow base 49 3 (.slice q.bc q.aj.length q.bF) q.aj.length (dm.flat l)) (hl:l.length=q.aj.length) (hk:aI w w' (blk q.bc)):
  ap w' base ({ q with aj:=l } :af)∧({ q with aj:=l } :af).Mc=q.Mc:=by
 have hbs:q.Mc=(blk q.aN ++ q.L8.filterMap aR.bt) ++ ((blk q.bc) ++ (blk q.ay ++ (blk q.ax ++ (blk q.am ++ (q.ae.filterMap aC.bt ++ (blk q.aK ++ (q.ai.filterMap aU.bt))))))):=by simp [af.Mc,Lm]
 have rN:({ q with aj:=l } :af).Mc=q.Mc:=by rfl
 have hnd:=h.nodup;rw [hbs] at hnd;have nc: ∀ g,(g∈(blk q.aN ++ q.L8.filterMap aR.bt)∨g∈(blk q.ay ++ (blk q.ax ++ (blk q.am ++ (q.ae.filterMap aC.bt ++ (blk q.aK ++ (q.ai.filterMap aU.bt)))))))→g∉(blk q.bc):=fun g bR hA=>by
  obtain ⟨-,h2,h3⟩:=Kf.1 hnd;obtain ⟨-,-,h4⟩:=Kf.1 h2;rcases bR with bR | bR
  ·exact h3 g bR g (Lz _ hA) rfl
  ·exact h4 g hA g bR rfl
 have hs: ∀ g,(g∈(blk q.aN ++ q.L8.filterMap aR.bt)∨g∈(blk q.ay ++ (blk q.ax ++ (blk q.am ++ (q.ae.filterMap aC.bt ++ (blk q.aK ++ (q.ai.filterMap aU.bt)))))))→w'.heap[g]? =w.heap[g]? :=fun g bR=>hk.same g (h.lt g (by
  rw [hbs];rcases bR with bR | bR
  ·exact Lz _ bR
  ·exact Ly _ (Ly _ bR))).2 (nc g bR)
 refine ⟨⟨aL h.L8 fun g bR=>hs g (.inl (by simp [bR])),(by rw [hl]; exact ho),aL h.L9 fun g bR=>hs g (.inr (by simp [bR])),aL h.ag fun g bR=>hs g (.inr (by simp [bR])),aL h.ae fun g bR=>hs g (.inr (by simp [bR])),aL h.ai fun g bR=>hs g (.inr (by simp [bR])),fun y hy=>(h.eI y hy).same fun g hk=>hs g (.inl (by simp only [Kg,Lq]; simp [dd hy hk])),fun y hy=>(h.eE y hy).same fun g hk=>hs g (.inr (by simp only [Kg,Lq]; simp [dd hy hk])),fun y hy=>(h.eR y hy).same fun g hk=>hs g (.inr (by simp only [Kg,Lq]; simp [dd hy hk])),?_⟩,rN⟩;rw [rN];exact h.nodup
theorem ap.xA {w w':World} {base:Nat} {q:af} {l:List aB} (h:ap w base q) (ho:w'.ownsRow base 138 2 (.slice q.ay q.L9.length q.aO) q.L9.length (bJ.flat l)) (hl:l.length=q.L9.length) (hk:aI w w' (blk q.ay)):
  ap w' base ({ q with L9:=l } :af)∧({ q with L9:=l } :af).Mc=q.Mc:=by
 have hbs:q.Mc=(blk q.aN ++ q.L8.filterMap aR.bt ++ blk q.bc) ++ ((blk q.ay) ++ (blk q.ax ++ (blk q.am ++ (q.ae.filterMap aC.bt ++ (blk q.aK ++ (q.ai.filterMap aU.bt)))))):=by simp [af.Mc,Lm]
 have rN:({ q with L9:=l } :af).Mc=q.Mc:=by rfl
 have hnd:=h.nodup;rw [hbs] at hnd;have nc: ∀ g,(g∈(blk q.aN ++ q.L8.filterMap aR.bt ++ blk q.bc)∨g∈(blk q.ax ++ (blk q.am ++ (q.ae.filterMap aC.bt ++ (blk q.aK ++ (q.ai.filterMap aU.bt))))))→g∉(blk q.ay):=fun g bR hA=>by
  obtain ⟨-,h2,h3⟩:=Kf.1 hnd;obtain ⟨-,-,h4⟩:=Kf.1 h2;rcases bR with bR | bR
  ·exact h3 g bR g (Lz _ hA) rfl
  ·exact h4 g hA g bR rfl
 have hs: ∀ g,(g∈(blk q.aN ++ q.L8.filterMap aR.bt ++ blk q.bc)∨g∈(blk q.ax ++ (blk q.am ++ (q.ae.filterMap aC.bt ++ (blk q.aK ++ (q.ai.filterMap aU.bt))))))→w'.heap[g]? =w.heap[g]? :=fun g bR=>hk.same g (h.lt g (by
  rw [hbs];rcases bR with bR | bR
  ·exact Lz _ bR
  ·exact Ly _ (Ly _ bR))).2 (nc g bR)
 refine ⟨⟨aL h.L8 fun g bR=>hs g (.inl (by simp [bR])),aL h.aj fun g bR=>hs g (.inl (by simp [bR])),(by rw [hl]; exact ho),aL h.ag fun g bR=>hs g (.inr (by simp [bR])),aL h.ae fun g bR=>hs g (.inr (by simp [bR])),aL h.ai fun g bR=>hs g (.inr (by simp [bR])),fun y hy=>(h.eI y hy).same fun g hk=>hs g (.inl (by simp only [Kg,Lq]; simp [dd hy hk])),fun y hy=>(h.eE y hy).same fun g hk=>hs g (.inr (by simp only [Kg,Lq]; simp [dd hy hk])),fun y hy=>(h.eR y hy).same fun g hk=>hs g (.inr (by simp only [Kg,Lq]; simp [dd hy hk])),?_⟩,rN⟩;rw [rN];exact h.nodup
theorem ap.xM {w w':World} {base:Nat} {q:af} {l:List az} (h:ap w base q) (ho:w'.ownsRow base 141 3 (.slice q.ax q.ag.length q.aP) q.ag.length (bG.flat l)) (hl:l.length=q.ag.length) (hk:aI w w' (blk q.ax)):
  ap w' base ({ q with ag:=l } :af)∧({ q with ag:=l } :af).Mc=q.Mc:=by
 have hbs:q.Mc=(blk q.aN ++ q.L8.filterMap aR.bt ++ blk q.bc ++ blk q.ay) ++ ((blk q.ax) ++ (blk q.am ++ (q.ae.filterMap aC.bt ++ (blk q.aK ++ (q.ai.filterMap aU.bt))))):=by simp [af.Mc,Lm]
 have rN:({ q with ag:=l } :af).Mc=q.Mc:=by rfl
 have hnd:=h.nodup;rw [hbs] at hnd;have nc: ∀ g,(g∈(blk q.aN ++ q.L8.filterMap aR.bt ++ blk q.bc ++ blk q.ay)∨g∈(blk q.am ++ (q.ae.filterMap aC.bt ++ (blk q.aK ++ (q.ai.filterMap aU.bt)))))→g∉(blk q.ax):=fun g bR hA=>by
  obtain ⟨-,h2,h3⟩:=Kf.1 hnd;obtain ⟨-,-,h4⟩:=Kf.1 h2;rcases bR with bR | bR
  ·exact h3 g bR g (Lz _ hA) rfl
  ·exact h4 g hA g bR rfl
 have hs: ∀ g,(g∈(blk q.aN ++ q.L8.filterMap aR.bt ++ blk q.bc ++ blk q.ay)∨g∈(blk q.am ++ (q.ae.filterMap aC.bt ++ (blk q.aK ++ (q.ai.filterMap aU.bt)))))→w'.heap[g]? =w.heap[g]? :=fun g bR=>hk.same g (h.lt g (by
  rw [hbs];rcases bR with bR | bR
  ·exact Lz _ bR
  ·exact Ly _ (Ly _ bR))).2 (nc g bR)
 refine ⟨⟨aL h.L8 fun g bR=>hs g (.inl (by simp [bR])),aL h.aj fun g bR=>hs g (.inl (by simp [bR])),aL h.L9 fun g bR=>hs g (.inl (by simp [bR])),(by rw [hl]; exact ho),aL h.ae fun g bR=>hs g (.inr (by simp [bR])),aL h.ai fun g bR=>hs g (.inr (by simp [bR])),fun y hy=>(h.eI y hy).same fun g hk=>hs g (.inl (by simp only [Kg,Lq]; simp [dd hy hk])),fun y hy=>(h.eE y hy).same fun g hk=>hs g (.inr (by simp only [Kg,Lq]; simp [dd hy hk])),fun y hy=>(h.eR y hy).same fun g hk=>hs g (.inr (by simp only [Kg,Lq]; simp [dd hy hk])),?_⟩,rN⟩;rw [rN];exact h.nodup
end Go.Proofs.YtkbcplnlehdjfaaGreat
