/- What the proof leans on, part 9. -/
import Derived.Test.YteidkehoekbcaaaGreatOwnP8
set_option maxRecDepth 100000
set_option maxHeartbeats 8000000
open Array renaming getElem?_eq_some_iff->J2
open Go renaming heap_alloc_new->Kj
open Go.Proofs.Tryz renaming prog->J3
open Go.RowKit.Below renaming refl->Kp
open List renaming append_assoc->Lm,mem_append->Kg,mem_append_left->Lz,mem_append_right->Ly,mem_filterMap->Lq,nodup_append->Kf
open Nat renaming le_refl->Ki

namespace Go.Proofs.YteidkehoekbcaaaGreat
open Go.RowKit
attribute [local go_sem ↓] Go.wp_at_zero Go.wp_at_succ
theorem pr {α:Type} {N:gd α} {f:Int→α→α} {c:α→Nat} (h: ∀ k x,N.bt (f k x)=N.bt x): ∀ (k:Int) (l:List α),(aJ f c k l).filterMap N.bt=l.filterMap N.bt
 | _,[] =>rfl
 | k,x :: r=>by simp only [aJ,List.filterMap_cons,h,pr h (k+c x) r]
theorem ap.As {w w':World} {base:Nat} {q:af} {l:List ao} (h:ap w base q) (ho:w'.ownsRow base 148 12 (.slice q.aN q.L8.length q.aW) q.L8.length (bg.flat l)) (hl:l.length=q.L8.length) (hm: ∀ y∈l,aR.cO w' base y) (hki:l.filterMap aR.bt=q.L8.filterMap aR.bt) (hk:aI w w' (blk q.aN ++ q.L8.filterMap aR.bt)):
  ap w' base ({ q with L8:=l } :af)∧({ q with L8:=l } :af).Mc=q.Mc:=by
 have hbs:q.Mc= [] ++ ((blk q.aN ++ q.L8.filterMap aR.bt) ++ (blk q.bc ++ (blk q.ay ++ (blk q.ax ++ (blk q.am ++ (q.ae.filterMap aC.bt ++ (blk q.aK ++ (q.ai.filterMap aU.bt)))))))):=by simp [af.Mc,Lm]
 have rN:({ q with L8:=l } :af).Mc=q.Mc:=by simp only [af.Mc,hki]
 have hnd:=h.nodup;rw [hbs] at hnd;have nc: ∀ g,(g∈ [] ∨g∈(blk q.bc ++ (blk q.ay ++ (blk q.ax ++ (blk q.am ++ (q.ae.filterMap aC.bt ++ (blk q.aK ++ (q.ai.filterMap aU.bt))))))))→g∉(blk q.aN ++ q.L8.filterMap aR.bt):=fun g bR hA=>by
  obtain ⟨-,h2,h3⟩:=Kf.1 hnd;obtain ⟨-,-,h4⟩:=Kf.1 h2;rcases bR with bR | bR
  ·exact h3 g bR g (Lz _ hA) rfl
  ·exact h4 g hA g bR rfl
 have hs: ∀ g,(g∈ [] ∨g∈(blk q.bc ++ (blk q.ay ++ (blk q.ax ++ (blk q.am ++ (q.ae.filterMap aC.bt ++ (blk q.aK ++ (q.ai.filterMap aU.bt))))))))→w'.heap[g]? =w.heap[g]? :=fun g bR=>hk.same g (h.lt g (by
  rw [hbs];rcases bR with bR | bR
  ·exact Lz _ bR
  ·exact Ly _ (Ly _ bR))).2 (nc g bR)
 refine ⟨⟨(by rw [hl]; exact ho),aL h.aj fun g bR=>hs g (.inr (by simp [bR])),aL h.L9 fun g bR=>hs g (.inr (by simp [bR])),aL h.ag fun g bR=>hs g (.inr (by simp [bR])),aL h.ae fun g bR=>hs g (.inr (by simp [bR])),aL h.ai fun g bR=>hs g (.inr (by simp [bR])),hm,fun y hy=>(h.eE y hy).same fun g hk=>hs g (.inr (by simp only [Kg,Lq]; simp [dd hy hk])),fun y hy=>(h.eR y hy).same fun g hk=>hs g (.inr (by simp only [Kg,Lq]; simp [dd hy hk])),?_⟩,rN⟩;rw [rN];exact h.nodup
theorem ap.DT {w w':World} {base:Nat} {q:af} {l:List bD} (h:ap w base q) (ho:w'.ownsRow base 184 3 (.slice q.bc q.aj.length q.bF) q.aj.length (dm.flat l)) (hl:l.length=q.aj.length) (hk:aI w w' (blk q.bc)):
  ap w' base ({ q with aj:=l } :af)∧({ q with aj:=l } :af).Mc=q.Mc:=by
 have hbs:q.Mc=(blk q.aN ++ q.L8.filterMap aR.bt) ++ ((blk q.bc) ++ (blk q.ay ++ (blk q.ax ++ (blk q.am ++ (q.ae.filterMap aC.bt ++ (blk q.aK ++ (q.ai.filterMap aU.bt))))))):=by simp [af.Mc,Lm]
 have rN:({ q with aj:=l } :af).Mc=q.Mc:=by rfl
 have hnd:=h.nodup;rw [hbs] at hnd;have nc: ∀ g,(g∈(blk q.aN ++ q.L8.filterMap aR.bt)∨g∈(blk q.ay ++ (blk q.ax ++ (blk q.am ++ (q.ae.filterMap aC.bt ++ (blk q.aK ++ (q.ai.filterMap aU.bt)))))))→g∉(blk q.bc):=fun g bR hA=>by
  obtain ⟨-,h2,h3⟩:=Kf.1 hnd;obtain ⟨-,-,h4⟩:=Kf.1 h2;rcases bR with bR | bR
  ·exact h3 g bR g (Lz _ hA) rfl
  ·exact h4 g hA g bR rfl
 have hs: ∀ g,(g∈(blk q.aN ++ q.L8.filterMap aR.bt)∨g∈(blk q.ay ++ (blk q.ax ++ (blk q.am ++ (q.ae.filterMap aC.bt ++ (blk q.aK ++ (q.ai.filterMap aU.bt)))))))→w'.heap[g]? =w.heap[g]? :=fun g bR=>hk.same g (h.lt g (by
  rw [hbs];rcases bR with bR | bR
  ·exact Lz _ bR
  ·exact Ly _ (Ly _ bR))).2 (nc g bR)
 refine ⟨⟨aL h.L8 fun g bR=>hs g (.inl (by simp [bR])),(by rw [hl]; exact ho),aL h.L9 fun g bR=>hs g (.inr (by simp [bR])),aL h.ag fun g bR=>hs g (.inr (by simp [bR])),aL h.ae fun g bR=>hs g (.inr (by simp [bR])),aL h.ai fun g bR=>hs g (.inr (by simp [bR])),fun y hy=>(h.eI y hy).same fun g hk=>hs g (.inl (by simp only [Kg,Lq]; simp [dd hy hk])),fun y hy=>(h.eE y hy).same fun g hk=>hs g (.inr (by simp only [Kg,Lq]; simp [dd hy hk])),fun y hy=>(h.eR y hy).same fun g hk=>hs g (.inr (by simp only [Kg,Lq]; simp [dd hy hk])),?_⟩,rN⟩;rw [rN];exact h.nodup
theorem ap.xA {w w':World} {base:Nat} {q:af} {l:List aB} (h:ap w base q) (ho:w'.ownsRow base 187 2 (.slice q.ay q.L9.length q.aO) q.L9.length (bJ.flat l)) (hl:l.length=q.L9.length) (hk:aI w w' (blk q.ay)):
  ap w' base ({ q with L9:=l } :af)∧({ q with L9:=l } :af).Mc=q.Mc:=by
 have hbs:q.Mc=(blk q.aN ++ q.L8.filterMap aR.bt ++ blk q.bc) ++ ((blk q.ay) ++ (blk q.ax ++ (blk q.am ++ (q.ae.filterMap aC.bt ++ (blk q.aK ++ (q.ai.filterMap aU.bt)))))):=by simp [af.Mc,Lm]
 have rN:({ q with L9:=l } :af).Mc=q.Mc:=by rfl
 have hnd:=h.nodup;rw [hbs] at hnd;have nc: ∀ g,(g∈(blk q.aN ++ q.L8.filterMap aR.bt ++ blk q.bc)∨g∈(blk q.ax ++ (blk q.am ++ (q.ae.filterMap aC.bt ++ (blk q.aK ++ (q.ai.filterMap aU.bt))))))→g∉(blk q.ay):=fun g bR hA=>by
  obtain ⟨-,h2,h3⟩:=Kf.1 hnd;obtain ⟨-,-,h4⟩:=Kf.1 h2;rcases bR with bR | bR
  ·exact h3 g bR g (Lz _ hA) rfl
  ·exact h4 g hA g bR rfl
 have hs: ∀ g,(g∈(blk q.aN ++ q.L8.filterMap aR.bt ++ blk q.bc)∨g∈(blk q.ax ++ (blk q.am ++ (q.ae.filterMap aC.bt ++ (blk q.aK ++ (q.ai.filterMap aU.bt))))))→w'.heap[g]? =w.heap[g]? :=fun g bR=>hk.same g (h.lt g (by
  rw [hbs];rcases bR with bR | bR
  ·exact Lz _ bR
  ·exact Ly _ (Ly _ bR))).2 (nc g bR)
 refine ⟨⟨aL h.L8 fun g bR=>hs g (.inl (by simp [bR])),aL h.aj fun g bR=>hs g (.inl (by simp [bR])),(by rw [hl]; exact ho),aL h.ag fun g bR=>hs g (.inr (by simp [bR])),aL h.ae fun g bR=>hs g (.inr (by simp [bR])),aL h.ai fun g bR=>hs g (.inr (by simp [bR])),fun y hy=>(h.eI y hy).same fun g hk=>hs g (.inl (by simp only [Kg,Lq]; simp [dd hy hk])),fun y hy=>(h.eE y hy).same fun g hk=>hs g (.inr (by simp only [Kg,Lq]; simp [dd hy hk])),fun y hy=>(h.eR y hy).same fun g hk=>hs g (.inr (by simp only [Kg,Lq]; simp [dd hy hk])),?_⟩,rN⟩;rw [rN];exact h.nodup
theorem ap.xM {w w':World} {base:Nat} {q:af} {l:List az} (h:ap w base q) (ho:w'.ownsRow base 190 3 (.slice q.ax q.ag.length q.aP) q.ag.length (bG.flat l)) (hl:l.length=q.ag.length) (hk:aI w w' (blk q.ax)):
  ap w' base ({ q with ag:=l } :af)∧({ q with ag:=l } :af).Mc=q.Mc:=by
 have hbs:q.Mc=(blk q.aN ++ q.L8.filterMap aR.bt ++ blk q.bc ++ blk q.ay) ++ ((blk q.ax) ++ (blk q.am ++ (q.ae.filterMap aC.bt ++ (blk q.aK ++ (q.ai.filterMap aU.bt))))):=by simp [af.Mc,Lm]
 have rN:({ q with ag:=l } :af).Mc=q.Mc:=by rfl
 have hnd:=h.nodup;rw [hbs] at hnd;have nc: ∀ g,(g∈(blk q.aN ++ q.L8.filterMap aR.bt ++ blk q.bc ++ blk q.ay)∨g∈(blk q.am ++ (q.ae.filterMap aC.bt ++ (blk q.aK ++ (q.ai.filterMap aU.bt)))))→g∉(blk q.ax):=fun g bR hA=>by
  obtain ⟨-,h2,h3⟩:=Kf.1 hnd;obtain ⟨-,-,h4⟩:=Kf.1 h2;rcases bR with bR | bR
  ·exact h3 g bR g (Lz _ hA) rfl
  ·exact h4 g hA g bR rfl
 have hs: ∀ g,(g∈(blk q.aN ++ q.L8.filterMap aR.bt ++ blk q.bc ++ blk q.ay)∨g∈(blk q.am ++ (q.ae.filterMap aC.bt ++ (blk q.aK ++ (q.ai.filterMap aU.bt)))))→w'.heap[g]? =w.heap[g]? :=fun g bR=>hk.same g (h.lt g (by
  rw [hbs];rcases bR with bR | bR
  ·exact Lz _ bR
  ·exact Ly _ (Ly _ bR))).2 (nc g bR)
 refine ⟨⟨aL h.L8 fun g bR=>hs g (.inl (by simp [bR])),aL h.aj fun g bR=>hs g (.inl (by simp [bR])),aL h.L9 fun g bR=>hs g (.inl (by simp [bR])),(by rw [hl]; exact ho),aL h.ae fun g bR=>hs g (.inr (by simp [bR])),aL h.ai fun g bR=>hs g (.inr (by simp [bR])),fun y hy=>(h.eI y hy).same fun g hk=>hs g (.inl (by simp only [Kg,Lq]; simp [dd hy hk])),fun y hy=>(h.eE y hy).same fun g hk=>hs g (.inr (by simp only [Kg,Lq]; simp [dd hy hk])),fun y hy=>(h.eR y hy).same fun g hk=>hs g (.inr (by simp only [Kg,Lq]; simp [dd hy hk])),?_⟩,rN⟩;rw [rN];exact h.nodup
theorem ap.CJ {w w':World} {base:Nat} {q:af} {l:List au} (h:ap w base q) (ho:w'.ownsRow base 160 3 (.slice q.am q.ae.length q.aG) q.ae.length (bm.flat l)) (hl:l.length=q.ae.length) (hm: ∀ y∈l,aC.cO w' base y) (hki:l.filterMap aC.bt=q.ae.filterMap aC.bt) (hk:aI w w' (blk q.am ++ q.ae.filterMap aC.bt)):
  ap w' base ({ q with ae:=l } :af)∧({ q with ae:=l } :af).Mc=q.Mc:=by
 have hbs:q.Mc=(blk q.aN ++ q.L8.filterMap aR.bt ++ blk q.bc ++ blk q.ay ++ blk q.ax) ++ ((blk q.am ++ q.ae.filterMap aC.bt) ++ (blk q.aK ++ (q.ai.filterMap aU.bt))):=by simp [af.Mc,Lm]
 have rN:({ q with ae:=l } :af).Mc=q.Mc:=by simp only [af.Mc,hki]
 have hnd:=h.nodup;rw [hbs] at hnd;have nc: ∀ g,(g∈(blk q.aN ++ q.L8.filterMap aR.bt ++ blk q.bc ++ blk q.ay ++ blk q.ax)∨g∈(blk q.aK ++ (q.ai.filterMap aU.bt)))→g∉(blk q.am ++ q.ae.filterMap aC.bt):=fun g bR hA=>by
  obtain ⟨-,h2,h3⟩:=Kf.1 hnd;obtain ⟨-,-,h4⟩:=Kf.1 h2;rcases bR with bR | bR
  ·exact h3 g bR g (Lz _ hA) rfl
  ·exact h4 g hA g bR rfl
 have hs: ∀ g,(g∈(blk q.aN ++ q.L8.filterMap aR.bt ++ blk q.bc ++ blk q.ay ++ blk q.ax)∨g∈(blk q.aK ++ (q.ai.filterMap aU.bt)))→w'.heap[g]? =w.heap[g]? :=fun g bR=>hk.same g (h.lt g (by
  rw [hbs];rcases bR with bR | bR
  ·exact Lz _ bR
  ·exact Ly _ (Ly _ bR))).2 (nc g bR)
 refine ⟨⟨aL h.L8 fun g bR=>hs g (.inl (by simp [bR])),aL h.aj fun g bR=>hs g (.inl (by simp [bR])),aL h.L9 fun g bR=>hs g (.inl (by simp [bR])),aL h.ag fun g bR=>hs g (.inl (by simp [bR])),(by rw [hl]; exact ho),aL h.ai fun g bR=>hs g (.inr (by simp [bR])),fun y hy=>(h.eI y hy).same fun g hk=>hs g (.inl (by simp only [Kg,Lq]; simp [dd hy hk])),hm,fun y hy=>(h.eR y hy).same fun g hk=>hs g (.inr (by simp only [Kg,Lq]; simp [dd hy hk])),?_⟩,rN⟩;rw [rN];exact h.nodup
theorem ap.Gu {w w':World} {base:Nat} {q:af} {l:List aM} (h:ap w base q) (ho:w'.ownsRow base 85 5 (.slice q.aK q.ai.length q.aV) q.ai.length (bX.flat l)) (hl:l.length=q.ai.length) (hm: ∀ y∈l,aU.cO w' base y) (hki:l.filterMap aU.bt=q.ai.filterMap aU.bt) (hk:aI w w' (blk q.aK ++ q.ai.filterMap aU.bt)):
  ap w' base ({ q with ai:=l } :af)∧({ q with ai:=l } :af).Mc=q.Mc:=by
 have hbs:q.Mc=(blk q.aN ++ q.L8.filterMap aR.bt ++ blk q.bc ++ blk q.ay ++ blk q.ax ++ blk q.am ++ q.ae.filterMap aC.bt) ++ ((blk q.aK ++ q.ai.filterMap aU.bt) ++ []):=by simp [af.Mc,Lm]
 have rN:({ q with ai:=l } :af).Mc=q.Mc:=by simp only [af.Mc,hki]
 have hnd:=h.nodup;rw [hbs] at hnd;have nc: ∀ g,(g∈(blk q.aN ++ q.L8.filterMap aR.bt ++ blk q.bc ++ blk q.ay ++ blk q.ax ++ blk q.am ++ q.ae.filterMap aC.bt)∨g∈ [])→g∉(blk q.aK ++ q.ai.filterMap aU.bt):=fun g bR hA=>by
  obtain ⟨-,h2,h3⟩:=Kf.1 hnd;obtain ⟨-,-,h4⟩:=Kf.1 h2;rcases bR with bR | bR
  ·exact h3 g bR g (Lz _ hA) rfl
  ·exact h4 g hA g bR rfl
 have hs: ∀ g,(g∈(blk q.aN ++ q.L8.filterMap aR.bt ++ blk q.bc ++ blk q.ay ++ blk q.ax ++ blk q.am ++ q.ae.filterMap aC.bt)∨g∈ [])→w'.heap[g]? =w.heap[g]? :=fun g bR=>hk.same g (h.lt g (by
  rw [hbs];rcases bR with bR | bR
  ·exact Lz _ bR
  ·exact Ly _ (Ly _ bR))).2 (nc g bR)
 refine ⟨⟨aL h.L8 fun g bR=>hs g (.inl (by simp [bR])),aL h.aj fun g bR=>hs g (.inl (by simp [bR])),aL h.L9 fun g bR=>hs g (.inl (by simp [bR])),aL h.ag fun g bR=>hs g (.inl (by simp [bR])),aL h.ae fun g bR=>hs g (.inl (by simp [bR])),(by rw [hl]; exact ho),fun y hy=>(h.eI y hy).same fun g hk=>hs g (.inl (by simp only [Kg,Lq]; simp [dd hy hk])),fun y hy=>(h.eE y hy).same fun g hk=>hs g (.inl (by simp only [Kg,Lq]; simp [dd hy hk])),hm,?_⟩,rN⟩;rw [rN];exact h.nodup
def fb (p:af):Nat:=aF bj p.L8+aF (fun _=>3) p.aj+aF (fun _=>2) p.L9+aF (fun _=>3) p.ag+aF bN p.ae+aF eo p.ai
def nF (k:Int) (p:af):af:= { p with L8:=aJ cw bj (k) p.L8,aj:=aJ hJ (fun _=>3) (k+(aF bj p.L8:Nat)) p.aj,L9:=aJ eM (fun _=>2) (k+(aF bj p.L8:Nat)+(aF (fun _=>3) p.aj:Nat)) p.L9,ag:=aJ dZ (fun _=>3) (k+(aF bj p.L8:Nat)+(aF (fun _=>3) p.aj:Nat)+(aF (fun _=>2) p.L9:Nat)) p.ag,ae:=aJ dy bN (k+(aF bj p.L8:Nat)+(aF (fun _=>3) p.aj:Nat)+(aF (fun _=>2) p.L9:Nat)+(aF (fun _=>3) p.ag:Nat)) p.ae,ai:=aJ fU eo (k+(aF bj p.L8:Nat)+(aF (fun _=>3) p.aj:Nat)+(aF (fun _=>2) p.L9:Nat)+(aF (fun _=>3) p.ag:Nat)+(aF bN p.ae:Nat)) p.ai }
structure af.WN (p:af):Prop where
 dl:p.L8.length≤1048576
 fx:p.aj.length≤1048576
 cD:p.L9.length≤1048576
 cC:p.ag.length≤1048576
 cb:p.ae.length≤1048576
 dH:p.ai.length≤1048576
 L8: ∀ x∈p.L8,x.prog.length≤1048576
 ae: ∀ x∈p.ae,x.Ma.length≤1048576
 ai: ∀ x∈p.ai,x.Ma.length≤1048576
theorem WG (p:af) (k:Int) (w:World) (base:Nat) (hc:p.WN) (h0:1≤k) (h1:k+(fb p:Nat)≤90000000) (ho:ap w base p):
  Calls J3 17 #[.agg p.cells,.int .i64 k] w fun e w'=>e= .returned (.int .i64 (k+(fb p:Nat)))∧ap w' base (nF k p)∧aI w w' p.Mc:=by
 have HC:Hid (p.WN∧k+(fb p:Nat)≤90000000):=⟨hc,h1⟩
 have HX:Hid (av (w.alloc (.cells p.row 48)) w.heap.size p∧ap (w.alloc (.cells p.row 48)) base p∧aI w (w.alloc (.cells p.row 48)) p.Mc):=⟨Kj _ _,ho.below ((Kp _ _).alloc (Ki _) _),aI.dI ((Kp _ _).alloc (Ki _) _)⟩
 have HB:Hid (∀ g∈p.Mc,g < w.heap.size):=fun g hg=>(ho.lt g hg).2
 have q0:1≤k∧k+(aF bj p.L8:Nat)≤90000000:=by have:=h1; unfold fb at this; omega
 have q1:1≤k+(aF bj p.L8:Nat)∧k+(aF bj p.L8:Nat)+(aF (fun _=>3) p.aj:Nat)≤90000000:=by have:=h1; unfold fb at this; omega
 have q2:1≤k+(aF bj p.L8:Nat)+(aF (fun _=>3) p.aj:Nat)∧k+(aF bj p.L8:Nat)+(aF (fun _=>3) p.aj:Nat)+(aF (fun _=>2) p.L9:Nat)≤90000000:=by have:=h1; unfold fb at this; omega
 have q3:1≤k+(aF bj p.L8:Nat)+(aF (fun _=>3) p.aj:Nat)+(aF (fun _=>2) p.L9:Nat)∧k+(aF bj p.L8:Nat)+(aF (fun _=>3) p.aj:Nat)+(aF (fun _=>2) p.L9:Nat)+(aF (fun _=>3) p.ag:Nat)≤90000000:=by have:=h1; unfold fb at this; omega
 have q4:1≤k+(aF bj p.L8:Nat)+(aF (fun _=>3) p.aj:Nat)+(aF (fun _=>2) p.L9:Nat)+(aF (fun _=>3) p.ag:Nat)∧k+(aF bj p.L8:Nat)+(aF (fun _=>3) p.aj:Nat)+(aF (fun _=>2) p.L9:Nat)+(aF (fun _=>3) p.ag:Nat)+(aF bN p.ae:Nat)≤90000000:=by have:=h1; unfold fb at this; omega
 have q5:1≤k+(aF bj p.L8:Nat)+(aF (fun _=>3) p.aj:Nat)+(aF (fun _=>2) p.L9:Nat)+(aF (fun _=>3) p.ag:Nat)+(aF bN p.ae:Nat)∧k+(aF bj p.L8:Nat)+(aF (fun _=>3) p.aj:Nat)+(aF (fun _=>2) p.L9:Nat)+(aF (fun _=>3) p.ag:Nat)+(aF bN p.ae:Nat)+(aF eo p.ai:Nat)≤90000000:=by have:=h1; unfold fb at this; omega
 clear hc h1 ho;unfold af.cells
 go_enter Tryz.func17,Tryz.ntmps17
 go_wp2_with fail;generalize w.alloc (.cells p.row 48)=W0 at *;refine (BB p.aN p.L8 p.aW (k) W0 base HC.I.1.dl HC.I.1.L8 q0.1 q0.2 HX.I.2.1.L8 HX.I.2.1.eI (by
  have h5:=HX.I.2.1.nodup;have h6:af.Mc p=p.Mc:=rfl;rw [h6,show p.Mc= [] ++ ((blk p.aN ++ p.L8.filterMap aR.bt) ++ (blk p.bc ++ (blk p.ay ++ (blk p.ax ++ (blk p.am ++ (p.ae.filterMap aC.bt ++ (blk p.aK ++ (p.ai.filterMap aU.bt)))))))) by simp [af.Mc,Lm]] at h5;exact (Kf.1 (Kf.1 h5).2.1).1)).mono ?_
 rintro e W1 ⟨rfl,how,Ji,hkb⟩;have ht:=HX.I.2.1.As how (bE _ _ _ _) Ji (pr (N:=aR) (f:=cw) (c:=bj) (fun _ _=>rfl) _ _) hkb;have HQ1:Hid (af.Mc ({ p with L8:=aJ cw bj (k) p.L8 } :af)=p.Mc):=ht.2.trans rfl;have hsub: ∀ g∈blk p.aN ++ p.L8.filterMap aR.bt,g∈p.Mc:=fun g hg=>by rw [show p.Mc= [] ++ ((blk p.aN ++ p.L8.filterMap aR.bt) ++ (blk p.bc ++ (blk p.ay ++ (blk p.ax ++ (blk p.am ++ (p.ae.filterMap aC.bt ++ (blk p.aK ++ (p.ai.filterMap aU.bt)))))))) by simp [af.Mc,Lm]]; exact Ly _ (Lz _ hg)
 have hpb:w.heap.size∉p.Mc:=fun hm=>by have:=HB.I _ hm; omega
 have HY:Hid (av W1 w.heap.size p∧ap W1 base ({ p with L8:=aJ cw bj (k) p.L8 } :af)∧aI w W1 p.Mc):=⟨(hkb.same _ (J2.1 HX.I.1).1 fun hm=>hpb (hsub _ hm)).trans HX.I.1,ht.1,HX.I.2.2.trans (hkb.mono hsub)⟩
 clear HX how hkb ht hsub hpb Ji;have HX:=HY;clear HY;have m0:W1.cell? ⟨w.heap.size,3,none⟩=some (.slice p.bc p.aj.length p.bF):=by have:=HX.I.1; unfold av at this; simp [World.cell?,this]
 go_wp2_with fail;clear m0;refine (CF p.bc p.aj p.bF (k+(aF bj p.L8:Nat)) W1 base HC.I.1.fx q1.1 q1.2 HX.I.2.1.aj).mono ?_;rintro e W2 ⟨rfl,how,hkb⟩;have ht:=HX.I.2.1.DT how (bE _ _ _ _) hkb;have ky:Hid (af.Mc ({ p with L8:=aJ cw bj (k) p.L8,aj:=aJ hJ (fun _=>3) (k+(aF bj p.L8:Nat)) p.aj } :af)=p.Mc):=ht.2.trans HQ1.I;have hsub: ∀ g∈blk p.bc,g∈p.Mc:=fun g hg=>by rw [show p.Mc=(blk p.aN ++ p.L8.filterMap aR.bt) ++ ((blk p.bc) ++ (blk p.ay ++ (blk p.ax ++ (blk p.am ++ (p.ae.filterMap aC.bt ++ (blk p.aK ++ (p.ai.filterMap aU.bt))))))) by simp [af.Mc,Lm]]; exact Ly _ (Lz _ hg)
 have hpb:w.heap.size∉p.Mc:=fun hm=>by have:=HB.I _ hm; omega
 have HY:Hid (av W2 w.heap.size p∧ap W2 base ({ p with L8:=aJ cw bj (k) p.L8,aj:=aJ hJ (fun _=>3) (k+(aF bj p.L8:Nat)) p.aj } :af)∧aI w W2 p.Mc):=⟨(hkb.same _ (J2.1 HX.I.1).1 fun hm=>hpb (hsub _ hm)).trans HX.I.1,ht.1,HX.I.2.2.trans (hkb.mono hsub)⟩
 clear HX how hkb ht hsub hpb;have HX:=HY;clear HY;have m1:W2.cell? ⟨w.heap.size,4,none⟩=some (.slice p.ay p.L9.length p.aO):=by have:=HX.I.1; unfold av at this; simp [World.cell?,this]
 go_wp2_with fail;clear m1;refine (zw p.ay p.L9 p.aO (k+(aF bj p.L8:Nat)+(aF (fun _=>3) p.aj:Nat)) W2 base HC.I.1.cD q2.1 q2.2 HX.I.2.1.L9).mono ?_;rintro e W3 ⟨rfl,how,hkb⟩;have ht:=HX.I.2.1.xA how (bE _ _ _ _) hkb;have Ck:Hid (af.Mc ({ p with L8:=aJ cw bj (k) p.L8,aj:=aJ hJ (fun _=>3) (k+(aF bj p.L8:Nat)) p.aj,L9:=aJ eM (fun _=>2) (k+(aF bj p.L8:Nat)+(aF (fun _=>3) p.aj:Nat)) p.L9 } :af)=p.Mc):=ht.2.trans ky.I;have hsub: ∀ g∈blk p.ay,g∈p.Mc:=fun g hg=>by rw [show p.Mc=(blk p.aN ++ p.L8.filterMap aR.bt ++ blk p.bc) ++ ((blk p.ay) ++ (blk p.ax ++ (blk p.am ++ (p.ae.filterMap aC.bt ++ (blk p.aK ++ (p.ai.filterMap aU.bt)))))) by simp [af.Mc,Lm]]; exact Ly _ (Lz _ hg)
 have hpb:w.heap.size∉p.Mc:=fun hm=>by have:=HB.I _ hm; omega
 have HY:Hid (av W3 w.heap.size p∧ap W3 base ({ p with L8:=aJ cw bj (k) p.L8,aj:=aJ hJ (fun _=>3) (k+(aF bj p.L8:Nat)) p.aj,L9:=aJ eM (fun _=>2) (k+(aF bj p.L8:Nat)+(aF (fun _=>3) p.aj:Nat)) p.L9 } :af)∧aI w W3 p.Mc):=⟨(hkb.same _ (J2.1 HX.I.1).1 fun hm=>hpb (hsub _ hm)).trans HX.I.1,ht.1,HX.I.2.2.trans (hkb.mono hsub)⟩
 clear HX how hkb ht hsub hpb;have HX:=HY;clear HY;have m2:W3.cell? ⟨w.heap.size,5,none⟩=some (.slice p.ax p.ag.length p.aP):=by have:=HX.I.1; unfold av at this; simp [World.cell?,this]
 go_wp2_with fail;clear m2;refine (zB p.ax p.ag p.aP (k+(aF bj p.L8:Nat)+(aF (fun _=>3) p.aj:Nat)+(aF (fun _=>2) p.L9:Nat)) W3 base HC.I.1.cC q3.1 q3.2 HX.I.2.1.ag).mono ?_;rintro e W4 ⟨rfl,how,hkb⟩;have ht:=HX.I.2.1.xM how (bE _ _ _ _) hkb;have Xc:Hid (af.Mc ({ p with L8:=aJ cw bj (k) p.L8,aj:=aJ hJ (fun _=>3) (k+(aF bj p.L8:Nat)) p.aj,L9:=aJ eM (fun _=>2) (k+(aF bj p.L8:Nat)+(aF (fun _=>3) p.aj:Nat)) p.L9,ag:=aJ dZ (fun _=>3) (k+(aF bj p.L8:Nat)+(aF (fun _=>3) p.aj:Nat)+(aF (fun _=>2) p.L9:Nat)) p.ag } :af)=p.Mc):=ht.2.trans Ck.I;have hsub: ∀ g∈blk p.ax,g∈p.Mc:=fun g hg=>by rw [show p.Mc=(blk p.aN ++ p.L8.filterMap aR.bt ++ blk p.bc ++ blk p.ay) ++ ((blk p.ax) ++ (blk p.am ++ (p.ae.filterMap aC.bt ++ (blk p.aK ++ (p.ai.filterMap aU.bt))))) by simp [af.Mc,Lm]]; exact Ly _ (Lz _ hg)
 have hpb:w.heap.size∉p.Mc:=fun hm=>by have:=HB.I _ hm; omega
 have HY:Hid (av W4 w.heap.size p∧ap W4 base ({ p with L8:=aJ cw bj (k) p.L8,aj:=aJ hJ (fun _=>3) (k+(aF bj p.L8:Nat)) p.aj,L9:=aJ eM (fun _=>2) (k+(aF bj p.L8:Nat)+(aF (fun _=>3) p.aj:Nat)) p.L9,ag:=aJ dZ (fun _=>3) (k+(aF bj p.L8:Nat)+(aF (fun _=>3) p.aj:Nat)+(aF (fun _=>2) p.L9:Nat)) p.ag } :af)∧aI w W4 p.Mc):=⟨(hkb.same _ (J2.1 HX.I.1).1 fun hm=>hpb (hsub _ hm)).trans HX.I.1,ht.1,HX.I.2.2.trans (hkb.mono hsub)⟩
 clear HX how hkb ht hsub hpb;have HX:=HY;clear HY;have m3:W4.cell? ⟨w.heap.size,6,none⟩=some (.slice p.am p.ae.length p.aG):=by have:=HX.I.1; unfold av at this; simp [World.cell?,this]
 go_wp2_with fail;clear m3;refine (wX p.am p.ae p.aG (k+(aF bj p.L8:Nat)+(aF (fun _=>3) p.aj:Nat)+(aF (fun _=>2) p.L9:Nat)+(aF (fun _=>3) p.ag:Nat)) W4 base HC.I.1.cb HC.I.1.ae q4.1 q4.2 HX.I.2.1.ae HX.I.2.1.eE (by
  have h5:=HX.I.2.1.nodup;have h6:af.Mc ({ p with L8:=aJ cw bj (k) p.L8,aj:=aJ hJ (fun _=>3) (k+(aF bj p.L8:Nat)) p.aj,L9:=aJ eM (fun _=>2) (k+(aF bj p.L8:Nat)+(aF (fun _=>3) p.aj:Nat)) p.L9,ag:=aJ dZ (fun _=>3) (k+(aF bj p.L8:Nat)+(aF (fun _=>3) p.aj:Nat)+(aF (fun _=>2) p.L9:Nat)) p.ag } :af)=p.Mc:=Xc.I;rw [h6,show p.Mc=(blk p.aN ++ p.L8.filterMap aR.bt ++ blk p.bc ++ blk p.ay ++ blk p.ax) ++ ((blk p.am ++ p.ae.filterMap aC.bt) ++ (blk p.aK ++ (p.ai.filterMap aU.bt))) by simp [af.Mc,Lm]] at h5;exact (Kf.1 (Kf.1 h5).2.1).1)).mono ?_
 rintro e W5 ⟨rfl,how,Ji,hkb⟩;have ht:=HX.I.2.1.CJ how (bE _ _ _ _) Ji (pr (N:=aC) (f:=dy) (c:=bN) (fun _ _=>rfl) _ _) hkb;have Xb:Hid (af.Mc ({ p with L8:=aJ cw bj (k) p.L8,aj:=aJ hJ (fun _=>3) (k+(aF bj p.L8:Nat)) p.aj,L9:=aJ eM (fun _=>2) (k+(aF bj p.L8:Nat)+(aF (fun _=>3) p.aj:Nat)) p.L9,ag:=aJ dZ (fun _=>3) (k+(aF bj p.L8:Nat)+(aF (fun _=>3) p.aj:Nat)+(aF (fun _=>2) p.L9:Nat)) p.ag,ae:=aJ dy bN (k+(aF bj p.L8:Nat)+(aF (fun _=>3) p.aj:Nat)+(aF (fun _=>2) p.L9:Nat)+(aF (fun _=>3) p.ag:Nat)) p.ae } :af)=p.Mc):=ht.2.trans Xc.I;have hsub: ∀ g∈blk p.am ++ p.ae.filterMap aC.bt,g∈p.Mc:=fun g hg=>by rw [show p.Mc=(blk p.aN ++ p.L8.filterMap aR.bt ++ blk p.bc ++ blk p.ay ++ blk p.ax) ++ ((blk p.am ++ p.ae.filterMap aC.bt) ++ (blk p.aK ++ (p.ai.filterMap aU.bt))) by simp [af.Mc,Lm]]; exact Ly _ (Lz _ hg)
 have hpb:w.heap.size∉p.Mc:=fun hm=>by have:=HB.I _ hm; omega
 have HY:Hid (av W5 w.heap.size p∧ap W5 base ({ p with L8:=aJ cw bj (k) p.L8,aj:=aJ hJ (fun _=>3) (k+(aF bj p.L8:Nat)) p.aj,L9:=aJ eM (fun _=>2) (k+(aF bj p.L8:Nat)+(aF (fun _=>3) p.aj:Nat)) p.L9,ag:=aJ dZ (fun _=>3) (k+(aF bj p.L8:Nat)+(aF (fun _=>3) p.aj:Nat)+(aF (fun _=>2) p.L9:Nat)) p.ag,ae:=aJ dy bN (k+(aF bj p.L8:Nat)+(aF (fun _=>3) p.aj:Nat)+(aF (fun _=>2) p.L9:Nat)+(aF (fun _=>3) p.ag:Nat)) p.ae } :af)∧aI w W5 p.Mc):=⟨(hkb.same _ (J2.1 HX.I.1).1 fun hm=>hpb (hsub _ hm)).trans HX.I.1,ht.1,HX.I.2.2.trans (hkb.mono hsub)⟩
 clear HX how hkb ht hsub hpb Ji;have HX:=HY;clear HY;have m4:W5.cell? ⟨w.heap.size,7,none⟩=some (.slice p.aK p.ai.length p.aV):=by have:=HX.I.1; unfold av at this; simp [World.cell?,this]
 go_wp2_with fail;clear m4;refine (AU p.aK p.ai p.aV (k+(aF bj p.L8:Nat)+(aF (fun _=>3) p.aj:Nat)+(aF (fun _=>2) p.L9:Nat)+(aF (fun _=>3) p.ag:Nat)+(aF bN p.ae:Nat)) W5 base HC.I.1.dH HC.I.1.ai q5.1 q5.2 HX.I.2.1.ai HX.I.2.1.eR (by
  have h5:=HX.I.2.1.nodup;have h6:af.Mc ({ p with L8:=aJ cw bj (k) p.L8,aj:=aJ hJ (fun _=>3) (k+(aF bj p.L8:Nat)) p.aj,L9:=aJ eM (fun _=>2) (k+(aF bj p.L8:Nat)+(aF (fun _=>3) p.aj:Nat)) p.L9,ag:=aJ dZ (fun _=>3) (k+(aF bj p.L8:Nat)+(aF (fun _=>3) p.aj:Nat)+(aF (fun _=>2) p.L9:Nat)) p.ag,ae:=aJ dy bN (k+(aF bj p.L8:Nat)+(aF (fun _=>3) p.aj:Nat)+(aF (fun _=>2) p.L9:Nat)+(aF (fun _=>3) p.ag:Nat)) p.ae } :af)=p.Mc:=Xb.I;rw [h6,show p.Mc=(blk p.aN ++ p.L8.filterMap aR.bt ++ blk p.bc ++ blk p.ay ++ blk p.ax ++ blk p.am ++ p.ae.filterMap aC.bt) ++ ((blk p.aK ++ p.ai.filterMap aU.bt) ++ []) by simp [af.Mc,Lm]] at h5;exact (Kf.1 (Kf.1 h5).2.1).1)).mono ?_
 rintro e W6 ⟨rfl,how,Ji,hkb⟩;have ht:=HX.I.2.1.Gu how (bE _ _ _ _) Ji (pr (N:=aU) (f:=fU) (c:=eo) (fun _ _=>rfl) _ _) hkb;have HQ6:Hid (af.Mc ({ p with L8:=aJ cw bj (k) p.L8,aj:=aJ hJ (fun _=>3) (k+(aF bj p.L8:Nat)) p.aj,L9:=aJ eM (fun _=>2) (k+(aF bj p.L8:Nat)+(aF (fun _=>3) p.aj:Nat)) p.L9,ag:=aJ dZ (fun _=>3) (k+(aF bj p.L8:Nat)+(aF (fun _=>3) p.aj:Nat)+(aF (fun _=>2) p.L9:Nat)) p.ag,ae:=aJ dy bN (k+(aF bj p.L8:Nat)+(aF (fun _=>3) p.aj:Nat)+(aF (fun _=>2) p.L9:Nat)+(aF (fun _=>3) p.ag:Nat)) p.ae,ai:=aJ fU eo (k+(aF bj p.L8:Nat)+(aF (fun _=>3) p.aj:Nat)+(aF (fun _=>2) p.L9:Nat)+(aF (fun _=>3) p.ag:Nat)+(aF bN p.ae:Nat)) p.ai } :af)=p.Mc):=ht.2.trans Xb.I;have hsub: ∀ g∈blk p.aK ++ p.ai.filterMap aU.bt,g∈p.Mc:=fun g hg=>by rw [show p.Mc=(blk p.aN ++ p.L8.filterMap aR.bt ++ blk p.bc ++ blk p.ay ++ blk p.ax ++ blk p.am ++ p.ae.filterMap aC.bt) ++ ((blk p.aK ++ p.ai.filterMap aU.bt) ++ []) by simp [af.Mc,Lm]]; exact Ly _ (Lz _ hg)
 have hpb:w.heap.size∉p.Mc:=fun hm=>by have:=HB.I _ hm; omega
 have HY:Hid (av W6 w.heap.size p∧ap W6 base ({ p with L8:=aJ cw bj (k) p.L8,aj:=aJ hJ (fun _=>3) (k+(aF bj p.L8:Nat)) p.aj,L9:=aJ eM (fun _=>2) (k+(aF bj p.L8:Nat)+(aF (fun _=>3) p.aj:Nat)) p.L9,ag:=aJ dZ (fun _=>3) (k+(aF bj p.L8:Nat)+(aF (fun _=>3) p.aj:Nat)+(aF (fun _=>2) p.L9:Nat)) p.ag,ae:=aJ dy bN (k+(aF bj p.L8:Nat)+(aF (fun _=>3) p.aj:Nat)+(aF (fun _=>2) p.L9:Nat)+(aF (fun _=>3) p.ag:Nat)) p.ae,ai:=aJ fU eo (k+(aF bj p.L8:Nat)+(aF (fun _=>3) p.aj:Nat)+(aF (fun _=>2) p.L9:Nat)+(aF (fun _=>3) p.ag:Nat)+(aF bN p.ae:Nat)) p.ai } :af)∧aI w W6 p.Mc):=⟨(hkb.same _ (J2.1 HX.I.1).1 fun hm=>hpb (hsub _ hm)).trans HX.I.1,ht.1,HX.I.2.2.trans (hkb.mono hsub)⟩
 clear HX how hkb ht hsub hpb Ji;have HX:=HY;clear HY;go_wp2;go_ret;exact ⟨ck (by unfold fb; omega),HX.I.2.1,HX.I.2.2⟩
theorem Wr (p:af) (k:Int) (w:World) (hc:p.WN) (h0:1≤k) (h1:k+(fb p:Nat)≤90000000) (ho:af.At w (nF k p)):
  Calls J3 18 #[.agg p.cells,.int .i64 k] w fun e w'=>e= .returned (.int .i64 (k+(fb p:Nat)))∧Below w.heap.size w w':=by
 have HC:Hid (p.WN∧k+(fb p:Nat)≤90000000):=⟨hc,h1⟩
 have HX:Hid (av (w.alloc (.cells p.row 48)) w.heap.size p∧af.At (w.alloc (.cells p.row 48)) (nF k p)∧Below w.heap.size w (w.alloc (.cells p.row 48))):=⟨Kj _ _,ho.below ((Kp _ _).alloc (Ki _) _),(Kp _ _).alloc (Ki _) _⟩
 have q0:1≤k∧k+(aF bj p.L8:Nat)≤90000000:=by have:=h1; unfold fb at this; omega
 have q1:1≤k+(aF bj p.L8:Nat)∧k+(aF bj p.L8:Nat)+(aF (fun _=>3) p.aj:Nat)≤90000000:=by have:=h1; unfold fb at this; omega
 have q2:1≤k+(aF bj p.L8:Nat)+(aF (fun _=>3) p.aj:Nat)∧k+(aF bj p.L8:Nat)+(aF (fun _=>3) p.aj:Nat)+(aF (fun _=>2) p.L9:Nat)≤90000000:=by have:=h1; unfold fb at this; omega
 have q3:1≤k+(aF bj p.L8:Nat)+(aF (fun _=>3) p.aj:Nat)+(aF (fun _=>2) p.L9:Nat)∧k+(aF bj p.L8:Nat)+(aF (fun _=>3) p.aj:Nat)+(aF (fun _=>2) p.L9:Nat)+(aF (fun _=>3) p.ag:Nat)≤90000000:=by have:=h1; unfold fb at this; omega
 have q4:1≤k+(aF bj p.L8:Nat)+(aF (fun _=>3) p.aj:Nat)+(aF (fun _=>2) p.L9:Nat)+(aF (fun _=>3) p.ag:Nat)∧k+(aF bj p.L8:Nat)+(aF (fun _=>3) p.aj:Nat)+(aF (fun _=>2) p.L9:Nat)+(aF (fun _=>3) p.ag:Nat)+(aF bN p.ae:Nat)≤90000000:=by have:=h1; unfold fb at this; omega
 have q5:1≤k+(aF bj p.L8:Nat)+(aF (fun _=>3) p.aj:Nat)+(aF (fun _=>2) p.L9:Nat)+(aF (fun _=>3) p.ag:Nat)+(aF bN p.ae:Nat)∧k+(aF bj p.L8:Nat)+(aF (fun _=>3) p.aj:Nat)+(aF (fun _=>2) p.L9:Nat)+(aF (fun _=>3) p.ag:Nat)+(aF bN p.ae:Nat)+(aF eo p.ai:Nat)≤90000000:=by have:=h1; unfold fb at this; omega
 clear hc h1 ho;unfold af.cells
 go_enter Tryz.func18,Tryz.ntmps18
 go_wp2_with fail;generalize w.alloc (.cells p.row 48)=W0 at *;refine (AZ p.aN p.L8 p.aW (k) W0 HC.I.1.dl HC.I.1.L8 q0.1 q0.2 HX.I.2.1.1).mono ?_;rintro e W1 ⟨rfl,hb⟩;have HY:Hid (av W1 w.heap.size p∧af.At W1 (nF k p)∧Below w.heap.size w W1):=⟨HX.I.1.below hb,HX.I.2.1.below hb,HX.I.2.2.trans (hb.mono HX.I.2.2.size)⟩
 clear HX hb;have HX:=HY;clear HY;have nn0: ¬ k+(aF bj p.L8:Nat) < 0:=by omega
 have m0:W1.cell? ⟨w.heap.size,3,none⟩=some (.slice p.bc p.aj.length p.bF):=by have:=HX.I.1; unfold av at this; simp [World.cell?,this]
 go_wp2_with fail;clear m0;refine (Cn p.bc p.aj p.bF (k+(aF bj p.L8:Nat)) W1 HC.I.1.fx q1.1 q1.2 HX.I.2.1.2.1).mono ?_;rintro e W2 ⟨rfl,hb⟩;have HY:Hid (av W2 w.heap.size p∧af.At W2 (nF k p)∧Below w.heap.size w W2):=⟨HX.I.1.below hb,HX.I.2.1.below hb,HX.I.2.2.trans (hb.mono HX.I.2.2.size)⟩
 clear HX hb;have HX:=HY;clear HY;have nn1: ¬ k+(aF bj p.L8:Nat)+(aF (fun _=>3) p.aj:Nat) < 0:=by omega
 have m1:W2.cell? ⟨w.heap.size,4,none⟩=some (.slice p.ay p.L9.length p.aO):=by have:=HX.I.1; unfold av at this; simp [World.cell?,this]
 go_wp2_with fail;clear m1;refine (yb p.ay p.L9 p.aO (k+(aF bj p.L8:Nat)+(aF (fun _=>3) p.aj:Nat)) W2 HC.I.1.cD q2.1 q2.2 HX.I.2.1.2.2.1).mono ?_;rintro e W3 ⟨rfl,hb⟩;have HY:Hid (av W3 w.heap.size p∧af.At W3 (nF k p)∧Below w.heap.size w W3):=⟨HX.I.1.below hb,HX.I.2.1.below hb,HX.I.2.2.trans (hb.mono HX.I.2.2.size)⟩
 clear HX hb;have HX:=HY;clear HY;have nn2: ¬ k+(aF bj p.L8:Nat)+(aF (fun _=>3) p.aj:Nat)+(aF (fun _=>2) p.L9:Nat) < 0:=by omega
 have m2:W3.cell? ⟨w.heap.size,5,none⟩=some (.slice p.ax p.ag.length p.aP):=by have:=HX.I.1; unfold av at this; simp [World.cell?,this]
 go_wp2_with fail;clear m2;refine (yF p.ax p.ag p.aP (k+(aF bj p.L8:Nat)+(aF (fun _=>3) p.aj:Nat)+(aF (fun _=>2) p.L9:Nat)) W3 HC.I.1.cC q3.1 q3.2 HX.I.2.1.2.2.2.1).mono ?_;rintro e W4 ⟨rfl,hb⟩;have HY:Hid (av W4 w.heap.size p∧af.At W4 (nF k p)∧Below w.heap.size w W4):=⟨HX.I.1.below hb,HX.I.2.1.below hb,HX.I.2.2.trans (hb.mono HX.I.2.2.size)⟩
 clear HX hb;have HX:=HY;clear HY;have nn3: ¬ k+(aF bj p.L8:Nat)+(aF (fun _=>3) p.aj:Nat)+(aF (fun _=>2) p.L9:Nat)+(aF (fun _=>3) p.ag:Nat) < 0:=by omega
 have m3:W4.cell? ⟨w.heap.size,6,none⟩=some (.slice p.am p.ae.length p.aG):=by have:=HX.I.1; unfold av at this; simp [World.cell?,this]
 go_wp2_with fail;clear m3;refine (wy p.am p.ae p.aG (k+(aF bj p.L8:Nat)+(aF (fun _=>3) p.aj:Nat)+(aF (fun _=>2) p.L9:Nat)+(aF (fun _=>3) p.ag:Nat)) W4 HC.I.1.cb HC.I.1.ae q4.1 q4.2 HX.I.2.1.2.2.2.2.1).mono ?_;rintro e W5 ⟨rfl,hb⟩;have HY:Hid (av W5 w.heap.size p∧af.At W5 (nF k p)∧Below w.heap.size w W5):=⟨HX.I.1.below hb,HX.I.2.1.below hb,HX.I.2.2.trans (hb.mono HX.I.2.2.size)⟩
 clear HX hb;have HX:=HY;clear HY;have nn4: ¬ k+(aF bj p.L8:Nat)+(aF (fun _=>3) p.aj:Nat)+(aF (fun _=>2) p.L9:Nat)+(aF (fun _=>3) p.ag:Nat)+(aF bN p.ae:Nat) < 0:=by omega
 have m4:W5.cell? ⟨w.heap.size,7,none⟩=some (.slice p.aK p.ai.length p.aV):=by have:=HX.I.1; unfold av at this; simp [World.cell?,this]
 go_wp2_with fail;clear m4;refine (Ah p.aK p.ai p.aV (k+(aF bj p.L8:Nat)+(aF (fun _=>3) p.aj:Nat)+(aF (fun _=>2) p.L9:Nat)+(aF (fun _=>3) p.ag:Nat)+(aF bN p.ae:Nat)) W5 HC.I.1.dH HC.I.1.ai q5.1 q5.2 HX.I.2.1.2.2.2.2.2).mono ?_;rintro e W6 ⟨rfl,hb⟩;have HY:Hid (av W6 w.heap.size p∧af.At W6 (nF k p)∧Below w.heap.size w W6):=⟨HX.I.1.below hb,HX.I.2.1.below hb,HX.I.2.2.trans (hb.mono HX.I.2.2.size)⟩
 clear HX hb;have HX:=HY;clear HY;have nn5: ¬ k+(aF bj p.L8:Nat)+(aF (fun _=>3) p.aj:Nat)+(aF (fun _=>2) p.L9:Nat)+(aF (fun _=>3) p.ag:Nat)+(aF bN p.ae:Nat)+(aF eo p.ai:Nat) < 0:=by omega
 go_wp2;go_ret;exact ⟨ck (by unfold fb; omega),HX.I.2.2⟩
end Go.Proofs.YteidkehoekbcaaaGreat
