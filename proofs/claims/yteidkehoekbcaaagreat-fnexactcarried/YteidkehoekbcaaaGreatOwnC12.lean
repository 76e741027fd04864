/- What the proof leans on, part 12. -/
import Derived.Test.YteidkehoekbcaaaGreatOwnC10
import Derived.Test.YteidkehoekbcaaaGreatOwnC11
set_option maxRecDepth 100000
set_option maxHeartbeats 8000000
open Go renaming heap_alloc_new->Kj,wp_at_succ->Kd,wp_at_zero->Kc
open Go.Proofs.Tryz renaming prog->J3
open Go.RowKit.Below renaming refl->Kp
open List renaming append_assoc->Lm,mem_append->Kg,mem_append_left->Lz,mem_append_right->Ly,mem_cons->Kt,mem_filterMap->Lq,mem_flatMap->Rt,mem_map->Lr,nodup_append->Kf,not_mem_nil->Ku
open Nat renaming le_refl->Ki
open Option renaming map_eq_some_iff->Kw
open Option.some renaming inj->KC
open Prod.mk renaming injEq->Kx

namespace Go.Proofs.YteidkehoekbcaaaGreat
section
open Go.RowKit
attribute [local go_sem ↓] Kc Kd
theorem pr {α:Type} {N:gd α} {f:Int→α→α} {c:α→Nat} (h: ∀ k x,N.bt (f k x)=N.bt x): ∀ (k:Int) (l:List α),(aJ f c k l).filterMap N.bt=l.filterMap N.bt
 | _,[] =>rfl
 | k,x :: r=>by simp only [aJ,List.filterMap_cons,h,pr h (k+c x) r]
theorem ap.As {w w':World} {base:Nat} {q:af} {l:List ao} (h:ap w base q) (ho:w'.ownsRow base 148 12 (.slice q.aN q.L8.length q.aW) q.L8.length (bg.flat l)) (hl:l.length=q.L8.length) (hm: ∀ y∈l,aR.cO w' base y) (hki:l.filterMap aR.bt=q.L8.filterMap aR.bt) (hk:aI w w' (blk q.aN ++ q.L8.filterMap aR.bt)):
  ap w' base ({ q with L8:=l } :af)∧({ q with L8:=l } :af).Mc=q.Mc:=by
 have hbs:q.Mc= [] ++ ((blk q.aN ++ q.L8.filterMap aR.bt) ++ (blk q.bc ++ (blk q.ay ++ (blk q.ax ++ (blk q.am ++ (q.ae.filterMap aC.bt ++ (blk q.aK ++ (q.ai.filterMap aU.bt)))))))):=by simp [af.Mc,Lm]
 have rN:({ q with L8:=l } :af).Mc=q.Mc:=by simp only [af.Mc,hki]
 have hnd:=h.nodup;rw [hbs] at hnd;have nc: ∀ g,(g∈ [] ∨g∈(blk q.bc ++ (blk q.ay ++ (blk q.ax ++ (blk q.am ++ (q.ae.filterMap aC.bt ++ (blk q.aK ++ (q.ai.filterMap aU.bt))))))))→g∉(blk q.aN ++ q.L8.filterMap aR.bt):=fun g bR hA=>by
  obtain ⟨-,h2,h3⟩:=Kf.1 hnd;obtain ⟨-,-,h4⟩:=Kf.1 h2;rcases bR with bR | bR
  ·exact h3 g bR g (Lz _ hA) rfl
  ·exact h4 g hA g bR rfl
 have hs: ∀ g,(g∈ [] ∨g∈(blk q.bc ++ (blk q.ay ++ (blk q.ax ++ (blk q.am ++ (q.ae.filterMap aC.bt ++ (blk q.aK ++ (q.ai.filterMap aU.bt))))))))→w'.heap[g]? =w.heap[g]? :=fun g bR=>hk.same g (h.lt g (by
  rw [hbs];rcases bR with bR | bR
  ·exact Lz _ bR
  ·exact Ly _ (Ly _ bR))).2 (nc g bR)
 refine ⟨⟨(by rw [hl]; exact ho),aL h.aj fun g bR=>hs g (.inr (by simp [bR])),aL h.L9 fun g bR=>hs g (.inr (by simp [bR])),aL h.ag fun g bR=>hs g (.inr (by simp [bR])),aL h.ae fun g bR=>hs g (.inr (by simp [bR])),aL h.ai fun g bR=>hs g (.inr (by simp [bR])),hm,fun y hy=>(h.eE y hy).same fun g hk=>hs g (.inr (by simp only [Kg,Lq]; simp [dd hy hk])),fun y hy=>(h.eR y hy).same fun g hk=>hs g (.inr (by simp only [Kg,Lq]; simp [dd hy hk])),?_⟩,rN⟩;rw [rN];exact h.nodup
theorem ap.DT {w w':World} {base:Nat} {q:af} {l:List bD} (h:ap w base q) (ho:w'.ownsRow base 184 3 (.slice q.bc q.aj.length q.bF) q.aj.length (dm.flat l)) (hl:l.length=q.aj.length) (hk:aI w w' (blk q.bc)):
  ap w' base ({ q with aj:=l } :af)∧({ q with aj:=l } :af).Mc=q.Mc:=by
 have hbs:q.Mc=(blk q.aN ++ q.L8.filterMap aR.bt) ++ ((blk q.bc) ++ (blk q.ay ++ (blk q.ax ++ (blk q.am ++ (q.ae.filterMap aC.bt ++ (blk q.aK ++ (q.ai.filterMap aU.bt))))))):=by simp [af.Mc,Lm]
 have rN:({ q with aj:=l } :af).Mc=q.Mc:=by rfl
 have hnd:=h.nodup;rw [hbs] at hnd;have nc: ∀ g,(g∈(blk q.aN ++ q.L8.filterMap aR.bt)∨g∈(blk q.ay ++ (blk q.ax ++ (blk q.am ++ (q.ae.filterMap aC.bt ++ (blk q.aK ++ (q.ai.filterMap aU.bt)))))))→g∉(blk q.bc):=fun g bR hA=>by
  obtain ⟨-,h2,h3⟩:=Kf.1 hnd;obtain ⟨-,-,h4⟩:=Kf.1 h2;rcases bR with bR | bR
  ·exact h3 g bR g (Lz _ hA) rfl
  ·exact h4 g hA g bR rfl
 have hs: ∀ g,(g∈(blk q.aN ++ q.L8.filterMap aR.bt)∨g∈(blk q.ay ++ (blk q.ax ++ (blk q.am ++ (q.ae.filterMap aC.bt ++ (blk q.aK ++ (q.ai.filterMap aU.bt)))))))→w'.heap[g]? =w.heap[g]? :=fun g bR=>hk.same g (h.lt g (by
  rw [hbs];rcases bR with bR | bR
  ·exact Lz _ bR
  ·exact Ly _ (Ly _ bR))).2 (nc g bR)
 refine ⟨⟨aL h.L8 fun g bR=>hs g (.inl (by simp [bR])),(by rw [hl]; exact ho),aL h.L9 fun g bR=>hs g (.inr (by simp [bR])),aL h.ag fun g bR=>hs g (.inr (by simp [bR])),aL h.ae fun g bR=>hs g (.inr (by simp [bR])),aL h.ai fun g bR=>hs g (.inr (by simp [bR])),fun y hy=>(h.eI y hy).same fun g hk=>hs g (.inl (by simp only [Kg,Lq]; simp [dd hy hk])),fun y hy=>(h.eE y hy).same fun g hk=>hs g (.inr (by simp only [Kg,Lq]; simp [dd hy hk])),fun y hy=>(h.eR y hy).same fun g hk=>hs g (.inr (by simp only [Kg,Lq]; simp [dd hy hk])),?_⟩,rN⟩;rw [rN];exact h.nodup
theorem ap.xA {w w':World} {base:Nat} {q:af} {l:List aB} (h:ap w base q) (ho:w'.ownsRow base 187 2 (.slice q.ay q.L9.length q.aO) q.L9.length (bJ.flat l)) (hl:l.length=q.L9.length) (hk:aI w w' (blk q.ay)):
  ap w' base ({ q with L9:=l } :af)∧({ q with L9:=l } :af).Mc=q.Mc:=by
 have hbs:q.Mc=(blk q.aN ++ q.L8.filterMap aR.bt ++ blk q.bc) ++ ((blk q.ay) ++ (blk q.ax ++ (blk q.am ++ (q.ae.filterMap aC.bt ++ (blk q.aK ++ (q.ai.filterMap aU.bt)))))):=by simp [af.Mc,Lm]
 have rN:({ q with L9:=l } :af).Mc=q.Mc:=by rfl
 have hnd:=h.nodup;rw [hbs] at hnd;have nc: ∀ g,(g∈(blk q.aN ++ q.L8.filterMap aR.bt ++ blk q.bc)∨g∈(blk q.ax ++ (blk q.am ++ (q.ae.filterMap aC.bt ++ (blk q.aK ++ (q.ai.filterMap aU.bt))))))→g∉(blk q.ay):=fun g bR hA=>by
  obtain ⟨-,h2,h3⟩:=Kf.1 hnd;obtain ⟨-,-,h4⟩:=Kf.1 h2;rcases bR with bR | bR
  ·exact h3 g bR g (Lz _ hA) rfl
  ·exact h4 g hA g bR rfl
 have hs: ∀ g,(g∈(blk q.aN ++ q.L8.filterMap aR.bt ++ blk q.bc)∨g∈(blk q.ax ++ (blk q.am ++ (q.ae.filterMap aC.bt ++ (blk q.aK ++ (q.ai.filterMap aU.bt))))))→w'.heap[g]? =w.heap[g]? :=fun g bR=>hk.same g (h.lt g (by
  rw [hbs];rcases bR with bR | bR
  ·exact Lz _ bR
  ·exact Ly _ (Ly _ bR))).2 (nc g bR)
 refine ⟨⟨aL h.L8 fun g bR=>hs g (.inl (by simp [bR])),aL h.aj fun g bR=>hs g (.inl (by simp [bR])),(by rw [hl]; exact ho),aL h.ag fun g bR=>hs g (.inr (by simp [bR])),aL h.ae fun g bR=>hs g (.inr (by simp [bR])),aL h.ai fun g bR=>hs g (.inr (by simp [bR])),fun y hy=>(h.eI y hy).same fun g hk=>hs g (.inl (by simp only [Kg,Lq]; simp [dd hy hk])),fun y hy=>(h.eE y hy).same fun g hk=>hs g (.inr (by simp only [Kg,Lq]; simp [dd hy hk])),fun y hy=>(h.eR y hy).same fun g hk=>hs g (.inr (by simp only [Kg,Lq]; simp [dd hy hk])),?_⟩,rN⟩;rw [rN];exact h.nodup
theorem ap.xM {w w':World} {base:Nat} {q:af} {l:List az} (h:ap w base q) (ho:w'.ownsRow base 190 3 (.slice q.ax q.ag.length q.aP) q.ag.length (bG.flat l)) (hl:l.length=q.ag.length) (hk:aI w w' (blk q.ax)):
  ap w' base ({ q with ag:=l } :af)∧({ q with ag:=l } :af).Mc=q.Mc:=by
 have hbs:q.Mc=(blk q.aN ++ q.L8.filterMap aR.bt ++ blk q.bc ++ blk q.ay) ++ ((blk q.ax) ++ (blk q.am ++ (q.ae.filterMap aC.bt ++ (blk q.aK ++ (q.ai.filterMap aU.bt))))):=by simp [af.Mc,Lm]
 have rN:({ q with ag:=l } :af).Mc=q.Mc:=by rfl
 have hnd:=h.nodup;rw [hbs] at hnd;have nc: ∀ g,(g∈(blk q.aN ++ q.L8.filterMap aR.bt ++ blk q.bc ++ blk q.ay)∨g∈(blk q.am ++ (q.ae.filterMap aC.bt ++ (blk q.aK ++ (q.ai.filterMap aU.bt)))))→g∉(blk q.ax):=fun g bR hA=>by
  obtain ⟨-,h2,h3⟩:=Kf.1 hnd;obtain ⟨-,-,h4⟩:=Kf.1 h2;rcases bR with bR | bR
  ·exact h3 g bR g (Lz _ hA) rfl
  ·exact h4 g hA g bR rfl
 have hs: ∀ g,(g∈(blk q.aN ++ q.L8.filterMap aR.bt ++ blk q.bc ++ blk q.ay)∨g∈(blk q.am ++ (q.ae.filterMap aC.bt ++ (blk q.aK ++ (q.ai.filterMap aU.bt)))))→w'.heap[g]? =w.heap[g]? :=fun g bR=>hk.same g (h.lt g (by
  rw [hbs];rcases bR with bR | bR
  ·exact Lz _ bR
  ·exact Ly _ (Ly _ bR))).2 (nc g bR)
 refine ⟨⟨aL h.L8 fun g bR=>hs g (.inl (by simp [bR])),aL h.aj fun g bR=>hs g (.inl (by simp [bR])),aL h.L9 fun g bR=>hs g (.inl (by simp [bR])),(by rw [hl]; exact ho),aL h.ae fun g bR=>hs g (.inr (by simp [bR])),aL h.ai fun g bR=>hs g (.inr (by simp [bR])),fun y hy=>(h.eI y hy).same fun g hk=>hs g (.inl (by simp only [Kg,Lq]; simp [dd hy hk])),fun y hy=>(h.eE y hy).same fun g hk=>hs g (.inr (by simp only [Kg,Lq]; simp [dd hy hk])),fun y hy=>(h.eR y hy).same fun g hk=>hs g (.inr (by simp only [Kg,Lq]; simp [dd hy hk])),?_⟩,rN⟩;rw [rN];exact h.nodup
theorem ap.CJ {w w':World} {base:Nat} {q:af} {l:List au} (h:ap w base q) (ho:w'.ownsRow base 160 3 (.slice q.am q.ae.length q.aG) q.ae.length (bm.flat l)) (hl:l.length=q.ae.length) (hm: ∀ y∈l,aC.cO w' base y) (hki:l.filterMap aC.bt=q.ae.filterMap aC.bt) (hk:aI w w' (blk q.am ++ q.ae.filterMap aC.bt)):
  ap w' base ({ q with ae:=l } :af)∧({ q with ae:=l } :af).Mc=q.Mc:=by
 have hbs:q.Mc=(blk q.aN ++ q.L8.filterMap aR.bt ++ blk q.bc ++ blk q.ay ++ blk q.ax) ++ ((blk q.am ++ q.ae.filterMap aC.bt) ++ (blk q.aK ++ (q.ai.filterMap aU.bt))):=by simp [af.Mc,Lm]
 have rN:({ q with ae:=l } :af).Mc=q.Mc:=by simp only [af.Mc,hki]
 have hnd:=h.nodup;rw [hbs] at hnd;have nc: ∀ g,(g∈(blk q.aN ++ q.L8.filterMap aR.bt ++ blk q.bc ++ blk q.ay ++ blk q.ax)∨g∈(blk q.aK ++ (q.ai.filterMap aU.bt)))→g∉(blk q.am ++ q.ae.filterMap aC.bt):=fun g bR hA=>by
  obtain ⟨-,h2,h3⟩:=Kf.1 hnd;obtain ⟨-,-,h4⟩:=Kf.1 h2;rcases bR with bR | bR
  ·exact h3 g bR g (Lz _ hA) rfl
  ·exact h4 g hA g bR rfl
 have hs: ∀ g,(g∈(blk q.aN ++ q.L8.filterMap aR.bt ++ blk q.bc ++ blk q.ay ++ blk q.ax)∨g∈(blk q.aK ++ (q.ai.filterMap aU.bt)))→w'.heap[g]? =w.heap[g]? :=fun g bR=>hk.same g (h.lt g (by
  rw [hbs];rcases bR with bR | bR
  ·exact Lz _ bR
  ·exact Ly _ (Ly _ bR))).2 (nc g bR)
 refine ⟨⟨aL h.L8 fun g bR=>hs g (.inl (by simp [bR])),aL h.aj fun g bR=>hs g (.inl (by simp [bR])),aL h.L9 fun g bR=>hs g (.inl (by simp [bR])),aL h.ag fun g bR=>hs g (.inl (by simp [bR])),(by rw [hl]; exact ho),aL h.ai fun g bR=>hs g (.inr (by simp [bR])),fun y hy=>(h.eI y hy).same fun g hk=>hs g (.inl (by simp only [Kg,Lq]; simp [dd hy hk])),hm,fun y hy=>(h.eR y hy).same fun g hk=>hs g (.inr (by simp only [Kg,Lq]; simp [dd hy hk])),?_⟩,rN⟩;rw [rN];exact h.nodup
theorem ap.Gu {w w':World} {base:Nat} {q:af} {l:List aM} (h:ap w base q) (ho:w'.ownsRow base 85 5 (.slice q.aK q.ai.length q.aV) q.ai.length (bX.flat l)) (hl:l.length=q.ai.length) (hm: ∀ y∈l,aU.cO w' base y) (hki:l.filterMap aU.bt=q.ai.filterMap aU.bt) (hk:aI w w' (blk q.aK ++ q.ai.filterMap aU.bt)):
  ap w' base ({ q with ai:=l } :af)∧({ q with ai:=l } :af).Mc=q.Mc:=by
 have hbs:q.Mc=(blk q.aN ++ q.L8.filterMap aR.bt ++ blk q.bc ++ blk q.ay ++ blk q.ax ++ blk q.am ++ q.ae.filterMap aC.bt) ++ ((blk q.aK ++ q.ai.filterMap aU.bt) ++ []):=by simp [af.Mc,Lm]
 have rN:({ q with ai:=l } :af).Mc=q.Mc:=by simp only [af.Mc,hki]
 have hnd:=h.nodup;rw [hbs] at hnd;have nc: ∀ g,(g∈(blk q.aN ++ q.L8.filterMap aR.bt ++ blk q.bc ++ blk q.ay ++ blk q.ax ++ blk q.am ++ q.ae.filterMap aC.bt)∨g∈ [])→g∉(blk q.aK ++ q.ai.filterMap aU.bt):=fun g bR hA=>by
  obtain ⟨-,h2,h3⟩:=Kf.1 hnd;obtain ⟨-,-,h4⟩:=Kf.1 h2;rcases bR with bR | bR
  ·exact h3 g bR g (Lz _ hA) rfl
  ·exact h4 g hA g bR rfl
 have hs: ∀ g,(g∈(blk q.aN ++ q.L8.filterMap aR.bt ++ blk q.bc ++ blk q.ay ++ blk q.ax ++ blk q.am ++ q.ae.filterMap aC.bt)∨g∈ [])→w'.heap[g]? =w.heap[g]? :=fun g bR=>hk.same g (h.lt g (by
  rw [hbs];rcases bR with bR | bR
  ·exact Lz _ bR
  ·exact Ly _ (Ly _ bR))).2 (nc g bR)
 refine ⟨⟨aL h.L8 fun g bR=>hs g (.inl (by simp [bR])),aL h.aj fun g bR=>hs g (.inl (by simp [bR])),aL h.L9 fun g bR=>hs g (.inl (by simp [bR])),aL h.ag fun g bR=>hs g (.inl (by simp [bR])),aL h.ae fun g bR=>hs g (.inl (by simp [bR])),(by rw [hl]; exact ho),fun y hy=>(h.eI y hy).same fun g hk=>hs g (.inl (by simp only [Kg,Lq]; simp [dd hy hk])),fun y hy=>(h.eE y hy).same fun g hk=>hs g (.inl (by simp only [Kg,Lq]; simp [dd hy hk])),hm,?_⟩,rN⟩;rw [rN];exact h.nodup
def fb (p:af):Nat:=aF bj p.L8+aF (fun _=>3) p.aj+aF (fun _=>2) p.L9+aF (fun _=>3) p.ag+aF bN p.ae+aF eo p.ai
def nF (k:Int) (p:af):af:= { p with L8:=aJ cw bj (k) p.L8,aj:=aJ hJ (fun _=>3) (k+(aF bj p.L8:Nat)) p.aj,L9:=aJ eM (fun _=>2) (k+(aF bj p.L8:Nat)+(aF (fun _=>3) p.aj:Nat)) p.L9,ag:=aJ dZ (fun _=>3) (k+(aF bj p.L8:Nat)+(aF (fun _=>3) p.aj:Nat)+(aF (fun _=>2) p.L9:Nat)) p.ag,ae:=aJ dy bN (k+(aF bj p.L8:Nat)+(aF (fun _=>3) p.aj:Nat)+(aF (fun _=>2) p.L9:Nat)+(aF (fun _=>3) p.ag:Nat)) p.ae,ai:=aJ fU eo (k+(aF bj p.L8:Nat)+(aF (fun _=>3) p.aj:Nat)+(aF (fun _=>2) p.L9:Nat)+(aF (fun _=>3) p.ag:Nat)+(aF bN p.ae:Nat)) p.ai }
structure af.WN (p:af):Prop where
 dl:p.L8.length≤1048576
 fx:p.aj.length≤1048576
 cD:p.L9.length≤1048576
 cC:p.ag.length≤1048576
 cb:p.ae.length≤1048576
 dH:p.ai.length≤1048576
 L8: ∀ x∈p.L8,x.prog.length≤1048576
 ae: ∀ x∈p.ae,x.Ma.length≤1048576
 ai: ∀ x∈p.ai,x.Ma.length≤1048576
end
section
open Go.RowKit Go.Maps
attribute [local go_sem ↓] Kc Kd
structure kd.Small (k:kd):Prop where
 Ts:k.fn.length≤1048576
 sC:k.parts.length≤1048576
 w8:k.eC.length≤1048576
 win: ∀ j,-9223372036854775808≤sz k.fn j∧sz k.fn j≤9223372036854775807
 parts: ∀ p∈k.parts,p.Small
 eC: ∀ c∈k.eC,c.Wf
structure eA.Ints (k:eA):Prop where
 win: ∀ j,-9223372036854775808≤sz k.fn j∧sz k.fn j≤9223372036854775807
 parts: ∀ p∈k.parts,p.Ints
 eC: ∀ c∈k.eC,c.Wf
theorem Uy {k:eA} (h:k.yq) (hi:k.Ints):k.pure.Small:=
 ⟨h.Ts,by simpa [eA.pure] using h.sC,h.w8,hi.win,fun p hp=>by
  obtain ⟨q,hq,rfl⟩:=Lr.1 hp;exact UT (h.parts q hq) (hi.parts q hq),hi.eC⟩
theorem pC {k:eA} (h:k.pure.Small) {p:af} (hp:p∈k.parts):p.pure.Small:=h.parts p.pure (Lr.2 ⟨p,hp,rfl⟩)
theorem Ug {k:eA} (h:k.pure.Small):k.Fit:=
 ⟨h.Ts,by simpa [eA.pure] using h.sC,h.w8,h.win,fun p hp=>⟨dV (pC h hp),fun x hx=>(cY (pC h hp) hx).1⟩⟩
theorem Vz {w:World} {p:af} (h:af.At w p): ∀ r∈il p,Row w r.1 r.2:=fun r hr=>by
 simp only [il,Kg,Rt,Kt,Ku,or_false] at hr;rcases hr with ((hr | ⟨x,hx,hr⟩) | ⟨x,hx,hr⟩) | ⟨x,hx,hr⟩
 ·rcases hr with rfl | rfl | rfl | rfl | rfl | rfl
  ·exact h.1.1
  ·exact h.2.1.1
  ·exact h.2.2.1.1
  ·exact h.2.2.2.1.1
  ·exact h.2.2.2.2.1.1
  ·exact h.2.2.2.2.2.1
 ·exact h.1.2 x hx r hr
 ·exact h.2.2.2.2.1.2 x hx r hr
 ·exact h.2.2.2.2.2.2 x hx r hr
theorem gp.at {w:World} {base:Nat} {k:eA} (h:gp w base k):eA.At w k:=
 ⟨⟨nP h.fn,fun x _ r hr=>by simp [jq] at hr⟩,⟨nP h.parts,fun p hp=>Vz (h.mine p hp).at⟩,⟨nP h.eC,fun x _ r hr=>by simp [hM] at hr⟩⟩
theorem gp.below {w w':World} {base:Nat} {k:eA} (h:gp w base k) (hb:Below w.heap.size w w'):gp w' base k:=
 ⟨cR h.fn hb,cR h.parts hb,cR h.eC hb,fun p hp=>(h.mine p hp).below hb,h.nodup⟩
structure dg (w:World) (k:eA) (W:World):Prop where
 src:W.heap[w.heap.size]? =some (.cells k.row 28 (0,0))
 cd:Below w.heap.size w W
theorem dg.below {w W W2:World} {k:eA} (h:dg w k W) (hb:Below W.heap.size W W2):dg w k W2:=⟨(hb.block _ (Array.getElem?_eq_some_iff.1 h.src).1).trans h.src,h.cd.trans (hb.mono h.cd.size)⟩
theorem dg.cells {w W:World} {k:eA} (h:dg w k W):W.cell? ⟨w.heap.size,0,none⟩=some (.int .i64 k.now)∧W.cell? ⟨w.heap.size,1,none⟩=some (.int .i64 k.major)∧W.cell? ⟨w.heap.size,2,none⟩=some (.slice k.vb k.fn.length k.Te)∧W.cell? ⟨w.heap.size,3,none⟩=some (.slice k.qn k.parts.length k.sa)∧W.cell? ⟨w.heap.size,4,none⟩=some (.slice k.qi k.eC.length k.tC):=by
 have h1:=h.src;simp [World.cell?,h1]
end
section
open Go.RowKit
structure Zg (k:eA) (We w:World) (b0 d0 f b1 d1 b3 d3 e:Bool) (g0 g1 o:Nat) (a0 a1:Option Addr) (c0 c1:Nat):Prop where
 cd:Below We.heap.size We w
 src:Tk w We.heap.size k
 ret:w.heap[We.heap.size+1]? =some (.cells T9 37 (0,0))
 s0:su w (We.heap.size+2) 100 3 k.fn.length (jq.flat k.fn) b0 d0 g0 a0 c0
 s1:su w (We.heap.size+2) 80 4 k.eC.length (hM.flat k.eC) b1 d1 g1 a1 c1
 I:b3=true→w.heap[o]? =some (.cells (bif d3 then #[.int .i64 k.now,.int .i64 k.major,.slice a0 k.fn.length c0,.slice none 0 0,.slice a1 k.eC.length c1] else T9) 37 (0,0))
 cl:(e=true→f=true∧d1=true)∧(d3=true→e=true∧b3=true)∧(f=true→d0=true)
 size:We.heap.size+2≤w.heap.size
 pR:mJ (We.heap.size+2) w.heap.size (four (bM b0 d0 g0 a0) (bM b1 d1 g1 a1) [] (bif b3 then [o] else []))
 som:d0=true→ ∃ q,a0=some ⟨q,0,none⟩
section
variable {k:eA} {We w:World} {b0 d0 f b1 d1 b3 d3 e:Bool} {g0 g1 o:Nat} {a0 a1:Option Addr} {c0 c1:Nat}
theorem Zg.aaZ (h:Zg k We w false d0 f b1 d1 b3 d3 e g0 g1 o a0 a1 c0 c1):Zg k We (w.alloc (.cells #[] 100)) true d0 f b1 d1 b3 d3 e w.heap.size g1 o a0 a1 c0 c1:=by
 have hb:Below w.heap.size w (w.alloc (.cells #[] 100)):=(Kp _ _).alloc (Ki _) _;have hlt: ∀ i,∀ q∈four (bM false d0 g0 a0) (bM b1 d1 g1 a1) [] (bif b3 then [o] else []) i,q < w.heap.size:=fun i q hq=>(h.pR.xy i q hq).2
 exact ⟨h.cd.trans (hb.mono h.cd.size),(hb.block _ (by have:=h.size; omega)).trans h.src,(hb.block _ (by have:=h.size; omega)).trans h.ret,⟨fun _ hd=>⟨Kj _ _,h.size⟩,fun hd=>aL (h.s0.done hd) fun q hq=>hb.block q (hlt 0 q (by subst hd; simpa [four,bM] using hq))⟩,h.s1.same fun q hq=>hb.block q (hlt 1 q hq),fun e=>(hb.block _ (hlt 3 o (by simp [four,e]))).trans (h.I e),h.cl,by have:=h.size; simp; omega,h.pR.up 0 (fun j hj=>by rcases j with _ | _ | _ | _ | _ <;> first | rfl | exact absurd rfl hj) (fun q hq=>by cases d0 with | true=>exact .inl (by simpa [four,bM] using hq) | false=>exact .inr (by simpa [four,bM] using hq)) (by simp) h.size,h.som⟩
theorem Zg.abg (h:Zg k We w b0 d0 f false d1 b3 d3 e g0 g1 o a0 a1 c0 c1):Zg k We (w.alloc (.cells #[] 80)) b0 d0 f true d1 b3 d3 e g0 w.heap.size o a0 a1 c0 c1:=by
 have hb:Below w.heap.size w (w.alloc (.cells #[] 80)):=(Kp _ _).alloc (Ki _) _;have hlt: ∀ i,∀ q∈four (bM b0 d0 g0 a0) (bM false d1 g1 a1) [] (bif b3 then [o] else []) i,q < w.heap.size:=fun i q hq=>(h.pR.xy i q hq).2
 exact ⟨h.cd.trans (hb.mono h.cd.size),(hb.block _ (by have:=h.size; omega)).trans h.src,(hb.block _ (by have:=h.size; omega)).trans h.ret,h.s0.same fun q hq=>hb.block q (hlt 0 q hq),⟨fun _ hd=>⟨Kj _ _,h.size⟩,fun hd=>aL (h.s1.done hd) fun q hq=>hb.block q (hlt 1 q (by subst hd; simpa [four,bM] using hq))⟩,fun e=>(hb.block _ (hlt 3 o (by simp [four,e]))).trans (h.I e),h.cl,by have:=h.size; simp; omega,h.pR.up 1 (fun j hj=>by rcases j with _ | _ | _ | _ | _ <;> first | rfl | exact absurd rfl hj) (fun q hq=>by cases d1 with | true=>exact .inl (by simpa [four,bM] using hq) | false=>exact .inr (by simpa [four,bM] using hq)) (by simp) h.size,h.som⟩
theorem Zg.aa1 {w2:World} {a:Option Addr} {c:Nat} (h:Zg k We w true false f b1 d1 b3 d3 e g0 g1 o a0 a1 c0 c1) (ho:w2.ownsRow (We.heap.size+2) 100 3 (.slice a k.fn.length c) k.fn.length (jq.flat k.fn)) (hg:w.grownBy w2 (some g0)) (hq: ∀ q∈blk a,q=g0∨q=w.heap.size) (hs: ∃ q,a=some ⟨q,0,none⟩):Zg k We w2 true true f b1 d1 b3 d3 e g0 g1 o a a1 c c1:=by
 have hlt: ∀ i,∀ q∈four (bM true false g0 a0) (bM b1 d1 g1 a1) [] (bif b3 then [o] else []) i,q < w.heap.size:=fun i q hq=>(h.pR.xy i q hq).2
 have hgl:We.heap.size+2≤g0∧g0 < w.heap.size:=h.pR.xy 0 g0 (by simp [four,bM]);have hne: ∀ i,i≠0→ ∀ q∈four (bM true false g0 a0) (bM b1 d1 g1 a1) [] (bif b3 then [o] else []) i,w2.heap[q]? =w.heap[q]? :=fun i hi q hq=>hg.block q (hlt i q hq) fun e=>h.pR.apart i 0 hi q hq (by rw [KC e]; simp [four,bM])
 have hbe:Below We.heap.size We w2:=h.cd.grown hg (by have:=h.size; omega) (fun k hk=>by cases hk; omega);have hf:f=false:=by cases hx:f with | false=>rfl | true=>have:=h.cl.2.2 hx; simp at this
 have he:e=false:=by cases hx:e with | false=>rfl | true=>have:=(h.cl.1 hx).1; rw [hf] at this; cases this
 have hd:d3=false:=by cases hx:d3 with | false=>rfl | true=>have:=(h.cl.2.1 hx).1; rw [he] at this; cases this
 subst he hd hf;have hz:=hg.size;have hsz:=h.size;refine ⟨hbe,(hg.block _ (by omega) (fun e=>by have:=KC e; omega)).trans h.src,(hg.block _ (by omega) (fun e=>by have:=KC e; omega)).trans h.ret,⟨(fun _ hd=>by cases hd),fun _=>ho⟩,h.s1.same fun q hq=>hne 1 (by decide) q hq,fun e=>(hne 3 (by decide) o (by simp [four,e])).trans (h.I e),⟨(fun e=>by cases e),(fun e=>by cases e),fun e=>by cases e⟩,by omega,?_,fun _=>hs⟩;by_cases hnew: ∃ q∈blk a,q=w.heap.size
 ·obtain ⟨q0,nu,hqe⟩:=hnew
  have hw2:=(cf ho nu).2;refine h.pR.up 0 (fun j hj=>by rcases j with _ | _ | _ | _ | _ <;> first | rfl | exact absurd rfl hj) (fun q hq'=> ?_) (by omega) hsz;have h5:q∈blk a:=by simpa [four,bM] using hq'
  rcases hq q h5 with h6 | h6
  ·exact .inl (by rw [h6]; simp [four,bM])
  ·exact .inr h6
 ·have hall: ∀ q∈blk a,q=g0:=fun q hq'=>(hq q hq').resolve_right fun e=>hnew ⟨q,hq',e⟩
  refine mJ.mono (n:=w.heap.size) ⟨fun i i2 hij q hi hi2=> ?_,fun i q hi=> ?_⟩ hz
  ·have e1: ∀ i,∀ q∈four (bM true true g0 a) (bM b1 d1 g1 a1) [] (bif b3 then [o] else []) i,q∈four (bM true false g0 a0) (bM b1 d1 g1 a1) [] (bif b3 then [o] else []) i:=fun i q hq'=>by
    by_cases ei:i=0
    ·subst ei
     have h5:q∈blk a:=by simpa [four,bM] using hq'
     rw [hall q h5];simp [four,bM]
    ·rcases i with _ | _ | _ | _ | _ <;> first | exact hq' | exact absurd rfl ei
   exact h.pR.apart i i2 hij q (e1 i q hi) (e1 i2 q hi2)
  ·by_cases ei:i=0
   ·subst ei
    have h5:q∈blk a:=by simpa [four,bM] using hi
    rw [hall q h5];exact hgl
   ·exact h.pR.xy i q (by rcases i with _ | _ | _ | _ | _ <;> first | exact hi | exact absurd rfl ei)
theorem Zg.aa2 {w2:World} {a:Option Addr} {c:Nat} (h:Zg k We w b0 d0 f true false b3 d3 e g0 g1 o a0 a1 c0 c1) (ho:w2.ownsRow (We.heap.size+2) 80 4 (.slice a k.eC.length c) k.eC.length (hM.flat k.eC)) (hg:w.grownBy w2 (some g1)) (hq: ∀ q∈blk a,q=g1∨q=w.heap.size):Zg k We w2 b0 d0 f true true b3 d3 e g0 g1 o a0 a c0 c:=by
 have hlt: ∀ i,∀ q∈four (bM b0 d0 g0 a0) (bM true false g1 a1) [] (bif b3 then [o] else []) i,q < w.heap.size:=fun i q hq=>(h.pR.xy i q hq).2
 have hgl:We.heap.size+2≤g1∧g1 < w.heap.size:=h.pR.xy 1 g1 (by simp [four,bM]);have hne: ∀ i,i≠1→ ∀ q∈four (bM b0 d0 g0 a0) (bM true false g1 a1) [] (bif b3 then [o] else []) i,w2.heap[q]? =w.heap[q]? :=fun i hi q hq=>hg.block q (hlt i q hq) fun e=>h.pR.apart i 1 hi q hq (by rw [KC e]; simp [four,bM])
 have hbe:Below We.heap.size We w2:=h.cd.grown hg (by have:=h.size; omega) (fun k hk=>by cases hk; omega);have he:e=false:=by cases hx:e with | false=>rfl | true=>have:=(h.cl.1 hx).2; simp at this
 have hd:d3=false:=by cases hx:d3 with | false=>rfl | true=>have:=(h.cl.2.1 hx).1; rw [he] at this; cases this
 subst he hd;have hz:=hg.size;have hsz:=h.size;refine ⟨hbe,(hg.block _ (by omega) (fun e=>by have:=KC e; omega)).trans h.src,(hg.block _ (by omega) (fun e=>by have:=KC e; omega)).trans h.ret,h.s0.same fun q hq=>hne 0 (by decide) q hq,⟨(fun _ hd=>by cases hd),fun _=>ho⟩,fun e=>(hne 3 (by decide) o (by simp [four,e])).trans (h.I e),⟨(fun e=>by cases e),(fun e=>by cases e),h.cl.2.2⟩,by omega,?_,h.som⟩;by_cases hnew: ∃ q∈blk a,q=w.heap.size
 ·obtain ⟨q0,nu,hqe⟩:=hnew
  have hw2:=(cf ho nu).2;refine h.pR.up 1 (fun j hj=>by rcases j with _ | _ | _ | _ | _ <;> first | rfl | exact absurd rfl hj) (fun q hq'=> ?_) (by omega) hsz;have h5:q∈blk a:=by simpa [four,bM] using hq'
  rcases hq q h5 with h6 | h6
  ·exact .inl (by rw [h6]; simp [four,bM])
  ·exact .inr h6
 ·have hall: ∀ q∈blk a,q=g1:=fun q hq'=>(hq q hq').resolve_right fun e=>hnew ⟨q,hq',e⟩
  refine mJ.mono (n:=w.heap.size) ⟨fun i i2 hij q hi hi2=> ?_,fun i q hi=> ?_⟩ hz
  ·have e1: ∀ i,∀ q∈four (bM b0 d0 g0 a0) (bM true true g1 a) [] (bif b3 then [o] else []) i,q∈four (bM b0 d0 g0 a0) (bM true false g1 a1) [] (bif b3 then [o] else []) i:=fun i q hq'=>by
    by_cases ei:i=1
    ·subst ei
     have h5:q∈blk a:=by simpa [four,bM] using hq'
     rw [hall q h5];simp [four,bM]
    ·rcases i with _ | _ | _ | _ | _ <;> first | exact hq' | exact absurd rfl ei
   exact h.pR.apart i i2 hij q (e1 i q hi) (e1 i2 q hi2)
  ·by_cases ei:i=1
   ·subst ei
    have h5:q∈blk a:=by simpa [four,bM] using hi
    rw [hall q h5];exact hgl
   ·exact h.pR.xy i q (by rcases i with _ | _ | _ | _ | _ <;> first | exact hi | exact absurd rfl ei)
theorem Zg.aa9 (h:Zg k We w b0 d0 f b1 d1 false false e g0 g1 o a0 a1 c0 c1):Zg k We (w.alloc (.cells T9 37)) b0 d0 f b1 d1 true false e g0 g1 w.heap.size a0 a1 c0 c1:=by
 have hb:Below w.heap.size w (w.alloc (.cells T9 37)):=(Kp _ _).alloc (Ki _) _;have hlt: ∀ i,∀ q∈four (bM b0 d0 g0 a0) (bM b1 d1 g1 a1) [] (bif false then [o] else []) i,q < w.heap.size:=fun i q hq=>(h.pR.xy i q hq).2
 exact ⟨h.cd.trans (hb.mono h.cd.size),(hb.block _ (by have:=h.size; omega)).trans h.src,(hb.block _ (by have:=h.size; omega)).trans h.ret,h.s0.same fun q hq=>hb.block q (hlt 0 q hq),h.s1.same fun q hq=>hb.block q (hlt 1 q hq),fun _=>Kj _ _,⟨h.cl.1,(fun e=>by cases e),h.cl.2.2⟩,by have:=h.size; simp; omega,h.pR.up 3 (fun j hj=>by rcases j with _ | _ | _ | _ | _ <;> first | rfl | exact absurd rfl hj) (fun q hq=> .inr (by simpa [four] using hq)) (by simp) h.size,h.som⟩
theorem Zg.frame (h:Zg k We w b0 d0 false b1 d1 b3 d3 e g0 g1 o a0 a1 c0 c1) (h0:d0=true):Zg k We w b0 d0 true b1 d1 b3 d3 e g0 g1 o a0 a1 c0 c1:=⟨h.cd,h.src,h.ret,h.s0,h.s1,h.I,⟨fun he=>⟨rfl,(h.cl.1 he).2⟩,h.cl.2.1,fun _=>h0⟩,h.size,h.pR,h.som⟩
theorem Zg.build (h:Zg k We w b0 d0 f b1 d1 b3 d3 false g0 g1 o a0 a1 c0 c1) (h0:f=true) (h1:d1=true):Zg k We w b0 d0 f b1 d1 b3 d3 true g0 g1 o a0 a1 c0 c1:=⟨h.cd,h.src,h.ret,h.s0,h.s1,h.I,⟨fun _=>⟨h0,h1⟩,fun hd=>⟨rfl,(h.cl.2.1 hd).2⟩,h.cl.2.2⟩,h.size,h.pR,h.som⟩
theorem Zg.store (h:Zg k We w b0 d0 f b1 d1 true false true g0 g1 o a0 a1 c0 c1):Zg k We (w.setRow o #[.int .i64 k.now,.int .i64 k.major,.slice a0 k.fn.length c0,.slice none 0 0,.slice a1 k.eC.length c1]) b0 d0 f b1 d1 true true true g0 g1 o a0 a1 c0 c1:=by
 have ho:=h.pR.xy 3 o (by simp [four]);have hne: ∀ q,q≠o→(w.setRow o #[.int .i64 k.now,.int .i64 k.major,.slice a0 k.fn.length c0,.slice none 0 0,.slice a1 k.eC.length c1]).heap[q]? =w.heap[q]? :=fun q hq=>setRow_other _ _ _ _ hq
 have hap: ∀ i,i≠3→ ∀ q∈four (bM b0 d0 g0 a0) (bM b1 d1 g1 a1) [] (bif true then [o] else []) i,q≠o:=fun i hi q hq e=>h.pR.apart i 3 hi q hq (by subst e; simp [four])
 have hsz:=h.size;exact ⟨kz h.cd (by omega) _,(hne _ (by omega)).trans h.src,(hne _ (by omega)).trans h.ret,h.s0.same fun q hq=>hne q (hap 0 (by decide) q hq),h.s1.same fun q hq=>hne q (hap 1 (by decide) q hq),fun _=>setRow_heap _ _ _ _ _ _ (h.I rfl),⟨h.cl.1,(fun _=>⟨rfl,rfl⟩),h.cl.2.2⟩,by rw [size_setRow]; exact h.size,by rw [size_setRow]; exact h.pR,h.som⟩
end
theorem aaL {l:List pA} : ∀ u∈jq.flat l,u.oneCell'=true:=fun u hu=>by
 obtain ⟨x,_,hx⟩:=Rt.1 hu;simp only [jq,VE,Kt,Ku,or_false] at hx;rcases hx with rfl | rfl | rfl <;> rfl
theorem ZS:(Tryz.prog.info? 100).map (fun i=>(i.zero,i.size,i.bytes))=some (some (.agg #[.int .i64 0,.int .i64 0,.int .i64 0]),3,24):=by kernel_rfl
theorem aaG (w:World) (base g:Nat) (hg:w.heap[g]? =some (.cells #[] 100 (0,0))) (hbg:base≤g) (a:Option Addr) (l:List pA) (cap:Nat) (h:Row w a (jq.flat l)) (hl:l.length≤1048576) (lY:base≤w.heap.size):
  ∃ a' cap' w',(Builtin.append_ #[31,31] 31 #[.slice (some ⟨g,0,none⟩) 0 0,.slice a l.length cap]).run J3 w= .ok (.slice a' l.length cap') w'∧w'.ownsRow base 100 3 (.slice a' l.length cap') l.length (jq.flat l)∧w.grownBy w' (some g)∧ ∀ q∈blk a',q=g∨q=w.heap.size:=by
 obtain ⟨i,hi,e⟩:=Kw.1 ZS;simp only [Kx] at e;exact kK w base _ _ 100 i _ 3 24 Tryz.underlying31 hi e.1 e.2.1 e.2.2 rfl (by decide) g hg hbg a l.length cap _ h (jq.dM l) aaL hl (by decide) lY
theorem abu {l:List eQ} : ∀ u∈hM.flat l,u.oneCell'=true:=fun u hu=>by
 obtain ⟨x,_,hx⟩:=Rt.1 hu;simp only [hM,Vg,Kt,Ku,or_false] at hx;rcases hx with rfl | rfl | rfl | rfl <;> rfl
theorem aaN:(Tryz.prog.info? 80).map (fun i=>(i.zero,i.size,i.bytes))=some (some (.agg #[.int .i64 0,.int .i64 0,.int .i64 0,.int .i64 0]),4,32):=by kernel_rfl
theorem abd (w:World) (base g:Nat) (hg:w.heap[g]? =some (.cells #[] 80 (0,0))) (hbg:base≤g) (a:Option Addr) (l:List eQ) (cap:Nat) (h:Row w a (hM.flat l)) (hl:l.length≤1048576) (lY:base≤w.heap.size):
  ∃ a' cap' w',(Builtin.append_ #[35,35] 35 #[.slice (some ⟨g,0,none⟩) 0 0,.slice a l.length cap]).run J3 w= .ok (.slice a' l.length cap') w'∧w'.ownsRow base 80 4 (.slice a' l.length cap') l.length (hM.flat l)∧w.grownBy w' (some g)∧ ∀ q∈blk a',q=g∨q=w.heap.size:=by
 obtain ⟨i,hi,e⟩:=Kw.1 aaN;simp only [Kx] at e;exact kK w base _ _ 80 i _ 4 32 Tryz.underlying35 hi e.1 e.2.1 e.2.2 rfl (by decide) g hg hbg a l.length cap _ h (hM.dM l) abu hl (by decide) lY
theorem aaU (w:World) (base g:Nat) (hg:w.heap[g]? =some (.cells #[] 100 (0,0))) (hbg:base≤g) (a:Option Addr) (l:List pA) (cap:Nat) (h:Row w a (jq.flat l)) (hl:l.length≤1048576) (lY:base≤w.heap.size):
  ∃ a' cap' w',(Builtin.append_ #[31,31] 31 #[.slice (some ⟨g,0,none⟩) 0 0,.slice a l.length cap]).run J3 w= .ok (.slice a' l.length cap') w'∧w'.ownsRow base 100 3 (.slice a' l.length cap') l.length (jq.flat l)∧w.grownBy w' (some g)∧(∀ q∈blk a',q=g∨q=w.heap.size)∧ ∃ q,a'=some ⟨q,0,none⟩:=by
 cases l with
 | nil=>
  obtain ⟨i,hi,e⟩:=Kw.1 ZS;simp only [Kx] at e;refine ⟨some ⟨g,0,none⟩,0,w,?_,i6 hg hbg,⟨rfl,rfl,rfl,Ki _,fun _ _ _=>rfl⟩,(fun q hq=>by simp [blk] at hq; exact .inl hq),g,rfl⟩;cases a with
  | none=>simp [Builtin.append_,run_underlying Tryz.underlying31,sizeOf,typeInfo,hi,Builtin.lenOf,Builtin.firstCells,storeCells]
  | some ad=>simp [Builtin.append_,run_underlying Tryz.underlying31,sizeOf,typeInfo,hi,Builtin.lenOf,Builtin.firstCells,storeCells,loadCells,loadCellsFrom]
 | cons x r=>
  obtain ⟨a',c',w',h1,h2,h3,h4⟩:=aaG w base g hg hbg a (x :: r) cap h hl lY;refine ⟨a',c',w',h1,h2,h3,h4,?_⟩;obtain ⟨a2,c2,e2,hr⟩:=cr h2;cases e2;obtain ⟨q,hq,-⟩:=hr 0 (.int .i64 x.at_) (by simp [Kind.flat,jq,VE]);exact ⟨q,hq⟩
end
section
open Go.RowKit Go.Maps
structure YR (B lo:Nat) (I:List af) (a:Option Addr) (cap:Nat) (W:World):Prop where
 own:W.ownsRow B 48 8 (.slice a I.length cap) I.length (kp.flat I)
 mine: ∀ p∈I,ap W lo p
 nodup:(blk a ++ I.flatMap af.Mc).Nodup
section
variable {B lo cap:Nat} {I:List af} {a:Option Addr} {W W1 W2:World} {r:af}
theorem YR.start (B lo:Nat) (W:World):YR B lo [] none 0 W:=⟨World.ownsRow_nil _ _ _ _,fun p hp=>(by cases hp),by simp [blk]⟩
theorem YR.below (h:YR B lo I a cap W) (hb:Below W.heap.size W W1):YR B lo I a cap W1:=⟨cR h.own hb,fun p hp=>(h.mine p hp).below hb,h.nodup⟩
theorem YR.lt (h:YR B lo I a cap W): ∀ g∈blk a ++ I.flatMap af.Mc,g < W.heap.size:=fun g hg=>by
 rcases Kg.1 hg with hg | hg
 ·exact (cf h.own hg).2
 ·obtain ⟨p,hp,l9⟩:=Rt.1 hg
  exact ((h.mine p hp).lt g l9).2
theorem YR.same (h:YR B lo I a cap W) (hs: ∀ g∈blk a ++ I.flatMap af.Mc,W1.heap[g]? =W.heap[g]?):YR B lo I a cap W1:=
 ⟨aL h.own fun g hg=>hs g (Lz _ hg),fun p hp=>(h.mine p hp).same fun g hg=>hs g (Ly _ (Rt.2 ⟨p,hp,hg⟩)),h.nodup⟩
theorem YR.more {a2:Option Addr} {Ta:Nat} (h:YR B lo I a cap W) (hr:ap W lo r) (hf: ∀ g∈r.Mc,g∉blk a ++ I.flatMap af.Mc) (ho:W2.ownsRow B 48 8 (.slice a2 (I.length+1) Ta) (I.length+1) (kp.flat I ++ r.cells.toList)) (hk:aI W W2 (blk a)) (hb: ∀ g∈blk a2,g∈blk a∨W.heap.size≤g):YR B lo (I ++ [r]) a2 Ta W2:=by
 have hn:=Kf.1 h.nodup;have aS:kp.flat (I ++ [r])=kp.flat I ++ r.cells.toList:=by simp [Kind.flat,kp,UU]
 refine ⟨by rw [List.length_append,List.length_singleton,aS]; exact ho,fun p hp=> ?_,?_⟩
 ·have hm:ap W lo p∧ ∀ g∈p.Mc,g∉blk a:=by
   rcases Kg.1 hp with hp | hp
   ·exact ⟨h.mine p hp,fun g hg hm=>hn.2.2 g hm g (Rt.2 ⟨p,hp,hg⟩) rfl⟩
   ·rw [List.mem_singleton.1 hp]
    exact ⟨hr,fun g hg hm=>hf g hg (Lz _ hm)⟩
  exact hm.1.same fun g hg=>hk.same g (hm.1.lt g hg).2 (hm.2 g hg)
 ·rw [List.flatMap_append]
  have e: [r].flatMap af.Mc=r.Mc:=by simp
  rw [e];refine Kf.2 ⟨?_,Kf.2 ⟨hn.2.1,hr.nodup,fun g hg g' hg' e=>hf g' hg' (Ly _ (by rw [← e]; exact hg))⟩,fun g hg g' hg' e=> ?_⟩
  ·cases a2 with
   | none=>simp [blk]
   | some ad=>simp [blk]
  ·subst e
   have hlt:g < W.heap.size∧g∉blk a:=by
    rcases Kg.1 hg' with hg' | hg'
    ·exact ⟨h.lt g (Ly _ hg'),fun hm=>hn.2.2 g hm g hg' rfl⟩
    ·exact ⟨(hr.lt g hg').2,fun hm=>hf g hg' (Lz _ hm)⟩
   rcases hb g hg with h5 | h5
   ·exact hlt.2 h5
   ·omega
end
theorem aas:(Tryz.prog.info? 48).map (fun i=>(i.zero,i.size,i.bytes))=some (some (.agg ar),8,160):=by kernel_rfl
theorem aaw {B lo cap:Nat} {I:List af} {a:Option Addr} {W:World} {r:af} (h:YR B lo I a cap W) (hr:ap W lo r) (hf: ∀ g∈r.Mc,g∉blk a ++ I.flatMap af.Mc) (hn:I.length≤1048576) (hb:B≤W.heap.size):
  ∃ a' cap' w',(Builtin.append_ #[34,34] 34 #[.slice a I.length cap,.slice (some ⟨W.heap.size,0,none⟩) 1 1]).run J3 (W.alloc (.cells r.cells 48))= .ok (.slice a' (I.length+1) cap') w'∧YR B lo (I ++ [r]) a' cap' w'∧aI W w' (blk a)∧ ∀ g∈blk a',g∈blk a∨W.heap.size≤g:=by
 obtain ⟨a',cap',w',h1,h2,h3,h4⟩:=aad Tryz.underlying34 aas rfl (by decide) (by decide) r.cells rfl (fun u hu=>by
  simp only [af.cells,Kt,Ku,or_false] at hu;rcases hu with rfl | rfl | rfl | rfl | rfl | rfl | rfl | rfl <;> rfl) h.own hn hb
 exact ⟨a',cap',w',h1,h.more hr hf h2 h3 h4,h3,h4⟩
end
end Go.Proofs.YteidkehoekbcaaaGreat
