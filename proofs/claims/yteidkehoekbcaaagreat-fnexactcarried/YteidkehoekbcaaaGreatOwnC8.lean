/- What the proof leans on, part 8. -/
import Derived.Test.YteidkehoekbcaaaGreatOwnC6
import Derived.Test.YteidkehoekbcaaaGreatOwnC7
set_option maxRecDepth 100000
set_option maxHeartbeats 8000000
open Array renaming getElem?_eq_some_iff->J2
open Bool renaming and_eq_true->J7
open Go renaming heap_alloc_new->Kj,run_underlying->T0,wp_at_succ->Kd,wp_at_zero->Kc
open Go.DataW renaming trod_int->adQ
open Go.Deep renaming blk_setCell_other->ac5
open Go.Proofs.Tryz renaming prog->J3,underlying2->KN,underlying31->adZ
open Go.RowKit.Below renaming refl->Kp
open List renaming append_assoc->Lm,filterMap_cons->LH,flatMap_append->aej,flatMap_cons->aez,getElem?_eq_getElem->Kz,length_append->Lf,length_cons->Lg,length_singleton->adg,map_append->Kl,map_cons->Lt,map_singleton->adl,mem_append->Kg,mem_append_left->Lz,mem_append_right->Ly,mem_cons->Kt,mem_cons_of_mem->LB,mem_cons_self->LA,mem_filterMap->Lq,mem_flatMap->Rt,mem_map->Lr,mem_of_getElem?->KA,mem_of_mem_take->RK,mem_singleton->KB,nodup_append->Kf,nodup_cons->Lp,not_mem_nil->Ku,sum_cons->aeA,take_of_length_le->KF
open List.cons renaming injEq->adK
open Nat renaming le_refl->Ki
open Option renaming map_eq_some_iff->Kw
open Option.some renaming inj->KC
open Prod.mk renaming injEq->Kx

namespace Go.Proofs.YteidkehoekbcaaaGreat
section
open Go.RowKit
attribute [local go_sem ↓] Kc Kd
abbrev afB (q:af):List Nat:=blk q.am ++ (q.ae.filterMap aC.bt ++ (blk q.aK ++ (q.ai.filterMap aU.bt)))
abbrev afC (q:af):List Nat:=blk q.ax ++ (blk q.am ++ (q.ae.filterMap aC.bt ++ (blk q.aK ++ (q.ai.filterMap aU.bt))))
abbrev afw (q:af):List Nat:=blk q.ay ++ (blk q.ax ++ (blk q.am ++ (q.ae.filterMap aC.bt ++ (blk q.aK ++ (q.ai.filterMap aU.bt)))))
abbrev afo (q:af):List Nat:=blk q.bc ++ (blk q.ay ++ (blk q.ax ++ (blk q.am ++ (q.ae.filterMap aC.bt ++ (blk q.aK ++ (q.ai.filterMap aU.bt))))))
theorem pr {α:Type} {N:gd α} {f:Int→α→α} {c:α→Nat} (h: ∀ k x,N.bt (f k x)=N.bt x): ∀ (k:Int) (l:List α),(aJ f c k l).filterMap N.bt=l.filterMap N.bt
 | _,[] =>rfl
 | k,x :: r=>by simp only [aJ,LH,h,pr h (k+c x) r]
theorem ap.As {w w':World} {base:Nat} {q:af} {l:List ao} (h:ap w base q) (ho:w'.ownsRow base 148 12 (.slice q.aN q.L8.length q.aW) q.L8.length (bg.flat l)) (hl:l.length=q.L8.length) (hm: ∀ y∈l,aR.cO w' base y) (hki:l.filterMap aR.bt=q.L8.filterMap aR.bt) (hk:aI w w' (blk q.aN ++ q.L8.filterMap aR.bt)):
  ap w' base ({ q with L8:=l } :af)∧({ q with L8:=l } :af).Mc=q.Mc:=by
 have hbs:q.Mc= [] ++ ((blk q.aN ++ q.L8.filterMap aR.bt) ++ (afo q)):=by simp [af.Mc,Lm]
 have rN:({ q with L8:=l } :af).Mc=q.Mc:=by simp only [af.Mc,hki]
 have hnd:=h.nodup;rw [hbs] at hnd;have nc: ∀ g,(g∈ [] ∨g∈(afo q))→g∉(blk q.aN ++ q.L8.filterMap aR.bt):=fun g bR hA=>by
  obtain ⟨-,h2,h3⟩:=Kf.1 hnd;obtain ⟨-,-,h4⟩:=Kf.1 h2;rcases bR with bR | bR
  ·exact h3 g bR g (Lz _ hA) rfl
  ·exact h4 g hA g bR rfl
 have hs: ∀ g,(g∈ [] ∨g∈(afo q))→w'.heap[g]? =w.heap[g]? :=fun g bR=>hk.same g (h.lt g (by
  rw [hbs];rcases bR with bR | bR
  ·exact Lz _ bR
  ·exact Ly _ (Ly _ bR))).2 (nc g bR)
 refine ⟨⟨(by rw [hl]; exact ho),aL h.aj fun g bR=>hs g (.inr (by simp [bR])),aL h.L9 fun g bR=>hs g (.inr (by simp [bR])),aL h.ag fun g bR=>hs g (.inr (by simp [bR])),aL h.ae fun g bR=>hs g (.inr (by simp [bR])),aL h.ai fun g bR=>hs g (.inr (by simp [bR])),hm,fun y hy=>(h.eE y hy).same fun g hk=>hs g (.inr (by simp only [Kg,Lq]; simp [dd hy hk])),fun y hy=>(h.eR y hy).same fun g hk=>hs g (.inr (by simp only [Kg,Lq]; simp [dd hy hk])),?_⟩,rN⟩;rw [rN];exact h.nodup
theorem ap.DT {w w':World} {base:Nat} {q:af} {l:List bD} (h:ap w base q) (ho:w'.ownsRow base 184 3 (.slice q.bc q.aj.length q.bF) q.aj.length (dm.flat l)) (hl:l.length=q.aj.length) (hk:aI w w' (blk q.bc)):
  ap w' base ({ q with aj:=l } :af)∧({ q with aj:=l } :af).Mc=q.Mc:=by
 have hbs:q.Mc=(blk q.aN ++ q.L8.filterMap aR.bt) ++ ((blk q.bc) ++ (afw q)):=by simp [af.Mc,Lm]
 have rN:({ q with aj:=l } :af).Mc=q.Mc:=by rfl
 have hnd:=h.nodup;rw [hbs] at hnd;have nc: ∀ g,(g∈(blk q.aN ++ q.L8.filterMap aR.bt)∨g∈(afw q))→g∉(blk q.bc):=fun g bR hA=>by
  obtain ⟨-,h2,h3⟩:=Kf.1 hnd;obtain ⟨-,-,h4⟩:=Kf.1 h2;rcases bR with bR | bR
  ·exact h3 g bR g (Lz _ hA) rfl
  ·exact h4 g hA g bR rfl
 have hs: ∀ g,(g∈(blk q.aN ++ q.L8.filterMap aR.bt)∨g∈(afw q))→w'.heap[g]? =w.heap[g]? :=fun g bR=>hk.same g (h.lt g (by
  rw [hbs];rcases bR with bR | bR
  ·exact Lz _ bR
  ·exact Ly _ (Ly _ bR))).2 (nc g bR)
 refine ⟨⟨aL h.L8 fun g bR=>hs g (.inl (by simp [bR])),(by rw [hl]; exact ho),aL h.L9 fun g bR=>hs g (.inr (by simp [bR])),aL h.ag fun g bR=>hs g (.inr (by simp [bR])),aL h.ae fun g bR=>hs g (.inr (by simp [bR])),aL h.ai fun g bR=>hs g (.inr (by simp [bR])),fun y hy=>(h.eI y hy).same fun g hk=>hs g (.inl (by simp only [Kg,Lq]; simp [dd hy hk])),fun y hy=>(h.eE y hy).same fun g hk=>hs g (.inr (by simp only [Kg,Lq]; simp [dd hy hk])),fun y hy=>(h.eR y hy).same fun g hk=>hs g (.inr (by simp only [Kg,Lq]; simp [dd hy hk])),?_⟩,rN⟩;rw [rN];exact h.nodup
theorem ap.xA {w w':World} {base:Nat} {q:af} {l:List aB} (h:ap w base q) (ho:w'.ownsRow base 187 2 (.slice q.ay q.L9.length q.aO) q.L9.length (bJ.flat l)) (hl:l.length=q.L9.length) (hk:aI w w' (blk q.ay)):
  ap w' base ({ q with L9:=l } :af)∧({ q with L9:=l } :af).Mc=q.Mc:=by
 have hbs:q.Mc=(blk q.aN ++ q.L8.filterMap aR.bt ++ blk q.bc) ++ ((blk q.ay) ++ (afC q)):=by simp [af.Mc,Lm]
 have rN:({ q with L9:=l } :af).Mc=q.Mc:=by rfl
 have hnd:=h.nodup;rw [hbs] at hnd;have nc: ∀ g,(g∈(blk q.aN ++ q.L8.filterMap aR.bt ++ blk q.bc)∨g∈(afC q))→g∉(blk q.ay):=fun g bR hA=>by
  obtain ⟨-,h2,h3⟩:=Kf.1 hnd;obtain ⟨-,-,h4⟩:=Kf.1 h2;rcases bR with bR | bR
  ·exact h3 g bR g (Lz _ hA) rfl
  ·exact h4 g hA g bR rfl
 have hs: ∀ g,(g∈(blk q.aN ++ q.L8.filterMap aR.bt ++ blk q.bc)∨g∈(afC q))→w'.heap[g]? =w.heap[g]? :=fun g bR=>hk.same g (h.lt g (by
  rw [hbs];rcases bR with bR | bR
  ·exact Lz _ bR
  ·exact Ly _ (Ly _ bR))).2 (nc g bR)
 refine ⟨⟨aL h.L8 fun g bR=>hs g (.inl (by simp [bR])),aL h.aj fun g bR=>hs g (.inl (by simp [bR])),(by rw [hl]; exact ho),aL h.ag fun g bR=>hs g (.inr (by simp [bR])),aL h.ae fun g bR=>hs g (.inr (by simp [bR])),aL h.ai fun g bR=>hs g (.inr (by simp [bR])),fun y hy=>(h.eI y hy).same fun g hk=>hs g (.inl (by simp only [Kg,Lq]; simp [dd hy hk])),fun y hy=>(h.eE y hy).same fun g hk=>hs g (.inr (by simp only [Kg,Lq]; simp [dd hy hk])),fun y hy=>(h.eR y hy).same fun g hk=>hs g (.inr (by simp only [Kg,Lq]; simp [dd hy hk])),?_⟩,rN⟩;rw [rN];exact h.nodup
theorem ap.xM {w w':World} {base:Nat} {q:af} {l:List az} (h:ap w base q) (ho:w'.ownsRow base 190 3 (.slice q.ax q.ag.length q.aP) q.ag.length (bG.flat l)) (hl:l.length=q.ag.length) (hk:aI w w' (blk q.ax)):
  ap w' base ({ q with ag:=l } :af)∧({ q with ag:=l } :af).Mc=q.Mc:=by
 have hbs:q.Mc=(blk q.aN ++ q.L8.filterMap aR.bt ++ blk q.bc ++ blk q.ay) ++ ((blk q.ax) ++ (afB q)):=by simp [af.Mc,Lm]
 have rN:({ q with ag:=l } :af).Mc=q.Mc:=by rfl
 have hnd:=h.nodup;rw [hbs] at hnd;have nc: ∀ g,(g∈(blk q.aN ++ q.L8.filterMap aR.bt ++ blk q.bc ++ blk q.ay)∨g∈(afB q))→g∉(blk q.ax):=fun g bR hA=>by
  obtain ⟨-,h2,h3⟩:=Kf.1 hnd;obtain ⟨-,-,h4⟩:=Kf.1 h2;rcases bR with bR | bR
  ·exact h3 g bR g (Lz _ hA) rfl
  ·exact h4 g hA g bR rfl
 have hs: ∀ g,(g∈(blk q.aN ++ q.L8.filterMap aR.bt ++ blk q.bc ++ blk q.ay)∨g∈(afB q))→w'.heap[g]? =w.heap[g]? :=fun g bR=>hk.same g (h.lt g (by
  rw [hbs];rcases bR with bR | bR
  ·exact Lz _ bR
  ·exact Ly _ (Ly _ bR))).2 (nc g bR)
 refine ⟨⟨aL h.L8 fun g bR=>hs g (.inl (by simp [bR])),aL h.aj fun g bR=>hs g (.inl (by simp [bR])),aL h.L9 fun g bR=>hs g (.inl (by simp [bR])),(by rw [hl]; exact ho),aL h.ae fun g bR=>hs g (.inr (by simp [bR])),aL h.ai fun g bR=>hs g (.inr (by simp [bR])),fun y hy=>(h.eI y hy).same fun g hk=>hs g (.inl (by simp only [Kg,Lq]; simp [dd hy hk])),fun y hy=>(h.eE y hy).same fun g hk=>hs g (.inr (by simp only [Kg,Lq]; simp [dd hy hk])),fun y hy=>(h.eR y hy).same fun g hk=>hs g (.inr (by simp only [Kg,Lq]; simp [dd hy hk])),?_⟩,rN⟩;rw [rN];exact h.nodup
theorem ap.CJ {w w':World} {base:Nat} {q:af} {l:List au} (h:ap w base q) (ho:w'.ownsRow base 160 3 (.slice q.am q.ae.length q.aG) q.ae.length (bm.flat l)) (hl:l.length=q.ae.length) (hm: ∀ y∈l,aC.cO w' base y) (hki:l.filterMap aC.bt=q.ae.filterMap aC.bt) (hk:aI w w' (blk q.am ++ q.ae.filterMap aC.bt)):
  ap w' base ({ q with ae:=l } :af)∧({ q with ae:=l } :af).Mc=q.Mc:=by
 have hbs:q.Mc=(blk q.aN ++ q.L8.filterMap aR.bt ++ blk q.bc ++ blk q.ay ++ blk q.ax) ++ ((blk q.am ++ q.ae.filterMap aC.bt) ++ (blk q.aK ++ (q.ai.filterMap aU.bt))):=by simp [af.Mc,Lm]
 have rN:({ q with ae:=l } :af).Mc=q.Mc:=by simp only [af.Mc,hki]
 have hnd:=h.nodup;rw [hbs] at hnd;have nc: ∀ g,(g∈(blk q.aN ++ q.L8.filterMap aR.bt ++ blk q.bc ++ blk q.ay ++ blk q.ax)∨g∈(blk q.aK ++ (q.ai.filterMap aU.bt)))→g∉(blk q.am ++ q.ae.filterMap aC.bt):=fun g bR hA=>by
  obtain ⟨-,h2,h3⟩:=Kf.1 hnd;obtain ⟨-,-,h4⟩:=Kf.1 h2;rcases bR with bR | bR
  ·exact h3 g bR g (Lz _ hA) rfl
  ·exact h4 g hA g bR rfl
 have hs: ∀ g,(g∈(blk q.aN ++ q.L8.filterMap aR.bt ++ blk q.bc ++ blk q.ay ++ blk q.ax)∨g∈(blk q.aK ++ (q.ai.filterMap aU.bt)))→w'.heap[g]? =w.heap[g]? :=fun g bR=>hk.same g (h.lt g (by
  rw [hbs];rcases bR with bR | bR
  ·exact Lz _ bR
  ·exact Ly _ (Ly _ bR))).2 (nc g bR)
 refine ⟨⟨aL h.L8 fun g bR=>hs g (.inl (by simp [bR])),aL h.aj fun g bR=>hs g (.inl (by simp [bR])),aL h.L9 fun g bR=>hs g (.inl (by simp [bR])),aL h.ag fun g bR=>hs g (.inl (by simp [bR])),(by rw [hl]; exact ho),aL h.ai fun g bR=>hs g (.inr (by simp [bR])),fun y hy=>(h.eI y hy).same fun g hk=>hs g (.inl (by simp only [Kg,Lq]; simp [dd hy hk])),hm,fun y hy=>(h.eR y hy).same fun g hk=>hs g (.inr (by simp only [Kg,Lq]; simp [dd hy hk])),?_⟩,rN⟩;rw [rN];exact h.nodup
theorem ap.Gu {w w':World} {base:Nat} {q:af} {l:List aM} (h:ap w base q) (ho:w'.ownsRow base 85 5 (.slice q.aK q.ai.length q.aV) q.ai.length (bX.flat l)) (hl:l.length=q.ai.length) (hm: ∀ y∈l,aU.cO w' base y) (hki:l.filterMap aU.bt=q.ai.filterMap aU.bt) (hk:aI w w' (blk q.aK ++ q.ai.filterMap aU.bt)):
  ap w' base ({ q with ai:=l } :af)∧({ q with ai:=l } :af).Mc=q.Mc:=by
 have hbs:q.Mc=(blk q.aN ++ q.L8.filterMap aR.bt ++ blk q.bc ++ blk q.ay ++ blk q.ax ++ blk q.am ++ q.ae.filterMap aC.bt) ++ ((blk q.aK ++ q.ai.filterMap aU.bt) ++ []):=by simp [af.Mc,Lm]
 have rN:({ q with ai:=l } :af).Mc=q.Mc:=by simp only [af.Mc,hki]
 have hnd:=h.nodup;rw [hbs] at hnd;have nc: ∀ g,(g∈(blk q.aN ++ q.L8.filterMap aR.bt ++ blk q.bc ++ blk q.ay ++ blk q.ax ++ blk q.am ++ q.ae.filterMap aC.bt)∨g∈ [])→g∉(blk q.aK ++ q.ai.filterMap aU.bt):=fun g bR hA=>by
  obtain ⟨-,h2,h3⟩:=Kf.1 hnd;obtain ⟨-,-,h4⟩:=Kf.1 h2;rcases bR with bR | bR
  ·exact h3 g bR g (Lz _ hA) rfl
  ·exact h4 g hA g bR rfl
 have hs: ∀ g,(g∈(blk q.aN ++ q.L8.filterMap aR.bt ++ blk q.bc ++ blk q.ay ++ blk q.ax ++ blk q.am ++ q.ae.filterMap aC.bt)∨g∈ [])→w'.heap[g]? =w.heap[g]? :=fun g bR=>hk.same g (h.lt g (by
  rw [hbs];rcases bR with bR | bR
  ·exact Lz _ bR
  ·exact Ly _ (Ly _ bR))).2 (nc g bR)
 refine ⟨⟨aL h.L8 fun g bR=>hs g (.inl (by simp [bR])),aL h.aj fun g bR=>hs g (.inl (by simp [bR])),aL h.L9 fun g bR=>hs g (.inl (by simp [bR])),aL h.ag fun g bR=>hs g (.inl (by simp [bR])),aL h.ae fun g bR=>hs g (.inl (by simp [bR])),(by rw [hl]; exact ho),fun y hy=>(h.eI y hy).same fun g hk=>hs g (.inl (by simp only [Kg,Lq]; simp [dd hy hk])),fun y hy=>(h.eE y hy).same fun g hk=>hs g (.inl (by simp only [Kg,Lq]; simp [dd hy hk])),hm,?_⟩,rN⟩;rw [rN];exact h.nodup
def fb (p:af):Nat:=aF bj p.L8+aF (fun _=>3) p.aj+aF (fun _=>2) p.L9+aF (fun _=>3) p.ag+aF bN p.ae+aF eo p.ai
def nF (k:Int) (p:af):af:= { p with L8:=aJ cw bj (k) p.L8,aj:=aJ hJ (fun _=>3) (k+(aF bj p.L8:Nat)) p.aj,L9:=aJ eM (fun _=>2) (k+(aF bj p.L8:Nat)+(aF (fun _=>3) p.aj:Nat)) p.L9,ag:=aJ dZ (fun _=>3) (k+(aF bj p.L8:Nat)+(aF (fun _=>3) p.aj:Nat)+(aF (fun _=>2) p.L9:Nat)) p.ag,ae:=aJ dy bN (k+(aF bj p.L8:Nat)+(aF (fun _=>3) p.aj:Nat)+(aF (fun _=>2) p.L9:Nat)+(aF (fun _=>3) p.ag:Nat)) p.ae,ai:=aJ fU eo (k+(aF bj p.L8:Nat)+(aF (fun _=>3) p.aj:Nat)+(aF (fun _=>2) p.L9:Nat)+(aF (fun _=>3) p.ag:Nat)+(aF bN p.ae:Nat)) p.ai }
structure af.WN (p:af):Prop where
 dl:p.L8.length≤1048576
 fx:p.aj.length≤1048576
 cD:p.L9.length≤1048576
 cC:p.ag.length≤1048576
 cb:p.ae.length≤1048576
 dH:p.ai.length≤1048576
 L8: ∀ x∈p.L8,x.prog.length≤1048576
 ae: ∀ x∈p.ae,x.Ma.length≤1048576
 ai: ∀ x∈p.ai,x.Ma.length≤1048576
end
section
open Go.RowKit Go.Maps
attribute [local go_sem ↓] Kc Kd
structure kd.Small (k:kd):Prop where
 Ts:k.fn.length≤1048576
 sC:k.parts.length≤1048576
 w8:k.eC.length≤1048576
 win: ∀ j,-9223372036854775808≤sz k.fn j∧sz k.fn j≤9223372036854775807
 parts: ∀ p∈k.parts,p.Small
 eC: ∀ c∈k.eC,c.Wf
structure eA.Ints (k:eA):Prop where
 win: ∀ j,-9223372036854775808≤sz k.fn j∧sz k.fn j≤9223372036854775807
 parts: ∀ p∈k.parts,p.Ints
 eC: ∀ c∈k.eC,c.Wf
theorem Uy {k:eA} (h:k.yq) (hi:k.Ints):k.pure.Small:=
 ⟨h.Ts,by simpa [eA.pure] using h.sC,h.w8,hi.win,fun p hp=>by
  obtain ⟨q,hq,rfl⟩:=Lr.1 hp;exact UT (h.parts q hq) (hi.parts q hq),hi.eC⟩
theorem pC {k:eA} (h:k.pure.Small) {p:af} (hp:p∈k.parts):p.pure.Small:=h.parts p.pure (Lr.2 ⟨p,hp,rfl⟩)
theorem Ug {k:eA} (h:k.pure.Small):k.Fit:=
 ⟨h.Ts,by simpa [eA.pure] using h.sC,h.w8,h.win,fun p hp=>⟨dV (pC h hp),fun x hx=>(cY (pC h hp) hx).1⟩⟩
theorem Vz {w:World} {p:af} (h:af.At w p): ∀ r∈il p,Row w r.1 r.2:=fun r hr=>by
 simp only [il,Kg,Rt,Kt,Ku,or_false] at hr;rcases hr with ((hr | ⟨x,hx,hr⟩) | ⟨x,hx,hr⟩) | ⟨x,hx,hr⟩
 ·rcases hr with rfl | rfl | rfl | rfl | rfl | rfl
  ·exact h.1.1
  ·exact h.2.1.1
  ·exact h.2.2.1.1
  ·exact h.2.2.2.1.1
  ·exact h.2.2.2.2.1.1
  ·exact h.2.2.2.2.2.1
 ·exact h.1.2 x hx r hr
 ·exact h.2.2.2.2.1.2 x hx r hr
 ·exact h.2.2.2.2.2.2 x hx r hr
theorem gp.at {w:World} {base:Nat} {k:eA} (h:gp w base k):eA.At w k:=
 ⟨⟨nP h.fn,fun x _ r hr=>by simp [jq] at hr⟩,⟨nP h.parts,fun p hp=>Vz (h.mine p hp).at⟩,⟨nP h.eC,fun x _ r hr=>by simp [hM] at hr⟩⟩
theorem gp.below {w w':World} {base:Nat} {k:eA} (h:gp w base k) (hb:Below w.heap.size w w'):gp w' base k:=
 ⟨cR h.fn hb,cR h.parts hb,cR h.eC hb,fun p hp=>(h.mine p hp).below hb,h.nodup⟩
structure dg (w:World) (k:eA) (W:World):Prop where
 src:W.heap[w.heap.size]? =some (.cells k.row 28 (0,0))
 cd:Below w.heap.size w W
theorem dg.below {w W W2:World} {k:eA} (h:dg w k W) (hb:Below W.heap.size W W2):dg w k W2:=⟨(hb.block _ (J2.1 h.src).1).trans h.src,h.cd.trans (hb.mono h.cd.size)⟩
theorem dg.cells {w W:World} {k:eA} (h:dg w k W):W.cell? ⟨w.heap.size,0,none⟩=some (.int .i64 k.now)∧W.cell? ⟨w.heap.size,1,none⟩=some (.int .i64 k.major)∧W.cell? ⟨w.heap.size,2,none⟩=some (.slice k.vb k.fn.length k.Te)∧W.cell? ⟨w.heap.size,3,none⟩=some (.slice k.qn k.parts.length k.sa)∧W.cell? ⟨w.heap.size,4,none⟩=some (.slice k.qi k.eC.length k.tC):=by
 have h1:=h.src;simp [World.cell?,h1]
end
section
open Go.RowKit
structure Zg (k:eA) (We w:World) (b0 d0 f b1 d1 b3 d3 e:Bool) (g0 g1 o:Nat) (a0 a1:Option Addr) (c0 c1:Nat):Prop where
 cd:Below We.heap.size We w
 src:Tk w We.heap.size k
 ret:w.heap[We.heap.size+1]? =some (.cells T9 37 (0,0))
 s0:su w (We.heap.size+2) 100 3 k.fn.length (jq.flat k.fn) b0 d0 g0 a0 c0
 s1:su w (We.heap.size+2) 80 4 k.eC.length (hM.flat k.eC) b1 d1 g1 a1 c1
 I:b3=true→w.heap[o]? =some (.cells (bif d3 then #[.int .i64 k.now,.int .i64 k.major,.slice a0 k.fn.length c0,.slice none 0 0,.slice a1 k.eC.length c1] else T9) 37 (0,0))
 cl:(e=true→f=true∧d1=true)∧(d3=true→e=true∧b3=true)∧(f=true→d0=true)
 size:We.heap.size+2≤w.heap.size
 pR:mJ (We.heap.size+2) w.heap.size (four (bM b0 d0 g0 a0) (bM b1 d1 g1 a1) [] (bif b3 then [o] else []))
 som:d0=true→ ∃ q,a0=some ⟨q,0,none⟩
section
variable {k:eA} {We w:World} {b0 d0 f b1 d1 b3 d3 e:Bool} {g0 g1 o:Nat} {a0 a1:Option Addr} {c0 c1:Nat}
theorem Zg.aaZ (h:Zg k We w false d0 f b1 d1 b3 d3 e g0 g1 o a0 a1 c0 c1):Zg k We (w.alloc (.cells #[] 100)) true d0 f b1 d1 b3 d3 e w.heap.size g1 o a0 a1 c0 c1:=by
 have hb:Below w.heap.size w (w.alloc (.cells #[] 100)):=(Kp _ _).alloc (Ki _) _;have hlt: ∀ i,∀ q∈four (bM false d0 g0 a0) (bM b1 d1 g1 a1) [] (bif b3 then [o] else []) i,q < w.heap.size:=fun i q hq=>(h.pR.xy i q hq).2
 exact ⟨h.cd.trans (hb.mono h.cd.size),(hb.block _ (by have:=h.size; omega)).trans h.src,(hb.block _ (by have:=h.size; omega)).trans h.ret,⟨fun _ hd=>⟨Kj _ _,h.size⟩,fun hd=>aL (h.s0.done hd) fun q hq=>hb.block q (hlt 0 q (by subst hd; simpa [four,bM] using hq))⟩,h.s1.same fun q hq=>hb.block q (hlt 1 q hq),fun e=>(hb.block _ (hlt 3 o (by simp [four,e]))).trans (h.I e),h.cl,by have:=h.size; simp; omega,h.pR.up 0 (fun j hj=>by rcases j with _ | _ | _ | _ | _ <;> first | rfl | exact absurd rfl hj) (fun q hq=>by cases d0 with | true=>exact .inl (by simpa [four,bM] using hq) | false=>exact .inr (by simpa [four,bM] using hq)) (by simp) h.size,h.som⟩
theorem Zg.abg (h:Zg k We w b0 d0 f false d1 b3 d3 e g0 g1 o a0 a1 c0 c1):Zg k We (w.alloc (.cells #[] 80)) b0 d0 f true d1 b3 d3 e g0 w.heap.size o a0 a1 c0 c1:=by
 have hb:Below w.heap.size w (w.alloc (.cells #[] 80)):=(Kp _ _).alloc (Ki _) _;have hlt: ∀ i,∀ q∈four (bM b0 d0 g0 a0) (bM false d1 g1 a1) [] (bif b3 then [o] else []) i,q < w.heap.size:=fun i q hq=>(h.pR.xy i q hq).2
 exact ⟨h.cd.trans (hb.mono h.cd.size),(hb.block _ (by have:=h.size; omega)).trans h.src,(hb.block _ (by have:=h.size; omega)).trans h.ret,h.s0.same fun q hq=>hb.block q (hlt 0 q hq),⟨fun _ hd=>⟨Kj _ _,h.size⟩,fun hd=>aL (h.s1.done hd) fun q hq=>hb.block q (hlt 1 q (by subst hd; simpa [four,bM] using hq))⟩,fun e=>(hb.block _ (hlt 3 o (by simp [four,e]))).trans (h.I e),h.cl,by have:=h.size; simp; omega,h.pR.up 1 (fun j hj=>by rcases j with _ | _ | _ | _ | _ <;> first | rfl | exact absurd rfl hj) (fun q hq=>by cases d1 with | true=>exact .inl (by simpa [four,bM] using hq) | false=>exact .inr (by simpa [four,bM] using hq)) (by simp) h.size,h.som⟩
theorem Zg.aa1 {w2:World} {a:Option Addr} {c:Nat} (h:Zg k We w true false f b1 d1 b3 d3 e g0 g1 o a0 a1 c0 c1) (ho:w2.ownsRow (We.heap.size+2) 100 3 (.slice a k.fn.length c) k.fn.length (jq.flat k.fn)) (hg:w.grownBy w2 (some g0)) (hq: ∀ q∈blk a,q=g0∨q=w.heap.size) (hs: ∃ q,a=some ⟨q,0,none⟩):Zg k We w2 true true f b1 d1 b3 d3 e g0 g1 o a a1 c c1:=by
 have hlt: ∀ i,∀ q∈four (bM true false g0 a0) (bM b1 d1 g1 a1) [] (bif b3 then [o] else []) i,q < w.heap.size:=fun i q hq=>(h.pR.xy i q hq).2
 have hgl:We.heap.size+2≤g0∧g0 < w.heap.size:=h.pR.xy 0 g0 (by simp [four,bM]);have hne: ∀ i,i≠0→ ∀ q∈four (bM true false g0 a0) (bM b1 d1 g1 a1) [] (bif b3 then [o] else []) i,w2.heap[q]? =w.heap[q]? :=fun i hi q hq=>hg.block q (hlt i q hq) fun e=>h.pR.apart i 0 hi q hq (by rw [KC e]; simp [four,bM])
 have hbe:Below We.heap.size We w2:=h.cd.grown hg (by have:=h.size; omega) (fun k hk=>by cases hk; omega);have hf:f=false:=by cases hx:f with | false=>rfl | true=>have:=h.cl.2.2 hx; simp at this
 have he:e=false:=by cases hx:e with | false=>rfl | true=>have:=(h.cl.1 hx).1; rw [hf] at this; cases this
 have hd:d3=false:=by cases hx:d3 with | false=>rfl | true=>have:=(h.cl.2.1 hx).1; rw [he] at this; cases this
 subst he hd hf;have hz:=hg.size;have hsz:=h.size;refine ⟨hbe,(hg.block _ (by omega) (fun e=>by have:=KC e; omega)).trans h.src,(hg.block _ (by omega) (fun e=>by have:=KC e; omega)).trans h.ret,⟨(fun _ hd=>by cases hd),fun _=>ho⟩,h.s1.same fun q hq=>hne 1 (by decide) q hq,fun e=>(hne 3 (by decide) o (by simp [four,e])).trans (h.I e),⟨(fun e=>by cases e),(fun e=>by cases e),fun e=>by cases e⟩,by omega,?_,fun _=>hs⟩;by_cases hnew: ∃ q∈blk a,q=w.heap.size
 ·obtain ⟨q0,nu,hqe⟩:=hnew
  have hw2:=(cf ho nu).2;refine h.pR.up 0 (fun j hj=>by rcases j with _ | _ | _ | _ | _ <;> first | rfl | exact absurd rfl hj) (fun q hq'=> ?_) (by omega) hsz;have h5:q∈blk a:=by simpa [four,bM] using hq'
  rcases hq q h5 with h6 | h6
  ·exact .inl (by rw [h6]; simp [four,bM])
  ·exact .inr h6
 ·have hall: ∀ q∈blk a,q=g0:=fun q hq'=>(hq q hq').resolve_right fun e=>hnew ⟨q,hq',e⟩
  refine mJ.mono (n:=w.heap.size) ⟨fun i i2 hij q hi hi2=> ?_,fun i q hi=> ?_⟩ hz
  ·have e1: ∀ i,∀ q∈four (bM true true g0 a) (bM b1 d1 g1 a1) [] (bif b3 then [o] else []) i,q∈four (bM true false g0 a0) (bM b1 d1 g1 a1) [] (bif b3 then [o] else []) i:=fun i q hq'=>by
    by_cases ei:i=0
    ·subst ei
     have h5:q∈blk a:=by simpa [four,bM] using hq'
     rw [hall q h5];simp [four,bM]
    ·rcases i with _ | _ | _ | _ | _ <;> first | exact hq' | exact absurd rfl ei
   exact h.pR.apart i i2 hij q (e1 i q hi) (e1 i2 q hi2)
  ·by_cases ei:i=0
   ·subst ei
    have h5:q∈blk a:=by simpa [four,bM] using hi
    rw [hall q h5];exact hgl
   ·exact h.pR.xy i q (by rcases i with _ | _ | _ | _ | _ <;> first | exact hi | exact absurd rfl ei)
theorem Zg.aa2 {w2:World} {a:Option Addr} {c:Nat} (h:Zg k We w b0 d0 f true false b3 d3 e g0 g1 o a0 a1 c0 c1) (ho:w2.ownsRow (We.heap.size+2) 80 4 (.slice a k.eC.length c) k.eC.length (hM.flat k.eC)) (hg:w.grownBy w2 (some g1)) (hq: ∀ q∈blk a,q=g1∨q=w.heap.size):Zg k We w2 b0 d0 f true true b3 d3 e g0 g1 o a0 a c0 c:=by
 have hlt: ∀ i,∀ q∈four (bM b0 d0 g0 a0) (bM true false g1 a1) [] (bif b3 then [o] else []) i,q < w.heap.size:=fun i q hq=>(h.pR.xy i q hq).2
 have hgl:We.heap.size+2≤g1∧g1 < w.heap.size:=h.pR.xy 1 g1 (by simp [four,bM]);have hne: ∀ i,i≠1→ ∀ q∈four (bM b0 d0 g0 a0) (bM true false g1 a1) [] (bif b3 then [o] else []) i,w2.heap[q]? =w.heap[q]? :=fun i hi q hq=>hg.block q (hlt i q hq) fun e=>h.pR.apart i 1 hi q hq (by rw [KC e]; simp [four,bM])
 have hbe:Below We.heap.size We w2:=h.cd.grown hg (by have:=h.size; omega) (fun k hk=>by cases hk; omega);have he:e=false:=by cases hx:e with | false=>rfl | true=>have:=(h.cl.1 hx).2; simp at this
 have hd:d3=false:=by cases hx:d3 with | false=>rfl | true=>have:=(h.cl.2.1 hx).1; rw [he] at this; cases this
 subst he hd;have hz:=hg.size;have hsz:=h.size;refine ⟨hbe,(hg.block _ (by omega) (fun e=>by have:=KC e; omega)).trans h.src,(hg.block _ (by omega) (fun e=>by have:=KC e; omega)).trans h.ret,h.s0.same fun q hq=>hne 0 (by decide) q hq,⟨(fun _ hd=>by cases hd),fun _=>ho⟩,fun e=>(hne 3 (by decide) o (by simp [four,e])).trans (h.I e),⟨(fun e=>by cases e),(fun e=>by cases e),h.cl.2.2⟩,by omega,?_,h.som⟩;by_cases hnew: ∃ q∈blk a,q=w.heap.size
 ·obtain ⟨q0,nu,hqe⟩:=hnew
  have hw2:=(cf ho nu).2;refine h.pR.up 1 (fun j hj=>by rcases j with _ | _ | _ | _ | _ <;> first | rfl | exact absurd rfl hj) (fun q hq'=> ?_) (by omega) hsz;have h5:q∈blk a:=by simpa [four,bM] using hq'
  rcases hq q h5 with h6 | h6
  ·exact .inl (by rw [h6]; simp [four,bM])
  ·exact .inr h6
 ·have hall: ∀ q∈blk a,q=g1:=fun q hq'=>(hq q hq').resolve_right fun e=>hnew ⟨q,hq',e⟩
  refine mJ.mono (n:=w.heap.size) ⟨fun i i2 hij q hi hi2=> ?_,fun i q hi=> ?_⟩ hz
  ·have e1: ∀ i,∀ q∈four (bM b0 d0 g0 a0) (bM true true g1 a) [] (bif b3 then [o] else []) i,q∈four (bM b0 d0 g0 a0) (bM true false g1 a1) [] (bif b3 then [o] else []) i:=fun i q hq'=>by
    by_cases ei:i=1
    ·subst ei
     have h5:q∈blk a:=by simpa [four,bM] using hq'
     rw [hall q h5];simp [four,bM]
    ·rcases i with _ | _ | _ | _ | _ <;> first | exact hq' | exact absurd rfl ei
   exact h.pR.apart i i2 hij q (e1 i q hi) (e1 i2 q hi2)
  ·by_cases ei:i=1
   ·subst ei
    have h5:q∈blk a:=by simpa [four,bM] using hi
    rw [hall q h5];exact hgl
   ·exact h.pR.xy i q (by rcases i with _ | _ | _ | _ | _ <;> first | exact hi | exact absurd rfl ei)
theorem Zg.aa9 (h:Zg k We w b0 d0 f b1 d1 false false e g0 g1 o a0 a1 c0 c1):Zg k We (w.alloc (.cells T9 37)) b0 d0 f b1 d1 true false e g0 g1 w.heap.size a0 a1 c0 c1:=by
 have hb:Below w.heap.size w (w.alloc (.cells T9 37)):=(Kp _ _).alloc (Ki _) _;have hlt: ∀ i,∀ q∈four (bM b0 d0 g0 a0) (bM b1 d1 g1 a1) [] (bif false then [o] else []) i,q < w.heap.size:=fun i q hq=>(h.pR.xy i q hq).2
 exact ⟨h.cd.trans (hb.mono h.cd.size),(hb.block _ (by have:=h.size; omega)).trans h.src,(hb.block _ (by have:=h.size; omega)).trans h.ret,h.s0.same fun q hq=>hb.block q (hlt 0 q hq),h.s1.same fun q hq=>hb.block q (hlt 1 q hq),fun _=>Kj _ _,⟨h.cl.1,(fun e=>by cases e),h.cl.2.2⟩,by have:=h.size; simp; omega,h.pR.up 3 (fun j hj=>by rcases j with _ | _ | _ | _ | _ <;> first | rfl | exact absurd rfl hj) (fun q hq=> .inr (by simpa [four] using hq)) (by simp) h.size,h.som⟩
theorem Zg.frame (h:Zg k We w b0 d0 false b1 d1 b3 d3 e g0 g1 o a0 a1 c0 c1) (h0:d0=true):Zg k We w b0 d0 true b1 d1 b3 d3 e g0 g1 o a0 a1 c0 c1:=⟨h.cd,h.src,h.ret,h.s0,h.s1,h.I,⟨fun he=>⟨rfl,(h.cl.1 he).2⟩,h.cl.2.1,fun _=>h0⟩,h.size,h.pR,h.som⟩
theorem Zg.build (h:Zg k We w b0 d0 f b1 d1 b3 d3 false g0 g1 o a0 a1 c0 c1) (h0:f=true) (h1:d1=true):Zg k We w b0 d0 f b1 d1 b3 d3 true g0 g1 o a0 a1 c0 c1:=⟨h.cd,h.src,h.ret,h.s0,h.s1,h.I,⟨fun _=>⟨h0,h1⟩,fun hd=>⟨rfl,(h.cl.2.1 hd).2⟩,h.cl.2.2⟩,h.size,h.pR,h.som⟩
theorem Zg.store (h:Zg k We w b0 d0 f b1 d1 true false true g0 g1 o a0 a1 c0 c1):Zg k We (w.setRow o #[.int .i64 k.now,.int .i64 k.major,.slice a0 k.fn.length c0,.slice none 0 0,.slice a1 k.eC.length c1]) b0 d0 f b1 d1 true true true g0 g1 o a0 a1 c0 c1:=by
 have ho:=h.pR.xy 3 o (by simp [four]);have hne: ∀ q,q≠o→(w.setRow o #[.int .i64 k.now,.int .i64 k.major,.slice a0 k.fn.length c0,.slice none 0 0,.slice a1 k.eC.length c1]).heap[q]? =w.heap[q]? :=fun q hq=>setRow_other _ _ _ _ hq
 have hap: ∀ i,i≠3→ ∀ q∈four (bM b0 d0 g0 a0) (bM b1 d1 g1 a1) [] (bif true then [o] else []) i,q≠o:=fun i hi q hq e=>h.pR.apart i 3 hi q hq (by subst e; simp [four])
 have hsz:=h.size;exact ⟨kz h.cd (by omega) _,(hne _ (by omega)).trans h.src,(hne _ (by omega)).trans h.ret,h.s0.same fun q hq=>hne q (hap 0 (by decide) q hq),h.s1.same fun q hq=>hne q (hap 1 (by decide) q hq),fun _=>setRow_heap _ _ _ _ _ _ (h.I rfl),⟨h.cl.1,(fun _=>⟨rfl,rfl⟩),h.cl.2.2⟩,by rw [size_setRow]; exact h.size,by rw [size_setRow]; exact h.pR,h.som⟩
end
theorem aaL {l:List pA} : ∀ u∈jq.flat l,u.oneCell'=true:=fun u hu=>by
 obtain ⟨x,_,hx⟩:=Rt.1 hu;simp only [jq,VE,Kt,Ku,or_false] at hx;rcases hx with rfl | rfl | rfl <;> rfl
theorem ZS:(Tryz.prog.info? 100).map (fun i=>(i.zero,i.size,i.bytes))=some (some (.agg #[.int .i64 0,.int .i64 0,.int .i64 0]),3,24):=by kernel_rfl
theorem aaG (w:World) (base g:Nat) (hg:w.heap[g]? =some (.cells #[] 100 (0,0))) (hbg:base≤g) (a:Option Addr) (l:List pA) (cap:Nat) (h:Row w a (jq.flat l)) (hl:l.length≤1048576) (lY:base≤w.heap.size):
  ∃ a' cap' w',(Builtin.append_ #[31,31] 31 #[.slice (some ⟨g,0,none⟩) 0 0,.slice a l.length cap]).run J3 w= .ok (.slice a' l.length cap') w'∧w'.ownsRow base 100 3 (.slice a' l.length cap') l.length (jq.flat l)∧w.grownBy w' (some g)∧ ∀ q∈blk a',q=g∨q=w.heap.size:=by
 obtain ⟨i,hi,e⟩:=Kw.1 ZS;simp only [Kx] at e;exact kK w base _ _ 100 i _ 3 24 adZ hi e.1 e.2.1 e.2.2 rfl (by decide) g hg hbg a l.length cap _ h (jq.dM l) aaL hl (by decide) lY
theorem abu {l:List eQ} : ∀ u∈hM.flat l,u.oneCell'=true:=fun u hu=>by
 obtain ⟨x,_,hx⟩:=Rt.1 hu;simp only [hM,Vg,Kt,Ku,or_false] at hx;rcases hx with rfl | rfl | rfl | rfl <;> rfl
theorem aaN:(Tryz.prog.info? 80).map (fun i=>(i.zero,i.size,i.bytes))=some (some (.agg #[.int .i64 0,.int .i64 0,.int .i64 0,.int .i64 0]),4,32):=by kernel_rfl
theorem abd (w:World) (base g:Nat) (hg:w.heap[g]? =some (.cells #[] 80 (0,0))) (hbg:base≤g) (a:Option Addr) (l:List eQ) (cap:Nat) (h:Row w a (hM.flat l)) (hl:l.length≤1048576) (lY:base≤w.heap.size):
  ∃ a' cap' w',(Builtin.append_ #[35,35] 35 #[.slice (some ⟨g,0,none⟩) 0 0,.slice a l.length cap]).run J3 w= .ok (.slice a' l.length cap') w'∧w'.ownsRow base 80 4 (.slice a' l.length cap') l.length (hM.flat l)∧w.grownBy w' (some g)∧ ∀ q∈blk a',q=g∨q=w.heap.size:=by
 obtain ⟨i,hi,e⟩:=Kw.1 aaN;simp only [Kx] at e;exact kK w base _ _ 80 i _ 4 32 Tryz.underlying35 hi e.1 e.2.1 e.2.2 rfl (by decide) g hg hbg a l.length cap _ h (hM.dM l) abu hl (by decide) lY
theorem aaU (w:World) (base g:Nat) (hg:w.heap[g]? =some (.cells #[] 100 (0,0))) (hbg:base≤g) (a:Option Addr) (l:List pA) (cap:Nat) (h:Row w a (jq.flat l)) (hl:l.length≤1048576) (lY:base≤w.heap.size):
  ∃ a' cap' w',(Builtin.append_ #[31,31] 31 #[.slice (some ⟨g,0,none⟩) 0 0,.slice a l.length cap]).run J3 w= .ok (.slice a' l.length cap') w'∧w'.ownsRow base 100 3 (.slice a' l.length cap') l.length (jq.flat l)∧w.grownBy w' (some g)∧(∀ q∈blk a',q=g∨q=w.heap.size)∧ ∃ q,a'=some ⟨q,0,none⟩:=by
 cases l with
 | nil=>
  obtain ⟨i,hi,e⟩:=Kw.1 ZS;simp only [Kx] at e;refine ⟨some ⟨g,0,none⟩,0,w,?_,i6 hg hbg,⟨rfl,rfl,rfl,Ki _,fun _ _ _=>rfl⟩,(fun q hq=>by simp [blk] at hq; exact .inl hq),g,rfl⟩;cases a with
  | none=>simp [Builtin.append_,T0 adZ,sizeOf,typeInfo,hi,Builtin.lenOf,Builtin.firstCells,storeCells]
  | some ad=>simp [Builtin.append_,T0 adZ,sizeOf,typeInfo,hi,Builtin.lenOf,Builtin.firstCells,storeCells,loadCells,loadCellsFrom]
 | cons x r=>
  obtain ⟨a',c',w',h1,h2,h3,h4⟩:=aaG w base g hg hbg a (x :: r) cap h hl lY;refine ⟨a',c',w',h1,h2,h3,h4,?_⟩;obtain ⟨a2,c2,e2,hr⟩:=cr h2;cases e2;obtain ⟨q,hq,-⟩:=hr 0 (.int .i64 x.at_) (by simp [Kind.flat,jq,VE]);exact ⟨q,hq⟩
end
section
open Go.RowKit Go.Maps
structure YR (B lo:Nat) (I:List af) (a:Option Addr) (cap:Nat) (W:World):Prop where
 own:W.ownsRow B 48 8 (.slice a I.length cap) I.length (kp.flat I)
 mine: ∀ p∈I,ap W lo p
 nodup:(blk a ++ I.flatMap af.Mc).Nodup
section
variable {B lo cap:Nat} {I:List af} {a:Option Addr} {W W1 W2:World} {r:af}
theorem YR.start (B lo:Nat) (W:World):YR B lo [] none 0 W:=⟨World.ownsRow_nil _ _ _ _,fun p hp=>(by cases hp),by simp [blk]⟩
theorem YR.below (h:YR B lo I a cap W) (hb:Below W.heap.size W W1):YR B lo I a cap W1:=⟨cR h.own hb,fun p hp=>(h.mine p hp).below hb,h.nodup⟩
theorem YR.lt (h:YR B lo I a cap W): ∀ g∈blk a ++ I.flatMap af.Mc,g < W.heap.size:=fun g hg=>by
 rcases Kg.1 hg with hg | hg
 ·exact (cf h.own hg).2
 ·obtain ⟨p,hp,l9⟩:=Rt.1 hg
  exact ((h.mine p hp).lt g l9).2
theorem YR.same (h:YR B lo I a cap W) (hs: ∀ g∈blk a ++ I.flatMap af.Mc,W1.heap[g]? =W.heap[g]?):YR B lo I a cap W1:=
 ⟨aL h.own fun g hg=>hs g (Lz _ hg),fun p hp=>(h.mine p hp).same fun g hg=>hs g (Ly _ (Rt.2 ⟨p,hp,hg⟩)),h.nodup⟩
theorem YR.more {a2:Option Addr} {Ta:Nat} (h:YR B lo I a cap W) (hr:ap W lo r) (hf: ∀ g∈r.Mc,g∉blk a ++ I.flatMap af.Mc) (ho:W2.ownsRow B 48 8 (.slice a2 (I.length+1) Ta) (I.length+1) (kp.flat I ++ r.cells.toList)) (hk:aI W W2 (blk a)) (hb: ∀ g∈blk a2,g∈blk a∨W.heap.size≤g):YR B lo (I ++ [r]) a2 Ta W2:=by
 have hn:=Kf.1 h.nodup;have aS:kp.flat (I ++ [r])=kp.flat I ++ r.cells.toList:=by simp [Kind.flat,kp,UU]
 refine ⟨by rw [Lf,adg,aS]; exact ho,fun p hp=> ?_,?_⟩
 ·have hm:ap W lo p∧ ∀ g∈p.Mc,g∉blk a:=by
   rcases Kg.1 hp with hp | hp
   ·exact ⟨h.mine p hp,fun g hg hm=>hn.2.2 g hm g (Rt.2 ⟨p,hp,hg⟩) rfl⟩
   ·rw [KB.1 hp]
    exact ⟨hr,fun g hg hm=>hf g hg (Lz _ hm)⟩
  exact hm.1.same fun g hg=>hk.same g (hm.1.lt g hg).2 (hm.2 g hg)
 ·rw [aej]
  have e: [r].flatMap af.Mc=r.Mc:=by simp
  rw [e];refine Kf.2 ⟨?_,Kf.2 ⟨hn.2.1,hr.nodup,fun g hg g' hg' e=>hf g' hg' (Ly _ (by rw [← e]; exact hg))⟩,fun g hg g' hg' e=> ?_⟩
  ·cases a2 with
   | none=>simp [blk]
   | some ad=>simp [blk]
  ·subst e
   have hlt:g < W.heap.size∧g∉blk a:=by
    rcases Kg.1 hg' with hg' | hg'
    ·exact ⟨h.lt g (Ly _ hg'),fun hm=>hn.2.2 g hm g hg' rfl⟩
    ·exact ⟨(hr.lt g hg').2,fun hm=>hf g hg' (Lz _ hm)⟩
   rcases hb g hg with h5 | h5
   ·exact hlt.2 h5
   ·omega
end
theorem aas:(Tryz.prog.info? 48).map (fun i=>(i.zero,i.size,i.bytes))=some (some (.agg ar),8,160):=by kernel_rfl
theorem aaw {B lo cap:Nat} {I:List af} {a:Option Addr} {W:World} {r:af} (h:YR B lo I a cap W) (hr:ap W lo r) (hf: ∀ g∈r.Mc,g∉blk a ++ I.flatMap af.Mc) (hn:I.length≤1048576) (hb:B≤W.heap.size):
  ∃ a' cap' w',(Builtin.append_ #[34,34] 34 #[.slice a I.length cap,.slice (some ⟨W.heap.size,0,none⟩) 1 1]).run J3 (W.alloc (.cells r.cells 48))= .ok (.slice a' (I.length+1) cap') w'∧YR B lo (I ++ [r]) a' cap' w'∧aI W w' (blk a)∧ ∀ g∈blk a',g∈blk a∨W.heap.size≤g:=by
 obtain ⟨a',cap',w',h1,h2,h3,h4⟩:=aad Tryz.underlying34 aas rfl (by decide) (by decide) r.cells rfl (fun u hu=>by
  simp only [af.cells,Kt,Ku,or_false] at hu;rcases hu with rfl | rfl | rfl | rfl | rfl | rfl | rfl | rfl <;> rfl) h.own hn hb
 exact ⟨a',cap',w',h1,h.more hr hf h2 h3 h4,h3,h4⟩
end
section
open Go.RowKit

end
section
open Go.RowKit
attribute [local go_sem ↓] Kc Kd
def V0 (p:af):Nat:=2+fb p
def V9 (k:Int) (p:af):af:=nF (k+1+1) { p with id:=k,next:=k+1 }
theorem WD (k:Int) (p:af):kp.vals (nF k p)=kp.vals p:=by
 simp [kp,UU,af.cells,nF,bE]
theorem Wi (k:Int) (p:af):(nF k p).Mc=p.Mc:=by
 simp only [nF,af.Mc,pr (N:=aR) (f:=cw) (c:=bj) (fun _ _=>rfl),pr (N:=aC) (f:=dy) (c:=bN) (fun _ _=>rfl),pr (N:=aU) (f:=fU) (c:=eo) (fun _ _=>rfl)]
theorem Wp (k:Int) (p:af):(V9 k p).Mc=p.Mc:=Wi _ _
structure VT (w:World) (base g cap:Nat) (l:List af) (wr:World):Prop where
 row:bl kp 48 wr base g cap l
 mine: ∀ p∈l,ap wr base p
 nodup:(g :: l.flatMap af.Mc).Nodup
 kept:aI w wr (g :: l.flatMap af.Mc)
theorem VT.apart {w wr:World} {base gs cap:Nat} {A B:List af} {x:af} (h:VT w base gs cap (A ++ x :: B) wr):gs∉x.Mc∧ ∀ y,y∈A∨y∈B→ ∀ b∈y.Mc,b∉x.Mc∧b≠gs:=by
 have hn:=h.nodup;rw [aej,aez,Lp,Kf,Kf] at hn;obtain ⟨h1,h2,⟨h3,h4,h5⟩,h6⟩:=hn;refine ⟨fun hm=>h1 (Ly _ (Lz _ hm)),fun y hy b hb=>⟨fun hx=> ?_,fun e=> ?_⟩⟩
 ·rcases hy with hy | hy
  ·exact h6 b (Rt.2 ⟨y,hy,hb⟩) b (Lz _ hx) rfl
  ·exact h5 b hx b (Rt.2 ⟨y,hy,hb⟩) rfl
 ·subst e
  rcases hy with hy | hy
  ·exact h1 (Lz _ (Rt.2 ⟨y,hy,hb⟩))
  ·exact h1 (Ly _ (Ly _ (Rt.2 ⟨y,hy,hb⟩)))
theorem VT.ju {w wr W:World} {base gs cap:Nat} {A B:List af} {x y:af} (h:VT w base gs cap (A ++ x :: B) wr) (hr:bl kp 48 W base gs cap (A ++ y :: B)) (ho:ap W base y) (hb:y.Mc=x.Mc) (hk:aI wr W (gs :: x.Mc)):VT w base gs cap (A ++ y :: B) W:=by
 have e:(A ++ y :: B).flatMap af.Mc=(A ++ x :: B).flatMap af.Mc:=by simp only [aej,aez,hb]
 obtain ⟨-,hap⟩:=h.apart;refine ⟨hr,fun z hz=> ?_,by rw [e]; exact h.nodup,by rw [e]; exact h.kept.trans (hk.mono fun b hb2=>by
  rcases Kt.1 hb2 with rfl | hb2
  ·exact LA
  ·exact LB _ (by rw [aej,aez]; exact Ly _ (Lz _ hb2)))⟩
 have hz2:z=y∨(z∈A∨z∈B):=by
  rcases Kg.1 hz with hz | hz
  ·exact .inr (.inl hz)
  ·rcases Kt.1 hz with hz | hz
   ·exact .inl hz
   ·exact .inr (.inr hz)
 rcases hz2 with rfl | hz2
 ·exact ho
 ·have hmz:ap wr base z:=h.mine z (by rcases hz2 with hz2 | hz2 <;> simp [hz2])
  exact hmz.same fun b hb2=>hk.same b (hmz.lt b hb2).2 fun hm=>by
   rcases Kt.1 hm with hm | hm
   ·exact (hap z hz2 b hb2).2 hm
   ·exact (hap z hz2 b hb2).1 hm
theorem bl.vals {w:World} {base g cap:Nat} {A B:List af} {x y:af} (h:bl kp 48 w base g cap (A ++ x :: B)) (hv:kp.vals y=kp.vals x):bl kp 48 w base g cap (A ++ y :: B):=by
 obtain ⟨cur,h1,h2,h3,h4,h5,h6⟩:=h;refine ⟨cur,h1,h2,by simpa using h3,h4,h5,?_⟩;have e:kp.flat (A ++ y :: B)=kp.flat (A ++ x :: B):=by simp only [Kind.flat,aej,aez,hv]
 rw [e,← h6];simp
theorem ap.numbers {w:World} {base:Nat} {p:af} (h:ap w base p) (a b:Int):ap w base { p with id:=a,next:=b } :=⟨h.L8,h.aj,h.L9,h.ag,h.ae,h.ai,h.eI,h.eE,h.eR,h.nodup⟩
theorem Wc: ∀ (k:Int) (l:List af),(aJ V9 V0 k l).flatMap af.Mc=l.flatMap af.Mc
 | _,[] =>rfl
 | k,x :: r=>by simp only [aJ,aez,Wp,Wc (k+V0 x) r]
abbrev mkQ0 (p:af) (m:Int):af:= { p with L8:=aJ cw bj (m+1+1) p.L8,aj:=aJ hJ (fun _=>3) (m+1+1+(aF bj p.L8:Nat)) p.aj,L9:=aJ eM (fun _=>2) (m+1+1+(aF bj p.L8:Nat)+(aF (fun _=>3) p.aj:Nat)) p.L9,ag:=aJ dZ (fun _=>3) (m+1+1+(aF bj p.L8:Nat)+(aF (fun _=>3) p.aj:Nat)+(aF (fun _=>2) p.L9:Nat)) p.ag,ae:=aJ dy bN (m+1+1+(aF bj p.L8:Nat)+(aF (fun _=>3) p.aj:Nat)+(aF (fun _=>2) p.L9:Nat)+(aF (fun _=>3) p.ag:Nat)) p.ae }
abbrev mkQ1 (p:af) (m:Int):af:= { p with L8:=aJ cw bj (m+1+1) p.L8,aj:=aJ hJ (fun _=>3) (m+1+1+(aF bj p.L8:Nat)) p.aj,L9:=aJ eM (fun _=>2) (m+1+1+(aF bj p.L8:Nat)+(aF (fun _=>3) p.aj:Nat)) p.L9,ag:=aJ dZ (fun _=>3) (m+1+1+(aF bj p.L8:Nat)+(aF (fun _=>3) p.aj:Nat)+(aF (fun _=>2) p.L9:Nat)) p.ag }
theorem Wz (a:Option Addr) (l:List af) (cap:Nat) (k:Int) (w:World) (base:Nat) (hl:l.length≤1048576) (hc: ∀ p∈l,p.WN) (h0:1≤k) (h1:k+(aF V0 l:Nat)≤90000000) (ho:w.ownsRow base 48 8 (.slice a l.length cap) l.length (kp.flat l)) (hm: ∀ p∈l,ap w base p) (hn:(blk a ++ l.flatMap af.Mc).Nodup):
  Calls J3 55 #[.slice a l.length cap,.int .i64 k] w fun e w'=>e= .returned (.int .i64 (k+(aF V0 l:Nat)))∧(w'.ownsRow base 48 8 (.slice a l.length cap) l.length (kp.flat (aJ V9 V0 k l))∧ ∀ q∈aJ V9 V0 k l,ap w' base q)∧aI w w' (blk a ++ l.flatMap af.Mc):=by
 by_cases hz:l.length=0
 ·have hl0:l= [] :=List.eq_nil_of_length_eq_zero hz
  subst hl0;have HO:Hid (w.ownsRow base 48 8 (.slice a 0 cap) 0 (kp.flat [])):=ho;clear ho hm hn hc
  go_enter Tryz.func55,Tryz.ntmps55
  go_wp2_with fail
  go_loopw [1,5] (fun q i wr=>q= .int .i64 k∧i= .int .i64 0∧wr=w) (fun _ _ _=>0)
  case atStart=>exact ⟨rfl,rfl,rfl⟩
  case round=>
   obtain ⟨rfl,rfl,rfl⟩:=hrel;go_wp2;go_ret;exact ⟨ck (by simp [aF]),⟨HO.I,fun q hq=>by cases hq⟩,aI.refl _ _⟩
 obtain ⟨g,rfl,hrow⟩:=bl.fX (K:=kp) ho hz;have HR:Hid (VT w base g cap l w):=⟨hrow,hm,by simpa [blk] using hn,aI.refl _ _⟩
 have HB:Hid (k+(aF V0 l:Nat)≤90000000∧ ∀ p∈l,p.WN):=⟨h1,hc⟩
 clear ho hrow h1 hz hm hn hc
 go_enter Tryz.func55,Tryz.ntmps55
 go_wp2_with fail
 go_loopw [1,5] (fun q i wr=> ∃ (j:Nat) (m:Int),j≤l.length∧i= .int .i64 j∧q= .int .i64 m∧1≤m∧m≤90000000∧Hid (m=k+(aF V0 (l.take j):Nat)∧VT w base g cap (aJ V9 V0 k (l.take j) ++ l.drop j) wr)) (fun _ i _=>l.length - (Go.RowKit.intOf i).toNat)
 case atStart=>exact ⟨0,k,Nat.zero_le _,rfl,rfl,h0,by have:=HB.I.1; omega,⟨by simp [aF],by simpa [aJ] using HR.I⟩⟩
 case round=>
  clear HR;obtain ⟨j,m,hj,rfl,rfl,m0,m1,HA⟩:=hrel;by_cases hlt:j < l.length
  ·have i0:(0:Int)≤(j:Int):=by omega
   have i1:(j:Int) < (l.length:Int):=by omega
   obtain ⟨x,hx⟩: ∃ x,l[j]? =some x:=⟨_,Kz hlt⟩
   have pI:l.drop j=x :: l.drop (j+1):=mz hx;have qw:=du (c:=V0) hx;have hup:=gK (c:=V0) hx;obtain ⟨p,hp⟩: ∃ p:af,p= { x with id:=m,next:=m+1 } :=⟨_,rfl⟩
   have Vu:fb p=fb x:=by rw [hp]; rfl
   have hcx:V0 x=2+fb x:=rfl;have HX:Hid (l[j]? =some x∧m+2+(fb p:Nat)=k+(aF V0 (l.take (j+1)):Nat)):=⟨hx,by have:=HA.I.1; omega⟩
   have h2:m+1+1+(fb p:Nat)≤90000000:=by have:=HB.I.1; have:=HA.I.1; omega
   have WM:Hid (p.WN∧nF (m+1+1) p=V9 m x∧p.Mc=x.Mc):=⟨by rw [hp]; have:=HB.I.2 x (KA hx); exact ⟨this.1,this.2,this.3,this.4,this.5,this.6,this.7,this.8,this.9⟩,by rw [hp]; rfl,by rw [hp]; rfl⟩
   obtain ⟨A,hA⟩: ∃ A,aJ V9 V0 k (l.take j)=A:=⟨_,rfl⟩
   obtain ⟨B,hB⟩: ∃ B,l.drop (j+1)=B:=⟨_,rfl⟩
   have WY:Hid (A.length=j∧aJ V9 V0 k (l.take (j+1)) ++ l.drop (j+1)=A ++ V9 m x :: B):=⟨by rw [← hA,bE,List.length_take]; omega,by rw [kE hx,← HA.I.1,hA,hB]; simp⟩
   have HS:Hid (VT w base g cap (A ++ x :: B) wr):=by have:=HA.I.2; rwa [pI,hA,hB] at this
   have hgl:g < wr.heap.size:=HS.I.row.lt;obtain ⟨⟨u0,c0⟩,f0⟩:(∃ u,wr.cell? ⟨g,j * 8,none⟩=some u)∧wr.frozen? ⟨g,j * 8,none⟩=false:=bl.eO HS.I.row WY.I.1 (r:=0) (by decide:0 < kp.n);obtain ⟨⟨u1,c1⟩,f1⟩:(∃ u,wr.cell? ⟨g,j * 8+1,none⟩=some u)∧wr.frozen? ⟨g,j * 8+1,none⟩=false:=bl.eO HS.I.row WY.I.1 (r:=1) (by decide:1 < kp.n);have h5:=bl.part (K:=kp) (x:=x) (y:=p) (j:=0) (vs:= [.int .i64 m,.int .i64 (m+1)]) HS.I.row (by show 0+2≤8; omega) (fun r hr=>by rw [hp]; match r,hr with | 0,_=>rfl | 1,_=>rfl) (fun r hr hn=>by rw [hp]; match r,hr,hn with | 0,_,hn=>exact absurd ⟨by omega,by show 0 < 0+2; omega⟩ hn | 1,_,hn=>exact absurd ⟨by omega,by show 1 < 0+2; omega⟩ hn | 2,_,_=>rfl | 3,_,_=>rfl | 4,_,_=>rfl | 5,_,_=>rfl | 6,_,_=>rfl | 7,_,_=>rfl);rw [WY.I.1,show kp.n=8 from rfl] at h5;simp only [bn,Nat.add_zero] at h5;have h6:aI wr (bn wr g (j * 8) [.int .i64 m,.int .i64 (m+1)]) (g :: p.Mc):=aI.set _ (by simp);simp only [bn] at h6;have td:ap wr base p:=by rw [hp]; exact (HS.I.mine x (by simp)).numbers m (m+1)
   have ud:Hid (g∉p.Mc):=by show g∉p.Mc; rw [WM.I.2.2]; exact HS.I.apart.1
   have h7:ap ((wr.setCell ⟨g,j * 8,none⟩ (.int .i64 m)).setCell ⟨g,j * 8+1,none⟩ (.int .i64 (m+1))) base p:=td.same fun b hb=>(ac5 _ _ _ _ (fun e=>ud.I (by have e2:b=g:=e; rw [← e2]; exact hb))).trans (ac5 _ _ _ _ (fun e=>ud.I (by have e2:b=g:=e; rw [← e2]; exact hb)))
   have HY:Hid (bl kp 48 ((wr.setCell ⟨g,j * 8,none⟩ (.int .i64 m)).setCell ⟨g,j * 8+1,none⟩ (.int .i64 (m+1))) base g cap (A ++ p :: B)∧ap ((wr.setCell ⟨g,j * 8,none⟩ (.int .i64 m)).setCell ⟨g,j * 8+1,none⟩ (.int .i64 (m+1))) base p∧aI wr ((wr.setCell ⟨g,j * 8,none⟩ (.int .i64 m)).setCell ⟨g,j * 8+1,none⟩ (.int .i64 (m+1))) (g :: p.Mc)):=⟨h5,h7,h6⟩
   clear h5 h6 h7 td hp Vu hcx qw hup pI hx hA hB;go_upto_region 8 with fail;clear c0 c1 f0 f1;generalize (wr.setCell ⟨g,j * 8,none⟩ (.int .i64 m)).setCell ⟨g,j * 8+1,none⟩ (.int .i64 (m+1))=W0 at *;have q0:1≤m+1+1∧m+1+1+(aF bj p.L8:Nat)≤90000000:=by have:=h2; unfold fb at this; omega
   have q1:1≤m+1+1+(aF bj p.L8:Nat)∧m+1+1+(aF bj p.L8:Nat)+(aF (fun _=>3) p.aj:Nat)≤90000000:=by have:=h2; unfold fb at this; omega
   have q2:1≤m+1+1+(aF bj p.L8:Nat)+(aF (fun _=>3) p.aj:Nat)∧m+1+1+(aF bj p.L8:Nat)+(aF (fun _=>3) p.aj:Nat)+(aF (fun _=>2) p.L9:Nat)≤90000000:=by have:=h2; unfold fb at this; omega
   have q3:1≤m+1+1+(aF bj p.L8:Nat)+(aF (fun _=>3) p.aj:Nat)+(aF (fun _=>2) p.L9:Nat)∧m+1+1+(aF bj p.L8:Nat)+(aF (fun _=>3) p.aj:Nat)+(aF (fun _=>2) p.L9:Nat)+(aF (fun _=>3) p.ag:Nat)≤90000000:=by have:=h2; unfold fb at this; omega
   have q4:1≤m+1+1+(aF bj p.L8:Nat)+(aF (fun _=>3) p.aj:Nat)+(aF (fun _=>2) p.L9:Nat)+(aF (fun _=>3) p.ag:Nat)∧m+1+1+(aF bj p.L8:Nat)+(aF (fun _=>3) p.aj:Nat)+(aF (fun _=>2) p.L9:Nat)+(aF (fun _=>3) p.ag:Nat)+(aF bN p.ae:Nat)≤90000000:=by have:=h2; unfold fb at this; omega
   have q5:1≤m+1+1+(aF bj p.L8:Nat)+(aF (fun _=>3) p.aj:Nat)+(aF (fun _=>2) p.L9:Nat)+(aF (fun _=>3) p.ag:Nat)+(aF bN p.ae:Nat)∧m+1+1+(aF bj p.L8:Nat)+(aF (fun _=>3) p.aj:Nat)+(aF (fun _=>2) p.L9:Nat)+(aF (fun _=>3) p.ag:Nat)+(aF bN p.ae:Nat)+(aF eo p.ai:Nat)≤90000000:=by have:=h2; unfold fb at this; omega
   have HZ:=HY;clear HY;have c0:W0.cell? ⟨g,j * 8+2,none⟩=some (.slice p.aN p.L8.length p.aW):=bl.uD HZ.I.1 WY.I.1 (r:=2) (by decide:2 < kp.n);go_wp2_with fail;clear c0;refine (BB p.aN p.L8 p.aW (m+1+1) W0 base WM.I.1.dl WM.I.1.L8 q0.1 q0.2 HZ.I.2.1.L8 HZ.I.2.1.eI (by
    have h5:=HZ.I.2.1.nodup;have h6:af.Mc p=p.Mc:=rfl;rw [h6,show p.Mc= [] ++ ((blk p.aN ++ p.L8.filterMap aR.bt) ++ (afo p)) by simp [af.Mc,Lm]] at h5;exact (Kf.1 (Kf.1 h5).2.1).1)).mono ?_
   rintro e W1 ⟨rfl,how,Ji,hkb⟩;have ht:=HZ.I.2.1.As how (bE _ _ _ _) Ji (pr (N:=aR) (f:=cw) (c:=bj) (fun _ _=>rfl) _ _) hkb;have HQ1:Hid (af.Mc ({ p with L8:=aJ cw bj (m+1+1) p.L8 } :af)=p.Mc):=ht.2.trans rfl;have hsub: ∀ b∈blk p.aN ++ p.L8.filterMap aR.bt,b∈p.Mc:=fun b hb=>by rw [show p.Mc= [] ++ ((blk p.aN ++ p.L8.filterMap aR.bt) ++ (afo p)) by simp [af.Mc,Lm]]; exact Ly _ (Lz _ hb)
   have HY:Hid (bl kp 48 W1 base g cap (A ++ p :: B)∧ap W1 base ({ p with L8:=aJ cw bj (m+1+1) p.L8 } :af)∧aI wr W1 (g :: p.Mc)):=⟨HZ.I.1.same (hkb.same g HZ.I.1.lt fun hm=>ud.I (hsub _ hm)),ht.1,HZ.I.2.2.trans (hkb.mono fun b hb=>LB _ (hsub b hb))⟩
   clear HZ how hkb ht hsub Ji;have HZ:=HY;clear HY;have c1:W1.cell? ⟨g,j * 8+3,none⟩=some (.slice p.bc p.aj.length p.bF):=bl.uD HZ.I.1 WY.I.1 (r:=3) (by decide:3 < kp.n);go_wp2_with fail;clear c1;refine (CF p.bc p.aj p.bF (m+1+1+(aF bj p.L8:Nat)) W1 base WM.I.1.fx q1.1 q1.2 HZ.I.2.1.aj).mono ?_;rintro e W2 ⟨rfl,how,hkb⟩;have ht:=HZ.I.2.1.DT how (bE _ _ _ _) hkb;have ky:Hid (af.Mc ({ p with L8:=aJ cw bj (m+1+1) p.L8,aj:=aJ hJ (fun _=>3) (m+1+1+(aF bj p.L8:Nat)) p.aj } :af)=p.Mc):=ht.2.trans HQ1.I;have hsub: ∀ b∈blk p.bc,b∈p.Mc:=fun b hb=>by rw [show p.Mc=(blk p.aN ++ p.L8.filterMap aR.bt) ++ ((blk p.bc) ++ (afw p)) by simp [af.Mc,Lm]]; exact Ly _ (Lz _ hb)
   have HY:Hid (bl kp 48 W2 base g cap (A ++ p :: B)∧ap W2 base ({ p with L8:=aJ cw bj (m+1+1) p.L8,aj:=aJ hJ (fun _=>3) (m+1+1+(aF bj p.L8:Nat)) p.aj } :af)∧aI wr W2 (g :: p.Mc)):=⟨HZ.I.1.same (hkb.same g HZ.I.1.lt fun hm=>ud.I (hsub _ hm)),ht.1,HZ.I.2.2.trans (hkb.mono fun b hb=>LB _ (hsub b hb))⟩
   clear HZ how hkb ht hsub;have HZ:=HY;clear HY;have c2:W2.cell? ⟨g,j * 8+4,none⟩=some (.slice p.ay p.L9.length p.aO):=bl.uD HZ.I.1 WY.I.1 (r:=4) (by decide:4 < kp.n);go_wp2_with fail;clear c2;refine (zw p.ay p.L9 p.aO (m+1+1+(aF bj p.L8:Nat)+(aF (fun _=>3) p.aj:Nat)) W2 base WM.I.1.cD q2.1 q2.2 HZ.I.2.1.L9).mono ?_;rintro e W3 ⟨rfl,how,hkb⟩;have ht:=HZ.I.2.1.xA how (bE _ _ _ _) hkb;have Ck:Hid (af.Mc ({ p with L8:=aJ cw bj (m+1+1) p.L8,aj:=aJ hJ (fun _=>3) (m+1+1+(aF bj p.L8:Nat)) p.aj,L9:=aJ eM (fun _=>2) (m+1+1+(aF bj p.L8:Nat)+(aF (fun _=>3) p.aj:Nat)) p.L9 } :af)=p.Mc):=ht.2.trans ky.I;have hsub: ∀ b∈blk p.ay,b∈p.Mc:=fun b hb=>by rw [show p.Mc=(blk p.aN ++ p.L8.filterMap aR.bt ++ blk p.bc) ++ ((blk p.ay) ++ (afC p)) by simp [af.Mc,Lm]]; exact Ly _ (Lz _ hb)
   have HY:Hid (bl kp 48 W3 base g cap (A ++ p :: B)∧ap W3 base ({ p with L8:=aJ cw bj (m+1+1) p.L8,aj:=aJ hJ (fun _=>3) (m+1+1+(aF bj p.L8:Nat)) p.aj,L9:=aJ eM (fun _=>2) (m+1+1+(aF bj p.L8:Nat)+(aF (fun _=>3) p.aj:Nat)) p.L9 } :af)∧aI wr W3 (g :: p.Mc)):=⟨HZ.I.1.same (hkb.same g HZ.I.1.lt fun hm=>ud.I (hsub _ hm)),ht.1,HZ.I.2.2.trans (hkb.mono fun b hb=>LB _ (hsub b hb))⟩
   clear HZ how hkb ht hsub;have HZ:=HY;clear HY;have c3:W3.cell? ⟨g,j * 8+5,none⟩=some (.slice p.ax p.ag.length p.aP):=bl.uD HZ.I.1 WY.I.1 (r:=5) (by decide:5 < kp.n);go_wp2_with fail;clear c3;refine (zB p.ax p.ag p.aP (m+1+1+(aF bj p.L8:Nat)+(aF (fun _=>3) p.aj:Nat)+(aF (fun _=>2) p.L9:Nat)) W3 base WM.I.1.cC q3.1 q3.2 HZ.I.2.1.ag).mono ?_;rintro e W4 ⟨rfl,how,hkb⟩;have ht:=HZ.I.2.1.xM how (bE _ _ _ _) hkb;have Xc:Hid (af.Mc (mkQ1 p m)=p.Mc):=ht.2.trans Ck.I;have hsub: ∀ b∈blk p.ax,b∈p.Mc:=fun b hb=>by rw [show p.Mc=(blk p.aN ++ p.L8.filterMap aR.bt ++ blk p.bc ++ blk p.ay) ++ ((blk p.ax) ++ (afB p)) by simp [af.Mc,Lm]]; exact Ly _ (Lz _ hb)
   have HY:Hid (bl kp 48 W4 base g cap (A ++ p :: B)∧ap W4 base (mkQ1 p m)∧aI wr W4 (g :: p.Mc)):=⟨HZ.I.1.same (hkb.same g HZ.I.1.lt fun hm=>ud.I (hsub _ hm)),ht.1,HZ.I.2.2.trans (hkb.mono fun b hb=>LB _ (hsub b hb))⟩
   clear HZ how hkb ht hsub;have HZ:=HY;clear HY;have c4:W4.cell? ⟨g,j * 8+6,none⟩=some (.slice p.am p.ae.length p.aG):=bl.uD HZ.I.1 WY.I.1 (r:=6) (by decide:6 < kp.n);go_wp2_with fail;clear c4;refine (wX p.am p.ae p.aG (m+1+1+(aF bj p.L8:Nat)+(aF (fun _=>3) p.aj:Nat)+(aF (fun _=>2) p.L9:Nat)+(aF (fun _=>3) p.ag:Nat)) W4 base WM.I.1.cb WM.I.1.ae q4.1 q4.2 HZ.I.2.1.ae HZ.I.2.1.eE (by
    have h5:=HZ.I.2.1.nodup;have h6:af.Mc (mkQ1 p m)=p.Mc:=Xc.I;rw [h6,show p.Mc=(blk p.aN ++ p.L8.filterMap aR.bt ++ blk p.bc ++ blk p.ay ++ blk p.ax) ++ ((blk p.am ++ p.ae.filterMap aC.bt) ++ (blk p.aK ++ (p.ai.filterMap aU.bt))) by simp [af.Mc,Lm]] at h5;exact (Kf.1 (Kf.1 h5).2.1).1)).mono ?_
   rintro e W5 ⟨rfl,how,Ji,hkb⟩;have ht:=HZ.I.2.1.CJ how (bE _ _ _ _) Ji (pr (N:=aC) (f:=dy) (c:=bN) (fun _ _=>rfl) _ _) hkb;have Xb:Hid (af.Mc (mkQ0 p m)=p.Mc):=ht.2.trans Xc.I;have hsub: ∀ b∈blk p.am ++ p.ae.filterMap aC.bt,b∈p.Mc:=fun b hb=>by rw [show p.Mc=(blk p.aN ++ p.L8.filterMap aR.bt ++ blk p.bc ++ blk p.ay ++ blk p.ax) ++ ((blk p.am ++ p.ae.filterMap aC.bt) ++ (blk p.aK ++ (p.ai.filterMap aU.bt))) by simp [af.Mc,Lm]]; exact Ly _ (Lz _ hb)
   have HY:Hid (bl kp 48 W5 base g cap (A ++ p :: B)∧ap W5 base (mkQ0 p m)∧aI wr W5 (g :: p.Mc)):=⟨HZ.I.1.same (hkb.same g HZ.I.1.lt fun hm=>ud.I (hsub _ hm)),ht.1,HZ.I.2.2.trans (hkb.mono fun b hb=>LB _ (hsub b hb))⟩
   clear HZ how hkb ht hsub Ji;have HZ:=HY;clear HY;have c5:W5.cell? ⟨g,j * 8+7,none⟩=some (.slice p.aK p.ai.length p.aV):=bl.uD HZ.I.1 WY.I.1 (r:=7) (by decide:7 < kp.n);go_wp2_with fail;clear c5;refine (AU p.aK p.ai p.aV (m+1+1+(aF bj p.L8:Nat)+(aF (fun _=>3) p.aj:Nat)+(aF (fun _=>2) p.L9:Nat)+(aF (fun _=>3) p.ag:Nat)+(aF bN p.ae:Nat)) W5 base WM.I.1.dH WM.I.1.ai q5.1 q5.2 HZ.I.2.1.ai HZ.I.2.1.eR (by
    have h5:=HZ.I.2.1.nodup;have h6:af.Mc (mkQ0 p m)=p.Mc:=Xb.I;rw [h6,show p.Mc=(blk p.aN ++ p.L8.filterMap aR.bt ++ blk p.bc ++ blk p.ay ++ blk p.ax ++ blk p.am ++ p.ae.filterMap aC.bt) ++ ((blk p.aK ++ p.ai.filterMap aU.bt) ++ []) by simp [af.Mc,Lm]] at h5;exact (Kf.1 (Kf.1 h5).2.1).1)).mono ?_
   rintro e W6 ⟨rfl,how,Ji,hkb⟩;have ht:=HZ.I.2.1.Gu how (bE _ _ _ _) Ji (pr (N:=aU) (f:=fU) (c:=eo) (fun _ _=>rfl) _ _) hkb;have HQ6:Hid (af.Mc ({ p with L8:=aJ cw bj (m+1+1) p.L8,aj:=aJ hJ (fun _=>3) (m+1+1+(aF bj p.L8:Nat)) p.aj,L9:=aJ eM (fun _=>2) (m+1+1+(aF bj p.L8:Nat)+(aF (fun _=>3) p.aj:Nat)) p.L9,ag:=aJ dZ (fun _=>3) (m+1+1+(aF bj p.L8:Nat)+(aF (fun _=>3) p.aj:Nat)+(aF (fun _=>2) p.L9:Nat)) p.ag,ae:=aJ dy bN (m+1+1+(aF bj p.L8:Nat)+(aF (fun _=>3) p.aj:Nat)+(aF (fun _=>2) p.L9:Nat)+(aF (fun _=>3) p.ag:Nat)) p.ae,ai:=aJ fU eo (m+1+1+(aF bj p.L8:Nat)+(aF (fun _=>3) p.aj:Nat)+(aF (fun _=>2) p.L9:Nat)+(aF (fun _=>3) p.ag:Nat)+(aF bN p.ae:Nat)) p.ai } :af)=p.Mc):=ht.2.trans Xb.I;have hsub: ∀ b∈blk p.aK ++ p.ai.filterMap aU.bt,b∈p.Mc:=fun b hb=>by rw [show p.Mc=(blk p.aN ++ p.L8.filterMap aR.bt ++ blk p.bc ++ blk p.ay ++ blk p.ax ++ blk p.am ++ p.ae.filterMap aC.bt) ++ ((blk p.aK ++ p.ai.filterMap aU.bt) ++ []) by simp [af.Mc,Lm]]; exact Ly _ (Lz _ hb)
   have HY:Hid (bl kp 48 W6 base g cap (A ++ p :: B)∧ap W6 base ({ p with L8:=aJ cw bj (m+1+1) p.L8,aj:=aJ hJ (fun _=>3) (m+1+1+(aF bj p.L8:Nat)) p.aj,L9:=aJ eM (fun _=>2) (m+1+1+(aF bj p.L8:Nat)+(aF (fun _=>3) p.aj:Nat)) p.L9,ag:=aJ dZ (fun _=>3) (m+1+1+(aF bj p.L8:Nat)+(aF (fun _=>3) p.aj:Nat)+(aF (fun _=>2) p.L9:Nat)) p.ag,ae:=aJ dy bN (m+1+1+(aF bj p.L8:Nat)+(aF (fun _=>3) p.aj:Nat)+(aF (fun _=>2) p.L9:Nat)+(aF (fun _=>3) p.ag:Nat)) p.ae,ai:=aJ fU eo (m+1+1+(aF bj p.L8:Nat)+(aF (fun _=>3) p.aj:Nat)+(aF (fun _=>2) p.L9:Nat)+(aF (fun _=>3) p.ag:Nat)+(aF bN p.ae:Nat)) p.ai } :af)∧aI wr W6 (g :: p.Mc)):=⟨HZ.I.1.same (hkb.same g HZ.I.1.lt fun hm=>ud.I (hsub _ hm)),ht.1,HZ.I.2.2.trans (hkb.mono fun b hb=>LB _ (hsub b hb))⟩
   clear HZ how hkb ht hsub Ji;have HZ:=HY;clear HY;have HN:Hid (VT w base g cap (aJ V9 V0 k (l.take (j+1)) ++ l.drop (j+1)) W6∧m+2+(fb p:Nat)=m+1+1+(aF bj p.L8:Nat)+(aF (fun _=>3) p.aj:Nat)+(aF (fun _=>2) p.L9:Nat)+(aF (fun _=>3) p.ag:Nat)+(aF bN p.ae:Nat)+(aF eo p.ai:Nat)):=by
    rw [WY.I.2,← WM.I.2.1];exact ⟨HS.I.ju (HZ.I.1.vals (WD _ _)) HZ.I.2.1 ((Wi _ _).trans WM.I.2.2) (by rw [← WM.I.2.2]; exact HZ.I.2.2),by unfold fb; omega⟩
   go_wp2;go_roundw
   case rel=>exact ⟨j+1,m+1+1+(aF bj p.L8:Nat)+(aF (fun _=>3) p.aj:Nat)+(aF (fun _=>2) p.L9:Nat)+(aF (fun _=>3) p.ag:Nat)+(aF bN p.ae:Nat)+(aF eo p.ai:Nat),by omega,by go_num,by go_num,by omega,by omega,⟨by rw [← HN.I.2]; exact HX.I.2,HN.I.1⟩⟩
   case measure=>simp [Go.RowKit.intOf]; omega
  ·have i1: ¬ (j:Int) < (l.length:Int):=by omega
   have HE:Hid (VT w base g cap (aJ V9 V0 k l) wr∧m=k+(aF V0 l:Nat)):=by have h5:=HA.I.2; have h6:=HA.I.1; rw [KF (by omega),List.drop_of_length_le (by omega),List.append_nil] at h5; rw [KF (by omega)] at h6; exact ⟨h5,h6⟩
   go_wp2;go_ret;refine ⟨ck HE.I.2,⟨?_,HE.I.1.mine⟩,?_⟩
   ·have h7:=HE.I.1.row.owns; rw [bE] at h7; exact h7
   ·have h7:=HE.I.1.kept; rw [Wc] at h7; exact h7
end
section
open Go.RowKit
theorem cnt_op (l:List dN):aF (fun _:dN=>4) l=l.length * 4:=kr (fun _=>rfl) l
theorem Ee (l:List ByteArray):aF (fun _:ByteArray=>1) l=l.length * 1:=kr (fun _=>rfl) l
theorem A8: ∀ l:List ao,aF bj l≤11 * (l.length+g9 (fun x:ao=>x.prog.length) l)
 | [] =>by simp [aF]
 | x :: r=>by
  have h1:=A8 r;have h2:bj x=2+aF (fun _:dN=>4) x.prog+9:=rfl;have h3:=cnt_op x.prog;simp only [aF,Lg,g9,Lt,aeA] at h1 ⊢;omega
theorem vG: ∀ l:List au,aF bN l≤11 * (l.length+g9 (fun x:au=>x.Ma.length) l)
 | [] =>by simp [aF]
 | x :: r=>by
  have h1:=vG r;have h2:bN x=2+aF (fun _:ByteArray=>1) x.Ma:=rfl;have h3:=Ee x.Ma;simp only [aF,Lg,g9,Lt,aeA] at h1 ⊢;omega
theorem BL: ∀ l:List aM,aF eo l≤11 * (l.length+g9 (fun x:aM=>x.Ma.length) l)
 | [] =>by simp [aF]
 | x :: r=>by
  have h1:=BL r;have h2:eo x=4+aF (fun _:ByteArray=>1) x.Ma:=rfl;have h3:=Ee x.Ma;simp only [aF,Lg,g9,Lt,aeA] at h1 ⊢;omega
theorem Wy (p:af):fb p≤11 * p.pure.total:=by
 rw [af.Bf];unfold fb;have h1:=A8 p.L8;have h2:=vG p.ae;have h3:=BL p.ai;have h4:aF (fun _:bD=>3) p.aj=p.aj.length * 3:=kr (fun _=>rfl) _;have h5:aF (fun _:aB=>2) p.L9=p.L9.length * 2:=kr (fun _=>rfl) _;have h6:aF (fun _:az=>3) p.ag=p.ag.length * 3:=kr (fun _=>rfl) _;omega
theorem Wh {p:af} (h:p.pure.Small):p.WN:=by
 refine ⟨by simpa [af.pure] using h.dl,h.fx,h.cD,h.cC,by simpa [af.pure] using h.cb,by simpa [af.pure] using h.dH,fun x hx=> ?_,fun x hx=> ?_,fun x hx=> ?_⟩
 ·exact (h.L8 x.toaD (Lr.2 ⟨x,hx,rfl⟩)).1.1
 ·exact (h.ae x.toci (Lr.2 ⟨x,hx,rfl⟩)).2.1
 ·exact (h.ai x.todS (Lr.2 ⟨x,hx,rfl⟩)).2.1
theorem Di {α:Type} {N:gd α} {w w':World} {base:Nat} {x:α} (h:N.cO w base x) (hb:Below w.heap.size w w'):N.cO w' base x:=h.same fun g hk=>hb.block g (h.lt hk).2
def Az (p:af) (w W:World):Prop:=W.heap[w.heap.size]? =some (.cells p.cells 68 (0,0))∧Below w.heap.size w W
def o8 (W:World) (X b:Nat) (q:af):Prop:=av W X q∧ap W b q
def rT (W:World) (X b:Nat) (x:ao):Prop:=jx W X x∧aR.cO W b x
section
variable {p q:af} {x:ao} {w W W':World} {X b:Nat} {bs:List Nat}
theorem Az.below (h:Az p w W) (hb:Below W.heap.size W W'):Az p w W':=⟨(hb.block _ (J2.1 h.1).1).trans h.1,h.2.trans (hb.mono h.2.size)⟩
theorem Az.kept (h:Az p w W) (hk:aI W W' bs) (hs: ∀ g∈bs,w.heap.size < g):Az p w W':=⟨(hk.same _ (J2.1 h.1).1 fun hm=>by have:=hs _ hm; omega).trans h.1,h.2.trans (hk.below h.2.size fun g hg=>by have:=hs g hg; omega)⟩
theorem o8.below (h:o8 W X b q) (hb:Below W.heap.size W W'):o8 W' X b q:=⟨h.1.below hb,h.2.below hb⟩
theorem o8.kept (h:o8 W X b q) (hk:aI W W' bs) (hs:X∉bs) (ho: ∀ g∈q.Mc,g∉bs):o8 W' X b q:=⟨(hk.same _ (J2.1 h.1).1 hs).trans h.1,h.2.same fun g hg=>hk.same g (h.2.lt g hg).2 (ho g hg)⟩
theorem rT.below (h:rT W X b x) (hb:Below W.heap.size W W'):rT W' X b x:=⟨h.1.below hb,Di h.2 hb⟩
theorem rT.kept (h:rT W X b x) (hk:aI W W' bs) (hs:X∉bs) (ho: ∀ g∈blk x.aY,g∉bs):rT W' X b x:=⟨(hk.same _ (J2.1 h.1).1 hs).trans h.1,h.2.same fun g hg=>hk.same g (h.2.lt hg).2 (ho g (fZ.2 hg))⟩
theorem av.lt {W:World} {X:Nat} {q:af} (h:av W X q):X < W.heap.size:=(J2.1 h).1
theorem jx.lt {W:World} {X:Nat} {x:ao} (h:jx W X x):X < W.heap.size:=(J2.1 h).1
end
end
section
open Go.RowKit Go.Maps
attribute [local go_sem ↓] Kc Kd
theorem Tp: ∀ (l:List aE) (last:Int),aw (·.id) bK last l=true→last≤6→(l.length:Int)≤6 - last
 | [],_,_,h=>by simp; omega
 | x :: r,last,h,hl=>by
  simp only [aw,J7,decide_eq_true_eq] at h;have h1:=((ch _).1 h.1.2).id;rw [bz] at h1;have h2:=Tp r x.id h.2 (by omega);have h3:=h.1.1.2;simp only [Lg,Int.natCast_add,Int.natCast_one];omega
theorem Sl {ops:Array Oper} {rest:List Oper} {op:Oper} {a:Act} {w:World} {Q:Exit→Act→World→Prop} (hgd:op.guard=none) (x y z:Operand) (ho:op.op= .build 107 #[(0,x),(1,y),(2,z)])
  (m:Int) (T:Array Value) (b:Nat) (cs:Array Value) (hx:a.eval x= .int .i64 m) (hy:a.eval y= .agg T) (hz:a.eval z= .map (some b)) (hb:Tryz.prog.built 107 [(0,.int .i64 m),(1,.agg T),(2,.map (some b))] =some cs)
  (h:wpList J3 ops Q rest (a.put op.dst (.agg cs)) w):wpList J3 ops Q (op :: rest) a w:=
 wpList_plain hgd fun _ hK=>by
  unfold Oper.wp execOp;simp only [ho,Sem.run_bind,List.map_toArray,Lt,List.map_nil,hx,hy,hz,run_build w _ _ cs hb,Result.andThen_ok];exact hK _ _ h
structure VL (w:World) (k:kd) (K:Nat) (W:World):Prop where
 ex: ∃ (w1:World) (b:Nat) (tab:Array Value) (l:List (aZ × Nat)) (ls:List gi) (a:Option Addr) (cap:Nat),P2 k.major k.fn.length (sz k.fn) tab∧VK w1 K b l∧l.map (·.1.pure)=k.parts∧ls.map (·.c)=k.eC∧(∀ o∈ls,Joins l o)∧T1 w1 K b k.now tab a cap ls W∧w.heap.size≤b∧w.heap.size≤K
def KerEnd (w:World) (k:kd) (e:Ending) (W:World):Prop:=Below w.heap.size w W∧((eP k=false∧e= .returned (.tuple #[.pointer none,.bool false]))∨(eP k=true∧ ∃ K,e= .returned (.tuple #[.pointer (some ⟨K,0,none⟩),.bool true])∧VL w k K W))
theorem Pq (k:eA) (g:Nat) (w:World) (hs:k.pure.Small) (hat:eA.At w k) (hgood: ∀ p∈k.parts,p.Good w) (hg:k.vb=some ⟨g,0,none⟩∧g < w.heap.size):
  Calls J3 41 #[.agg k.row] w fun e W=>KerEnd w k.pure e W:=by
 have S:Hid (dr w w.heap.size k (w.alloc (.cells k.row 37))):=dr.first hat;have HS:=aA (And.intro hs (And.intro hgood hg));clear hs hat hgood;obtain ⟨T0,hT0⟩: ∃ T,tx=T:=⟨_,rfl⟩
 have Hz:Hid (tx=T0∧T0.size=62):=⟨hT0,by rw [← hT0]; exact ub⟩
 clear hT0
 go_enter Tryz.func41,Tryz.ntmps41
 go_upto_region 1 with fail;generalize w.alloc (.cells k.row 37)=W0 at *;generalize hX:w.heap.size=X at *;have HX:=aA hX;clear hX;obtain ⟨m0,m1,m2,m3,m4⟩:=S.I.box.cells;rw [HS.I.2.2.1] at m2;have Mb:=TV k.major g k.fn.length k.Te (sz k.fn) W0 HS.I.1.Ts HS.I.1.win (Uq (by have:=S.I.low.size; have:=HS.I.2.2.2; have:=HX.I; omega) (by have h:=S.I.MT.fn; rwa [HS.I.2.2.1] at h));clear hg;go_wp2_with fail;clear m0 m1 m2 m3 m4;refine Mb.mono ?_;clear Mb;intro e W1 hE;obtain ⟨T,r,rfl,HT,hb1⟩: ∃ T r,e= .returned (.tuple #[.agg T,.bool r])∧Hid (T.size=62∧T.all (·.oneCell')=true∧E4 k.major k.fn=r∧(r=true→P2 k.major k.fn.length (sz k.fn) T))∧Below W0.heap.size W0 W1:=by
  obtain ⟨⟨hf,cs,rfl,hc⟩ | ⟨hf,rfl⟩,hb⟩:=hE
  ·exact ⟨cs,true,rfl,⟨hc.1,hc.one,hf,fun _=>hc⟩,hb⟩
  ·exact ⟨tx,false,rfl,⟨ub,Tn,hf,fun h=>by cases h⟩,hb⟩
 replace S:=aA (S.I.below hb1);clear hE hb1;go_upto_region 2 with (first | (refine gq rfl rfl W1.heap.size rfl T0 Hz.I.1 ?_) | (refine fC rfl (.tmp 4) (.tmp 11) rfl W1.heap.size T (by rfl) (by rfl) T0 (by exact Kj _ _) Hz.I.2 HT.I.1 HT.I.2.1 ?_; rw [World.setRow_alloc_new]));have hz:Below W1.heap.size W1 (W1.alloc (.cells T 103)):=(Kp _ _).alloc (Ki _) _;have HTB:Hid ((W1.alloc (.cells T 103)).heap[W1.heap.size]? =some (.cells T 103 (0,0))):=Kj _ _;replace S:=aA (S.I.below hz);clear hz Hz;generalize W1.alloc (.cells T 103)=W2 at *;generalize W1.heap.size=Y at *;obtain ⟨m0,m1,m2,m3,m4⟩:=S.I.box.cells;have Ul:Hid (eP k.pure=(cv k.now 0 500000000 && r && decide (k.pure.parts.length≤6) && decide (k.eC.length≤10) && aw (·.id) bK 0 k.pure.parts && fA k.pure.parts [] k.eC)):=by show _=_; rw [← HT.I.2.2.1]; rfl
 cases r
 ·have HN:Hid (eP k.pure=false):=by show _=_; rw [Ul.I]; simp
  clear Ul;go_wp2;go_ret2;exact ⟨S.I.low,.inl ⟨HN.I,rfl⟩⟩
 by_cases h0:k.now < 0
 ·have HN:Hid (eP k.pure=false):=by show _=_; rw [Ul.I]; have:cv k.now 0 500000000=false:=(by cases h:cv k.now 0 500000000 with | false=>rfl | true=>(rw [bz] at h; omega)); rw [this]; rfl
  clear Ul;go_wp2;go_ret2;exact ⟨S.I.low,.inl ⟨HN.I,rfl⟩⟩
 by_cases h1:500000000 < k.now
 ·have HN:Hid (eP k.pure=false):=by show _=_; rw [Ul.I]; have:cv k.now 0 500000000=false:=(by cases h:cv k.now 0 500000000 with | false=>rfl | true=>(rw [bz] at h; omega)); rw [this]; rfl
  clear Ul;go_wp2;go_ret2;exact ⟨S.I.low,.inl ⟨HN.I,rfl⟩⟩
 obtain ⟨cs,hcs,hcz,hcc⟩:=UH k.now T W2.heap.size HT.I.1;have HCS:Hid (Tryz.prog.built 107 [(0,.int .i64 k.now),(1,.agg T),(2,.map (some W2.heap.size))] =some cs∧cs.size=65∧ ∀ j,j < 65→cs[j]? =some (B3 k.now T W2.heap.size none 0 0 j)):=⟨hcs,hcz,hcc⟩
 replace Ul:Hid (eP k.pure=(decide (k.pure.parts.length≤6) && decide (k.eC.length≤10) && aw (·.id) bK 0 k.pure.parts && fA k.pure.parts [] k.eC)):=by show _=_; rw [Ul.I]; have:cv k.now 0 500000000=true:=eB (by omega) (by omega); rw [this]; rfl
 clear hcs hcz hcc;have hmk:=run_makeMap (P:=J3) 104;go_upto_region 5 with (first | (refine wpList_load_row rfl 103 (.tmp 4) rfl Y (by rfl) 103 T (0,0) _ HTB.I Tryz.underlying103 rfl (by rw [Dw,HT.I.1]) ?_) | (refine Sl rfl (.tmp 26) (.tmp 27) (.tmp 28) rfl k.now T W2.heap.size cs (by rfl) (by rfl) (by rfl) HCS.I.1 ?_));clear m0 m1 m2 m3 m4 hmk h0 h1;have hsz:W2.heap.size+1=(W2.alloc (.map #[] 0)).heap.size:=by simp
 have hz:Below W2.heap.size W2 ((W2.alloc (.map #[] 0)).alloc (.cells cs 107)):=((Kp _ _).alloc (Ki _) _).alloc (by simp) _;have HW:Hid (cF ((W2.alloc (.map #[] 0)).alloc (.cells cs 107)) W2.heap.size [] ∧((W2.alloc (.map #[] 0)).alloc (.cells cs 107)).rowIs (W2.heap.size+1) 107 65 (B3 k.now T W2.heap.size none 0 0)∧((W2.alloc (.map #[] 0)).alloc (.cells cs 107)).heap.size=W2.heap.size+2):=⟨(cF.made W2).below ((Kp _ _).alloc (Ki _) _),by rw [hsz]; exact ⟨cs,Kj _ _,HCS.I.2.1,HCS.I.2.2⟩,by simp⟩
 have mO:Hid (Below W2.heap.size W2 ((W2.alloc (.map #[] 0)).alloc (.cells cs 107))∧kp.bU W2 k.qn k.parts∧hM.bU W2 k.qi k.eC∧(∀ p∈k.parts,p.Good W2)∧w.heap.size≤W2.heap.size):=⟨hz,S.I.MT.parts,S.I.MT.eC,fun p hp=>(HS.I.2.1 p hp).below S.I.low,S.I.low.size⟩
 have Yw:=aA S.I.low;have HS5:=aA S.I;replace S:=aA (S.I.below hz);clear hz hsz HCS HTB;generalize ((W2.alloc (.map #[] 0)).alloc (.cells cs 107))=W3 at *;have Mb:=Tr W2 W3 (W2.heap.size+1) W2.heap.size k.qn k.parts k.sa mO.I.1 (Ki _) (by rw [HW.I.2.2]; omega) (by omega) (HW.I.2.1.cell (i:=63) (by omega)) HW.I.1 (by have h:=HS.I.1.sC; simpa [eA.pure] using h) mO.I.2.1 mO.I.2.2.2.1;obtain ⟨m0,m1,m2,m3,m4⟩:=S.I.box.cells;go_wp2_with fail;clear m0 m1 m2 m3 m4;refine Mb.mono ?_;clear Mb;rintro e W4 ⟨hb4,⟨hno,rfl⟩ | ⟨fm,rfl,l,hl,hO⟩⟩
 ·have HN:Hid (eP k.pure=false∧Below w.heap.size w W4):=⟨by rw [Ul.I]; have:aw (·.id) bK 0 k.pure.parts=false:=hno; rw [this]; simp,Yw.I.trans (hb4.mono mO.I.2.2.2.2)⟩
  clear hno hb4;go_wp2;go_ret2;exact ⟨HN.I.2,.inl ⟨HN.I.1,rfl⟩⟩
 have HO:Hid (VK W4 (W2.heap.size+1) W2.heap.size l∧l.map (·.1.pure)=k.pure.parts∧W4.rowIs (W2.heap.size+1) 107 65 (B3 k.now T W2.heap.size none 0 0)∧Below W2.heap.size W2 W4):=by
  have hr:W4.rowIs (W2.heap.size+1) 107 65 (B3 k.now T W2.heap.size none 0 0):=HW.I.2.1.of_block hO.TN;exact ⟨⟨hO.map,fun p hp=>(hO.part p hp).imp fun _ h=>h.2,hO.nodup,by omega,hr.lt,hO.apart.imp fun h g hg g' hg'=>Nat.ne_of_lt (h g hg g' hg')⟩,hl,hr,hO.low⟩
 have HKB2:Hid (eP k.pure=(decide (k.eC.length≤10) && fA k.pure.parts [] k.eC)):=by
  show _=_
  have hy:aw (·.id) bK 0 k.pure.parts=true:=fm;have hlen:=Tp _ _ hy (by omega);rw [Ul.I,hy,decide_eq_true (by omega)];simp
 replace S:=aA (HS5.I.below hb4);clear fm hl hO hb4 Ul;have Mb:=T3 W2 W4 (W2.heap.size+1) W2.heap.size k.now T l k.pure.parts k.eC k.qi k.tC HO.I.1 HO.I.2.1 HO.I.2.2.1 HO.I.2.2.2 (by omega) mO.I.2.2.1 HS.I.1.eC HS.I.1.w8;obtain ⟨m0,m1,m2,m3,m4⟩:=S.I.box.cells;go_wp2_with fail;clear m0 m1 m2 m3 m4;refine Mb.mono ?_;clear Mb;rintro e W5 ⟨hk5,⟨hno,rfl⟩ | ⟨fm,rfl,ls,a,cap,hls,hj,hL⟩⟩
 ·have HN:Hid (eP k.pure=false∧Below w.heap.size w W5):=⟨by rw [HKB2.I]; exact hno,Yw.I.trans ((HO.I.2.2.2.trans (hk5.below HO.I.2.2.2.size (fun g hg=>by rw [KB.1 hg]; omega))).mono mO.I.2.2.2.2)⟩
  clear hno hk5;go_wp2;go_ret2;exact ⟨HN.I.2,.inl ⟨HN.I.1,rfl⟩⟩
 have HN:Hid (eP k.pure=true∧Below w.heap.size w W5∧VL w k.pure (W2.heap.size+1) W5):=⟨by rw [HKB2.I]; exact fm,Yw.I.trans ((HO.I.2.2.2.trans (hk5.below HO.I.2.2.2.size (fun g hg=>by rw [KB.1 hg]; omega))).mono mO.I.2.2.2.2),⟨W4,W2.heap.size,T,l,ls,a,cap,HT.I.2.2.2 (by trivial),HO.I.1,HO.I.2.1,hls,hj,hL,mO.I.2.2.2.2,by have:=mO.I.2.2.2.2; omega⟩⟩
 clear fm hk5 hls hj hL;go_wp2;go_ret2;exact ⟨HN.I.2.1,.inr ⟨HN.I.1,_,rfl,HN.I.2.2⟩⟩
theorem U7 {w:World} {base:Nat} {k:eA} (hs:k.pure.Small) (ho:gp w base k): ∀ p∈k.parts,p.Good w:=fun p hp=>uG (pC hs hp) (ho.mine p hp)
end
section
open Go.RowKit Go.ChangeShapes Go.WideShapes Go.Joins Go.Deep
section
variable {H:Type} {enc:TypeId × Value→H} {W:World}
theorem Uk {z:Int} (h:(Lit.int .i64 z).wf=true): -9223372036854775808≤z∧z≤9223372036854775807:=by
 have e1:IntKind.min .i64= -9223372036854775808:=by decide
 have e2:IntKind.max .i64=9223372036854775807:=by decide
 simp only [Lit.wf,J7,decide_eq_true_eq] at h;omega
theorem Un {fuel:Nat} {cs:List Value} {x:DataW H × List MemPlace} (h:DataW.trod enc J3 W 0 (fun _=>true) true fuel 237 cs=some x): ∃ y,cs=jq.vals y∧(fun y:pA=>(Lit.int .i64 y.at_).wf=true∧(Lit.int .i64 y.len).wf=true∧(Lit.int .i64 y.part).wf=true) y:=by
 obtain ⟨hlen,n,hf⟩:=mo Tryz.underlying237 (by kernel_rfl) h;rw [show Tryz.prog.cellsOf 237=3 by kernel_rfl] at hlen
 match cs,hlen with
 | [v0,v1,v2],_=>
  obtain ⟨y0,h0⟩:=hf 0 _ v0 rfl rfl;obtain ⟨a0,e0,-,w0⟩:=adQ KN h0;obtain ⟨y1,h1⟩:=hf 1 _ v1 rfl rfl;obtain ⟨a1,e1,-,w1⟩:=adQ KN h1;obtain ⟨y2,h2⟩:=hf 2 _ v2 rfl rfl;obtain ⟨a2,e2,-,w2⟩:=adQ KN h2;simp only [adK,and_true] at e0 e1 e2;subst e0 e1 e2;exact ⟨⟨a0,a1,a2⟩,rfl,w0,w1,w2⟩
theorem TR {fuel:Nat} {cs:List Value} {x:DataW H × List MemPlace} (h:DataW.trod enc J3 W 0 (fun _=>true) true fuel 152 cs=some x): ∃ y,cs=hM.vals y∧eQ.Wf y:=by
 obtain ⟨hlen,n,hf⟩:=mo Tryz.underlying152 (by kernel_rfl) h;rw [show Tryz.prog.cellsOf 152=4 by kernel_rfl] at hlen
 match cs,hlen with
 | [v0,v1,v2,v3],_=>
  obtain ⟨y0,h0⟩:=hf 0 _ v0 rfl rfl;obtain ⟨a0,e0,-,w0⟩:=adQ KN h0;obtain ⟨y1,h1⟩:=hf 1 _ v1 rfl rfl;obtain ⟨a1,e1,-,w1⟩:=adQ KN h1;obtain ⟨y2,h2⟩:=hf 2 _ v2 rfl rfl;obtain ⟨a2,e2,-,w2⟩:=adQ KN h2;obtain ⟨y3,h3⟩:=hf 3 _ v3 rfl rfl;obtain ⟨a3,e3,-,w3⟩:=adQ KN h3;simp only [adK,and_true] at e0 e1 e2 e3;subst e0 e1 e2 e3;exact ⟨⟨a0,a1,a2,a3⟩,rfl,w0,w1,w2,w3⟩
theorem UL {p:af} (h:p.ep W): ∀ r∈il p,Src W r.1 r.2:=fun r hr=>by
 simp only [il,Kg,Rt,Kt,Ku,or_false] at hr;rcases hr with ((hr | ⟨x,hx,hr⟩) | ⟨x,hx,hr⟩) | ⟨x,hx,hr⟩
 ·rcases hr with rfl | rfl | rfl | rfl | rfl | rfl
  ·exact h.L8.1
  ·exact h.aj.1
  ·exact h.L9.1
  ·exact h.ag.1
  ·exact h.ae.1
  ·exact h.ai.1
 ·exact h.L8.2 x hx r hr
 ·exact h.ae.2 x hx r hr
 ·exact h.ai.2 x hx r hr
theorem Vh {l:List pA} (h: ∀ y∈l,(Lit.int .i64 y.at_).wf=true∧(Lit.int .i64 y.len).wf=true∧(Lit.int .i64 y.part).wf=true) (j:Nat): -9223372036854775808≤sz l j∧sz l j≤9223372036854775807:=by
 unfold sz;cases hx:l[j / 3]? with
 | none=>simp
 | some x=>
  obtain ⟨h0,h1,h2⟩:=h x (KA hx);simp only
  split
  ·exact Uk h0
  ·split
   ·exact Uk h1
   ·exact Uk h2
theorem E2 {fuel:Nat} {cs:List Value} {x:DataW H × List MemPlace} (h:DataW.trod enc J3 W 0 (fun _=>true) true fuel 28 cs=some x): ∃ k:eA,cs=k.row.toList∧k.Ud∧k.ep W∧k.Ints:=by
 obtain ⟨xs,n,_,_,hlen,hl,hf⟩:=DataW.trod_struct Tryz.underlying28 h;rw [show Tryz.prog.cellsOf 28=5 by kernel_rfl] at hlen
 match cs,hlen,xs,hl with
 | [v0,v1,v2,v3,v4],_,[z0,z1,z2,z3],_=>
  have h0:DataW.trod enc J3 W 0 (fun _=>true) true n 2 [v0] =some z0:=by have h:=hf 0 _ rfl; exact (congrArg (DataW.trod enc J3 W 0 (fun _=>true) true n 2) (by show [v0] =(List.drop 0 [v0,v1,v2,v3,v4]).take (Tryz.prog.cellsOf 2); rw [show Tryz.prog.cellsOf 2=1 by kernel_rfl]; rfl)).trans h
  have h1:DataW.trod enc J3 W 0 (fun _=>true) true n 24 [v1,v2] =some z1:=by have h:=hf 1 _ rfl; exact (congrArg (DataW.trod enc J3 W 0 (fun _=>true) true n 24) (by show [v1,v2] =(List.drop 1 [v0,v1,v2,v3,v4]).take (Tryz.prog.cellsOf 24); rw [show Tryz.prog.cellsOf 24=2 by kernel_rfl]; rfl)).trans h
  have h2:DataW.trod enc J3 W 0 (fun _=>true) true n 25 [v3] =some z2:=by have h:=hf 2 _ rfl; exact (congrArg (DataW.trod enc J3 W 0 (fun _=>true) true n 25) (by show [v3] =(List.drop 3 [v0,v1,v2,v3,v4]).take (Tryz.prog.cellsOf 25); rw [show Tryz.prog.cellsOf 25=1 by kernel_rfl]; rfl)).trans h
  have h3:DataW.trod enc J3 W 0 (fun _=>true) true n 26 [v4] =some z3:=by have h:=hf 3 _ rfl; exact (congrArg (DataW.trod enc J3 W 0 (fun _=>true) true n 26) (by show [v4] =(List.drop 4 [v0,v1,v2,v3,v4]).take (Tryz.prog.cellsOf 26); rw [show Tryz.prog.cellsOf 26=1 by kernel_rfl]; rfl)).trans h
  obtain ⟨a0,e0,-,-⟩:=adQ KN h0;obtain ⟨-,n1,hf1⟩:=mo Tryz.underlying24 (by kernel_rfl) h1;obtain ⟨y1,k1⟩:=hf1 0 _ v1 rfl rfl;obtain ⟨a1,e1,-,-⟩:=adQ KN k1;obtain ⟨y2,k2⟩:=hf1 1 _ v2 rfl rfl;obtain ⟨b2,l2,c2,e2,q2,r2,g2⟩:=gk jq (fun y:pA=>(Lit.int .i64 y.at_).wf=true∧(Lit.int .i64 y.len).wf=true∧(Lit.int .i64 y.part).wf=true) Tryz.underlying22 (by kernel_rfl) (fun _ _ _ h=>Un h) k2;obtain ⟨b3,l3,c3,e3,q3,r3,g3⟩:=gk kp (fun p:af=>p.Ud∧p.ep W∧p.Ints) Tryz.underlying25 (by kernel_rfl) (fun _ _ _ h=>sA h) h2;obtain ⟨b4,l4,c4,e4,q4,r4,g4⟩:=gk hM eQ.Wf Tryz.underlying26 (by kernel_rfl) (fun _ _ _ h=>TR h) h3;simp only [adK,and_true] at e0 e1;subst e0 e1 e2 e3 e4;exact ⟨⟨a0,a1,l2,b2,c2,l3,b3,c3,l4,b4,c4⟩,rfl,⟨q2,q3,q4,fun p hp=>(g3 p hp).1⟩,⟨⟨r2,fun x hx r hr=>by simp [jq] at hr⟩,⟨r3,fun p hp=>UL (g3 p hp).2.1⟩,⟨r4,fun x hx r hr=>by simp [hM] at hr⟩⟩,⟨Vh g2,fun p hp=>(g3 p hp).2.2,g4⟩⟩
theorem T7 {r:Reach} {b0:Nat} {v:Value} {d:DataW H} {pl:List MemPlace} (hv:Value.okWide J3 W r b0 28 v) (h:DataW.Trod enc J3 W 0 (fun _=>true) true 28 v d pl): ∃ k:eA,v= .agg k.row∧k.Ud∧k.ep W∧k.Ints:=by
 obtain ⟨cs,rfl,hsz⟩:=okWide_struct Tryz.underlying28 hv;obtain ⟨fuel,hf⟩:=h;obtain ⟨k,hk,h1,h2,h3⟩:=E2 hf;refine ⟨k,?_,h1,h2,h3⟩;have e:cs.toList=k.row.toList:=by simpa [Value.cells] using hk
 rw [Array.toList_inj.1 e]
end
end
section
open Go.RowKit Go.Maps
def aZ.ju (S:aZ) (g:Nat) (f:ao→ao) (nx:Int):aZ:= { S with q:= { S.q with next:=nx },lp:=sU g f S.lp }
theorem GW {g:Nat} {f:ao→ao} (hf: ∀ x,aR.bt (f x)=aR.bt x) (l:List (ao × Nat)):kids aR (sU g f l)=kids aR l:=by
 induction l with
 | nil=>rfl
 | cons p r ih=>
  have e:(sU g f (p :: r))=(if p.2=g then (f p.1,p.2) else p) :: sU g f r:=rfl;simp only [kids,LH] at ih ⊢;rw [e];simp only [LH];by_cases h:p.2=g
  ·simp only [h,if_true,hf]
   rw [ih]
  ·simp only [h,if_false]
   rw [ih]
theorem cJ.ju {w w':World} {base o g:Nat} {S:aZ} {f:ao→ao} {nx:Int} (h:cJ w base o S) (hf: ∀ x,(f x).id=x.id∧(f x).prog=x.prog∧(f x).aY=x.aY∧(f x).bH=x.bH)
  (hc: ∀ p∈S.lp,p.2=g→w'.heap[g]? =some (.cells (aX (f p.1)) 148 (0,0))) (hg:g∈S.lp.map (·.2)) (ho:fa w' o { S.q with next:=nx }) (hs: ∀ b,b≠g→b≠o→w'.heap[b]? =w.heap[b]?):cJ w' base o (S.ju g f nx):=by
 have iH: ∀ x,aR.bt (f x)=aR.bt x:=fun x=>by show (f x).aY.map (·.block)=x.aY.map (·.block); rw [(hf x).2.2.1]
 have hn:=h.nodup;have hno:=(Lp.1 hn).1;have yD:=(Kf.1 (Lp.1 hn).2)
 have jQ:=yD.1;unfold aZ.boxes at jQ;have hin: ∀ b,b∈S.boxes∨b∈S.kids→b≠o:=fun b hb e=>hno (by rw [← e]; exact Kg.2 hb)
 have hp:=Kf.1 jQ;have l9:g∈S.q.bp :: S.lp.map (·.2):=LB _ hg;have hgr: ∀ b,b∈((S.q.bs :: S.ls.map (·.2)) ++ ((S.q.be :: S.le.map (·.2)) ++ ((S.q.bb :: S.lb.map (·.2)) ++ ((S.q.bf :: S.lf.map (·.2)) ++ (S.q.bq :: S.lq.map (·.2))))))→b≠g:=fun b hb e=>hp.2.2 g l9 b hb e.symm
 have EI: ∀ b∈S.kids,b≠g:=fun b hb e=>yD.2.2 g (by unfold aZ.boxes; exact Lz _ l9) b hb e.symm
 have hbp:S.q.bp≠g:=fun e=>by
  have:=(Lp.1 hp.1).1
  rw [e] at this;exact this hg
 have lW: ∀ b,b∈(S.q.bp :: S.lp.map (·.2))→b≠o:=fun b hb=>hin b (.inl (by unfold aZ.boxes; exact Lz _ hb))
 have hbr: ∀ b,b∈((S.q.bs :: S.ls.map (·.2)) ++ ((S.q.be :: S.le.map (·.2)) ++ ((S.q.bb :: S.lb.map (·.2)) ++ ((S.q.bf :: S.lf.map (·.2)) ++ (S.q.bq :: S.lq.map (·.2))))))→w'.heap[b]? =w.heap[b]? :=fun b hb=>hs b (hgr b hb) (hin b (.inl (by unfold aZ.boxes; exact Ly _ hb)))
 have hkk: ∀ b∈S.kids,w'.heap[b]? =w.heap[b]? :=fun b hb=>hs b (EI b hb) (hin b (.inr hb))
 have hmem: ∀ (b:Nat),(b∈kids aR S.lp∨b∈kids aC S.lf∨b∈kids aU S.lq)→b∈S.kids:=fun b hb=>by simp only [aZ.kids,Kg]; exact hb
 refine ⟨ho,h.L8.sU (fun p _ _=>(hf p.1).1) hc (hs _ hbp (lW _ (by simp))) (fun b hb hne=>hs b hne (lW b (LB _ hb))),h.aj.same fun b hb=>hbr b (Lz _ hb),h.L9.same fun b hb=>hbr b (Ly _ (Lz _ hb)),h.ag.same fun b hb=>hbr b (Ly _ (Ly _ (Lz _ hb))),h.ae.same fun b hb=>hbr b (Ly _ (Ly _ (Ly _ (Lz _ hb)))),h.ai.same fun b hb=>hbr b (Ly _ (Ly _ (Ly _ (Ly _ hb)))),fun p hp'=> ?_,fun p hp'=>(h.eE p hp').same fun b hb=>hkk b (hmem b (.inr (.inl (Lq.2 ⟨p,hp',hb⟩)))),fun p hp'=>(h.eR p hp').same fun b hb=>hkk b (hmem b (.inr (.inr (Lq.2 ⟨p,hp',hb⟩)))),?_,h.low⟩
 ·obtain ⟨r,hr,rfl⟩:=yy.1 hp'
  have hm:aR.cO w' base r.1:=(h.eI r hr).same fun b hb=>hkk b (hmem b (.inl (Lq.2 ⟨r,hr,hb⟩)))
  split
  ·show w'.ownsRow base _ 4 (.slice (f r.1).aY (f r.1).prog.length (f r.1).bH) (f r.1).prog.length (fk.flat (f r.1).prog)
   rw [(hf r.1).2.1,(hf r.1).2.2.1,(hf r.1).2.2.2];exact hm
  ·exact hm
 ·have e1:(S.ju g f nx).boxes=S.boxes:=by simp only [aZ.boxes,aZ.ju,qb]
  have e2:(S.ju g f nx).kids=S.kids:=by simp only [aZ.kids,aZ.ju,GW iH]
  rw [e1,e2];exact hn
end
section
open Go.RowKit
attribute [local go_sem ↓] Kc Kd
def eA.Mc (k:eA):List Nat:=blk k.vb ++ (blk k.qn ++ (blk k.qi ++ k.parts.flatMap af.Mc))
def V8 (k:eA):Nat:=aF (fun _=>3) k.fn+aF V0 k.parts+aF (fun _=>4) k.eC
def WA (m:Int) (k:eA):eA:= { k with fn:=aJ Wb (fun _=>3) m k.fn,parts:=aJ V9 V0 (m+(aF (fun _=>3) k.fn:Nat)) k.parts,eC:=aJ Wa (fun _=>4) (m+(aF (fun _=>3) k.fn:Nat)+(aF V0 k.parts:Nat)) k.eC }
section
variable {w w':World} {base:Nat} {k:eA}
theorem gp.apart (h:gp w base k):(∀ g∈blk k.vb,g∉blk k.qn∧g∉blk k.qi∧g∉k.parts.flatMap af.Mc)∧(∀ g∈blk k.qn,g∉blk k.qi∧g∉k.parts.flatMap af.Mc)∧ ∀ g∈blk k.qi,g∉k.parts.flatMap af.Mc:=by
 obtain ⟨-,h2,h3⟩:=Kf.1 h.nodup;obtain ⟨-,h5,h6⟩:=Kf.1 h2;obtain ⟨-,-,h9⟩:=Kf.1 h5;exact ⟨fun g hg=>⟨fun hm=>h3 g hg g (Lz _ hm) rfl,fun hm=>h3 g hg g (Ly _ (Lz _ hm)) rfl,fun hm=>h3 g hg g (Ly _ (Ly _ hm)) rfl⟩,fun g hg=>⟨fun hm=>h6 g hg g (Lz _ hm) rfl,fun hm=>h6 g hg g (Ly _ hm) rfl⟩,fun g hg hm=>h9 g hg g hm rfl⟩
theorem gp.Xa {l:List pA} (h:gp w base k) (ho:w'.ownsRow base 100 3 (.slice k.vb k.fn.length k.Te) k.fn.length (jq.flat l)) (hl:l.length=k.fn.length) (hk:aI w w' (blk k.vb)):gp w' base { k with fn:=l } :=by
 obtain ⟨a1,a2,a3⟩:=h.apart;exact ⟨by rw [hl]; exact ho,aL h.parts fun g hg=>hk.same g (cf h.parts hg).2 fun hm=>(a1 g hm).1 hg,aL h.eC fun g hg=>hk.same g (cf h.eC hg).2 fun hm=>(a1 g hm).2.1 hg,fun p hp=>(h.mine p hp).same fun g hg=>hk.same g ((h.mine p hp).lt g hg).2 fun hm=>(a1 g hm).2.2 (Rt.2 ⟨p,hp,hg⟩),h.nodup⟩
theorem gp.WR {l:List af} (h:gp w base k) (ho:w'.ownsRow base 48 8 (.slice k.qn k.parts.length k.sa) k.parts.length (kp.flat l)) (hl:l.length=k.parts.length) (hm: ∀ q∈l,ap w' base q) (hb:l.flatMap af.Mc=k.parts.flatMap af.Mc) (hk:aI w w' (blk k.qn ++ k.parts.flatMap af.Mc)):gp w' base { k with parts:=l } :=by
 obtain ⟨a1,a2,a3⟩:=h.apart;exact ⟨aL h.fn fun g hg=>hk.same g (cf h.fn hg).2 fun hm=>(Kg.1 hm).elim (a1 g hg).1 (a1 g hg).2.2,by rw [hl]; exact ho,aL h.eC fun g hg=>hk.same g (cf h.eC hg).2 fun hm=>(Kg.1 hm).elim (fun hm=>(a2 g hm).1 hg) (a3 g hg),hm,by have:=h.nodup; rw [← hb] at this; exact this⟩
theorem gp.WV {l:List eQ} (h:gp w base k) (ho:w'.ownsRow base 80 4 (.slice k.qi k.eC.length k.tC) k.eC.length (hM.flat l)) (hl:l.length=k.eC.length) (hk:aI w w' (blk k.qi)):gp w' base { k with eC:=l } :=by
 obtain ⟨a1,a2,a3⟩:=h.apart;exact ⟨aL h.fn fun g hg=>hk.same g (cf h.fn hg).2 fun hm=>(a1 g hg).2.1 hm,aL h.parts fun g hg=>hk.same g (cf h.parts hg).2 fun hm=>(a2 g hg).1 hm,by rw [hl]; exact ho,fun p hp=>(h.mine p hp).same fun g hg=>hk.same g ((h.mine p hp).lt g hg).2 fun hm=>a3 g hm (Rt.2 ⟨p,hp,hg⟩),h.nodup⟩
theorem gp.lt (h:gp w base k) {g:Nat} (hg:g∈k.Mc):base≤g∧g < w.heap.size:=by
 unfold eA.Mc at hg;simp only [Kg] at hg;rcases hg with hg | hg | hg | hg
 ·exact cf h.fn hg
 ·exact cf h.parts hg
 ·exact cf h.eC hg
 ·obtain ⟨p,hp,l9⟩:=Rt.1 hg
  exact (h.mine p hp).lt g l9
end
theorem WB (major:Int) (a:Option Addr) (l:List pA) (cap:Nat) (k:Int) (w:World) (base:Nat) (hl:l.length≤1048576) (h0:1≤k) (h1:k+(aF (fun _=>3) l:Nat)≤90000000) (ho:w.ownsRow base 100 3 (.slice a l.length cap) l.length (jq.flat l)):
  Calls J3 54 #[.agg #[.int .i64 major,.slice a l.length cap],.int .i64 k] w fun e w'=>e= .returned (.int .i64 (k+(aF (fun _=>3) l:Nat)))∧w'.ownsRow base 100 3 (.slice a l.length cap) l.length (jq.flat (aJ Wb (fun _=>3) k l))∧aI w w' (blk a):=by
 have hz:Below w.heap.size w (w.alloc (.cells #[.int .i64 major,.slice a l.length cap] 33)):=(Kp _ _).alloc (Ki _) _;have Mb:=WE a l cap k (w.alloc (.cells #[.int .i64 major,.slice a l.length cap] 33)) base hl h0 h1 (cR ho hz);have HZ:=aA hz;clear ho hz
 go_enter Tryz.func54,Tryz.ntmps54
 go_wp2_with fail;refine Mb.mono ?_;clear Mb;rintro e W1 ⟨rfl,how,hkb⟩;have HY:=aA (And.intro how ((aI.dI HZ.I (bs:=blk a)).trans hkb));clear how hkb;go_wp2;go_ret;exact ⟨rfl,HY.I⟩
structure eA.WN (k:eA):Prop where
 Ts:k.fn.length≤1048576
 sC:k.parts.length≤1048576
 w8:k.eC.length≤1048576
 parts: ∀ p∈k.parts,p.WN
theorem Wv (k:eA) (m:Int) (w:World) (base:Nat) (hc:k.WN) (h0:1≤m) (h1:m+(V8 k:Nat)≤90000000) (ho:gp w base k):
  Calls J3 16 #[.agg k.row,.int .i64 m] w fun e w'=>e= .returned (.int .i64 (m+(V8 k:Nat)))∧gp w' base (WA m k)∧aI w w' k.Mc:=by
 have hz:Below w.heap.size w (w.alloc (.cells k.row 37)):=(Kp _ _).alloc (Ki _) _;have HK:Hid (Tk (w.alloc (.cells k.row 37)) w.heap.size k∧gp (w.alloc (.cells k.row 37)) base k∧aI w (w.alloc (.cells k.row 37)) k.Mc):=⟨Kj _ _,ho.below hz,aI.dI hz⟩
 have HC:=aA hc;have HN:Hid (w.heap.size∉k.Mc):=fun hm=>by have:=(ho.lt hm).2; omega
 have q0:m+(aF (fun _:pA=>3) k.fn:Nat)≤90000000:=by unfold V8 at h1; omega
 have q1:m+(aF (fun _:pA=>3) k.fn:Nat)+(aF V0 k.parts:Nat)≤90000000:=by unfold V8 at h1; omega
 have q2:m+(aF (fun _:pA=>3) k.fn:Nat)+(aF V0 k.parts:Nat)+(aF (fun _:eQ=>4) k.eC:Nat)≤90000000:=by unfold V8 at h1; omega
 clear hc ho hz h1
 go_enter Tryz.func16,Tryz.ntmps16
 go_upto_region 1 with fail;generalize w.alloc (.cells k.row 37)=W0 at *;obtain ⟨m0,m1,m2,m3,m4⟩:=HK.I.1.cells;have Mb:=WB k.major k.vb k.fn k.Te m W0 base HC.I.Ts h0 q0 HK.I.2.1.fn;go_wp2_with fail;clear m0 m1 m2 m3 m4;refine Mb.mono ?_;clear Mb;rintro e W1 ⟨rfl,how,hkb⟩;have hsub: ∀ g∈blk k.vb,g∈k.Mc:=fun g hg=>Lz _ hg
 replace HK:Hid (Tk W1 w.heap.size k∧gp W1 base { k with fn:=aJ Wb (fun _=>3) m k.fn } ∧aI w W1 k.Mc):=⟨(hkb.same _ (J2.1 HK.I.1).1 fun hm=>HN.I (hsub _ hm)).trans HK.I.1,HK.I.2.1.Xa how (bE _ _ _ _) hkb,HK.I.2.2.trans (hkb.mono hsub)⟩
 clear how hkb hsub;obtain ⟨m0,m1,m2,m3,m4⟩:=HK.I.1.cells;have Mb:=Wz k.qn k.parts k.sa (m+(aF (fun _:pA=>3) k.fn:Nat)) W1 base HC.I.sC HC.I.parts (by omega) q1 HK.I.2.1.parts HK.I.2.1.mine (by
  obtain ⟨-,h2,-⟩:=Kf.1 HK.I.2.1.nodup;obtain ⟨h4,h5,h6⟩:=Kf.1 h2;obtain ⟨-,h8,-⟩:=Kf.1 h5;exact Kf.2 ⟨h4,h8,fun x hx y hy=>h6 x hx y (Ly _ hy)⟩)
 go_wp2_with fail;clear m0 m1 m2 m3 m4;refine Mb.mono ?_;clear Mb;rintro e W2 ⟨rfl,how,hkb⟩;have hsub: ∀ g∈blk k.qn ++ k.parts.flatMap af.Mc,g∈k.Mc:=fun g hg=>by
  rcases Kg.1 hg with hg | hg
  ·exact Ly _ (Lz _ hg)
  ·exact Ly _ (Ly _ (Ly _ hg))
 replace HK:Hid (Tk W2 w.heap.size k∧gp W2 base { k with fn:=aJ Wb (fun _=>3) m k.fn,parts:=aJ V9 V0 (m+(aF (fun _=>3) k.fn:Nat)) k.parts } ∧aI w W2 k.Mc):=⟨(hkb.same _ (J2.1 HK.I.1).1 fun hm=>HN.I (hsub _ hm)).trans HK.I.1,HK.I.2.1.WR how.1 (bE _ _ _ _) how.2 (Wc _ _) hkb,HK.I.2.2.trans (hkb.mono hsub)⟩
 clear how hkb hsub;obtain ⟨m0,m1,m2,m3,m4⟩:=HK.I.1.cells;have Mb:=WC k.qi k.eC k.tC (m+(aF (fun _:pA=>3) k.fn:Nat)+(aF V0 k.parts:Nat)) W2 base HC.I.w8 (by omega) q2 HK.I.2.1.eC;go_wp2_with fail;clear m0 m1 m2 m3 m4;refine Mb.mono ?_;clear Mb;rintro e W3 ⟨rfl,how,hkb⟩;have hsub: ∀ g∈blk k.qi,g∈k.Mc:=fun g hg=>Ly _ (Ly _ (Lz _ hg))
 replace HK:Hid (gp W3 base (WA m k)∧aI w W3 k.Mc):=⟨HK.I.2.1.WV how (bE _ _ _ _) hkb,HK.I.2.2.trans (hkb.mono hsub)⟩
 clear how hkb hsub;go_wp2;go_ret;exact ⟨ck (by unfold V8; omega),HK.I⟩
end
section
open Go.RowKit Go.Maps
def Zq (k:kd) (aw:Option Addr) (Y3:Nat) (p c:Value):Array Value:= #[.int .i64 k.now,.int .i64 k.major,.slice aw k.fn.length Y3,p,c]
structure Zt (w W3:World) (X lo:Nat) (k:kd) (aw:Option Addr) (Y3:Nat) (l:List (aZ × Nat)) (n:Nat) (I:List af) (Zj:Option Addr) (cp:Nat) (W:World):Prop where
 box:W.heap[X]? =some (.cells (Zq k aw Y3 (.slice Zj I.length cp) (.slice none 0 0)) 37 (0,0))
 pg:YR W3.heap.size lo I Zj cp W
 pure:I.map (·.pure)=(l.take n).map (·.1.pure)
 bl: ∀ q∈I,∀ g∈q.Mc,W3.heap.size≤g∨ ∃ p∈l.take n,g∈p.1.kids
 same: ∀ g,g < W3.heap.size→g≠X→W.heap[g]? =W3.heap[g]?
 cd:Below w.heap.size w W
 size:W3.heap.size≤W.heap.size
theorem Zt.len {w W3 W:World} {X lo n Y3 cp:Nat} {k:kd} {aw Zj:Option Addr} {l:List (aZ × Nat)} {I:List af} (h:Zt w W3 X lo k aw Y3 l n I Zj cp W):I.length≤n:=by
 have h1:=congrArg List.length h.pure;simp at h1;omega
theorem Zt.step {w W3 W W5:World} {X lo n Y3 cp:Nat} {k:kd} {aw Zj:Option Addr} {l:List (aZ × Nat)} {I:List af} {p:aZ × Nat} {r:af} (h:Zt w W3 X lo k aw Y3 l n I Zj cp W) (hp:l[n]? =some p)
  (hap:l.Pairwise fun p q=> ∀ g∈p.1.all p.2,∀ g'∈q.1.all q.2,g≠g') (hall: ∀ p∈l,∀ g∈p.1.all p.2,g < w.heap.size) (hX:w.heap.size≤X∧X < W3.heap.size) (hn:l.length≤6)
  (hr:ap W5 lo r) (gn:r.pure=p.1.pure) (hb:Below W.heap.size W W5) (hbl: ∀ g∈r.Mc,g∈p.1.kids∨W.heap.size≤g):
  ∃ a' cap' w',(Builtin.append_ #[34,34] 34 #[.slice Zj I.length cp,.slice (some ⟨W5.heap.size,0,none⟩) 1 1]).run J3 (W5.alloc (.cells r.cells 48))= .ok (.slice a' (I.length+1) cap') w'∧Below w.heap.size w w'∧w'.heap[X]? =some (.cells (Zq k aw Y3 (.slice Zj I.length cp) (.slice none 0 0)) 37 (0,0))∧Zt w W3 X lo k aw Y3 l (n+1) (I ++ [r]) a' cap' (w'.setCell ⟨X,3,none⟩ (.slice a' (I.length+1) cap')):=by
 have hlt:n < l.length:=(List.getElem?_eq_some_iff.1 hp).1;have hlen:=h.len;have hsz:=h.size;have aaX:=hb.size;have hxl:X < W.heap.size:=by omega
 have bt: ∀ q∈l,∀ g∈q.1.kids,g∈q.1.all q.2:=fun q _ g hg=>LB _ (Ly _ hg)
 have hpm:p∈l:=KA hp;have hpd:p∈l.drop n:=by rw [List.drop_eq_getElem_cons hlt]; rw [Kz hlt] at hp; cases hp; exact LA
 have hlow: ∀ g∈blk Zj,W3.heap.size≤g:=fun g hg=>(cf h.pg.own hg).1
 have hf: ∀ g∈r.Mc,g∉blk Zj ++ I.flatMap af.Mc:=fun g hg hm=>by
  rcases hbl g hg with hk | hk
  ·have h1:=hall p hpm g (bt p hpm g hk)
   rcases Kg.1 hm with hm | hm
   ·have:=hlow g hm; omega
   ·obtain ⟨q,hq,hgq⟩:=Rt.1 hm
    rcases h.bl q hq g hgq with h2 | ⟨q',hq',hg'⟩
    ·omega
    ·rw [← List.take_append_drop n l] at hap
     exact (List.pairwise_append.1 hap).2.2 q' hq' p hpd g (bt q' (RK hq') g hg') g (bt p hpm g hk) rfl
  ·have:=h.pg.lt g hm; omega
 obtain ⟨a',cap',w',h1,h2,h3,h4⟩:=aaw (h.pg.below hb) hr hf (by omega) (by omega);have hw':=h3.size;have lY:Below w.heap.size w w':=(h.cd.trans (hb.mono h.cd.size)).trans (h3.below (by have:=h.cd.size; omega) fun g hg=>by have:=hlow g hg; omega);have hsame: ∀ g,g < W3.heap.size→w'.heap[g]? =W.heap[g]? :=fun g hg=>(h3.same g (by omega) fun hm=>by have:=hlow g hm; omega).trans (hb.block g (by omega))
 have lD:w'.heap[X]? =some (.cells (Zq k aw Y3 (.slice Zj I.length cp) (.slice none 0 0)) 37 (0,0)):=(hsame X (by omega)).trans h.box;have hmore: ∀ q∈I ++ [r],∀ g∈q.Mc,W3.heap.size≤g∨ ∃ p∈l.take (n+1),g∈p.1.kids:=fun q hq g hg=>by
  rw [cj hp];rcases Kg.1 hq with hq | hq
  ·rcases h.bl q hq g hg with h5 | ⟨q',h5,h6⟩
   ·exact .inl h5
   ·exact .inr ⟨q',Lz _ h5,h6⟩
  ·rw [KB.1 hq] at hg
   rcases hbl g hg with h5 | h5
   ·exact .inr ⟨p,Ly _ (KB.2 rfl),h5⟩
   ·exact .inl (by omega)
 refine ⟨a',cap',w',h1,lY,lD,?_,h2.same fun g hg=>ac5 _ _ _ _ ?_,?_,hmore,fun g hg hx=>(ac5 _ _ _ _ hx).trans ((hsame g hg).trans (h.same g hg hx)),lY.setCell hX.1 _,?_⟩
 ·rw [Lf,adg]
  exact heap_setCell_same _ _ _ _ _ _ lD
 ·show g≠X
  rcases Kg.1 hg with hg | hg
  ·have:=(cf h2.own hg).1; omega
  ·obtain ⟨q,hq,hgq⟩:=Rt.1 hg
   rcases hmore q hq g hgq with h5 | ⟨q',h5,h6⟩
   ·omega
   ·have hm':=RK h5
    have:=hall q' hm' g (bt q' hm' g h6)
    omega
 ·rw [cj hp,Kl,Kl,h.pure,adl,adl,gn]
 ·simp [World.setCell]; omega
end
end Go.Proofs.YteidkehoekbcaaaGreat
