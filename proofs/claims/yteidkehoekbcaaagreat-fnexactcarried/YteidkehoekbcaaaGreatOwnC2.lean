/- What the proof leans on, part 2. -/
import Derived.Test.YteidkehoekbcaaaGreatOwnK19
import Derived.Test.YteidkehoekbcaaaGreatOwnC0
set_option maxRecDepth 100000
set_option maxHeartbeats 8000000
open Array renaming getElem?_eq_some_iff->J2
open Bool renaming and_eq_true->J7
open Go renaming callsIn_wide->LO
open Go.Proofs.Tryz renaming prog->J3
open Go.RowKit.Below renaming refl->Kp
open Go.World renaming cell?_of_block->J1
open List renaming append_assoc->Lm,filterMap_append->LW,mem_append->Kg,mem_append_left->Lz,mem_append_right->Ly,mem_cons->Kt,mem_filterMap->Lq,mem_flatMap->Rt,mem_map->Lr,mem_singleton->KB,nil_append->Ll,nodup_append->Kf,not_mem_nil->Ku
open Nat renaming le_refl->Ki,le_trans->LG,zero_add->Li,zero_le->Ky
open Option renaming map_eq_some_iff->Kw
open Option.some renaming injEq->LF
open Prod.mk renaming injEq->Kx

namespace Go.Proofs.YteidkehoekbcaaaGreat
section
open Go.RowKit
theorem qC {Z A A' K k R:List Nat} (h:(Z ++ (A ++ (K ++ R))).Nodup) (hA:A'.Nodup) (hk:k.Nodup) (h1: ∀ g∈A',g∉Z∧g∉K∧g∉k∧g∉R) (h2: ∀ g∈k,g∉Z∧g∉K∧g∉R):(Z ++ (A' ++ ((K ++ k) ++ R))).Nodup:=by
 simp only [Kf,Kg] at h ⊢;obtain ⟨hz,⟨-,⟨hK,hR,hKR⟩,-⟩,hzz⟩:=h;refine ⟨hz,⟨hA,⟨⟨hK,hk,fun a ha b hb e=>(h2 b hb).2.1 (e ▸ ha)⟩,hR,fun a ha b hb e=> ?_⟩,fun a ha b hb e=> ?_⟩,fun a ha b hb e=> ?_⟩
 ·rcases ha with ha | ha
  ·exact hKR a ha b hb e
  ·exact (h2 a ha).2.2 (e ▸ hb)
 ·subst e
  rcases hb with (hb | hb) | hb
  ·exact (h1 a ha).2.1 hb
  ·exact (h1 a ha).2.2.1 hb
  ·exact (h1 a ha).2.2.2 hb
 ·subst e
  rcases hb with hb | (hb | hb) | hb
  ·exact (h1 a hb).1 ha
  ·exact hzz a ha a (.inr (.inl hb)) rfl
  ·exact (h2 a hb).1 ha
  ·exact hzz a ha a (.inr (.inr hb)) rfl
theorem fN (a:Option Addr):(blk a).Nodup:=by cases a <;> simp [blk]
theorem qj {α:Type} (N:gd α) (x:α):([x].filterMap N.bt).Nodup:=by
 cases h:N.bt x <;> simp [h]
theorem dd {α:Type} {N:gd α} {l:List α} {y:α} {g:Nat} (hy:y∈l) (hk:N.bt y=some g):(∃ a,a∈l∧N.bt a=some g)=True:=by simp only [eq_iff_iff,iff_true]; exact ⟨y,hy,hk⟩
theorem j5 {α:Type} {N:gd α} {x:α} {g:Nat} :g∈ [x].filterMap N.bt↔N.bt x=some g:=by simp
theorem ap.yg {w w':World} {base:Nat} {q:af} {x:ao} {a:Option Addr} {c:Nat} (h:ap w base q) (hm:aR.cO w base x) (hx: ∀ g,aR.bt x=some g→g∉q.Mc)
  (ho:w'.ownsRow base 148 12 (.slice a (q.L8.length+1) c) (q.L8.length+1) (bg.flat (q.L8 ++ [x]))) (hg: ∀ g,g < w.heap.size→g∉blk q.aN→w'.heap[g]? =w.heap[g]?) (hb: ∀ g∈blk a,g∈blk q.aN∨g=w.heap.size):
  ap w' base ({ q with L8:=q.L8 ++ [x],aN:=a,aW:=c } :af)∧ ∀ g∈({ q with L8:=q.L8 ++ [x],aN:=a,aW:=c } :af).Mc,g∈q.Mc∨aR.bt x=some g∨g=w.heap.size:=by
 have hbs:q.Mc= [] ++ (blk q.aN ++ (q.L8.filterMap aR.bt ++ (blk q.bc ++ (blk q.ay ++ (blk q.ax ++ (blk q.am ++ (q.ae.filterMap aC.bt ++ (blk q.aK ++ q.ai.filterMap aU.bt)))))))):=by simp [af.Mc]
 have rN:({ q with L8:=q.L8 ++ [x],aN:=a,aW:=c } :af).Mc= [] ++ (blk a ++ ((q.L8.filterMap aR.bt ++ [x].filterMap aR.bt) ++ (blk q.bc ++ (blk q.ay ++ (blk q.ax ++ (blk q.am ++ (q.ae.filterMap aC.bt ++ (blk q.aK ++ q.ai.filterMap aU.bt)))))))):=by simp only [af.Mc,Lm,LW,Ll]
 have hnd:=h.nodup;rw [hbs] at hnd;have hlt: ∀ g∈q.Mc,g < w.heap.size:=fun g hg=>(h.lt g hg).2
 have uW: ∀ g∈q.Mc,g∉blk q.aN→w'.heap[g]? =w.heap[g]? :=fun g bR hn=>hg g (hlt g bR) hn
 have nc: ∀ g,(g∈ [] ∨g∈q.L8.filterMap aR.bt∨g∈(blk q.bc ++ (blk q.ay ++ (blk q.ax ++ (blk q.am ++ (q.ae.filterMap aC.bt ++ (blk q.aK ++ q.ai.filterMap aU.bt)))))))→g∉blk q.aN:=fun g bR hA=>by
  obtain ⟨-,h2,h3⟩:=Kf.1 hnd;obtain ⟨-,-,h4⟩:=Kf.1 h2;rcases bR with bR | bR | bR
  ·exact h3 g bR g (Lz _ hA) rfl
  ·exact h4 g hA g (Lz _ bR) rfl
  ·exact h4 g hA g (Ly _ bR) rfl
 have hmem: ∀ g,(g∈ [] ∨g∈q.L8.filterMap aR.bt∨g∈(blk q.bc ++ (blk q.ay ++ (blk q.ax ++ (blk q.am ++ (q.ae.filterMap aC.bt ++ (blk q.aK ++ q.ai.filterMap aU.bt)))))))→g∈q.Mc:=fun g bR=>by
  rw [hbs];simp only [Kg];simp only [Kg] at bR;rcases bR with bR | bR | bR
  ·exact .inl bR
  ·exact .inr (.inr (.inl bR))
  ·exact .inr (.inr (.inr bR))
 have hs: ∀ g,(g∈ [] ∨g∈q.L8.filterMap aR.bt∨g∈(blk q.bc ++ (blk q.ay ++ (blk q.ax ++ (blk q.am ++ (q.ae.filterMap aC.bt ++ (blk q.aK ++ q.ai.filterMap aU.bt)))))))→w'.heap[g]? =w.heap[g]? :=fun g bR=>uW g (hmem g bR) (nc g bR)
 have hxs: ∀ g,aR.bt x=some g→w'.heap[g]? =w.heap[g]? :=fun g hk=>hg g (hm.lt hk).2 fun hA=>hx g hk (by rw [hbs]; simp only [Kg]; exact .inr (.inl hA))
 refine ⟨⟨(by simpa using ho),aL h.aj fun g bR=>hs g (.inr <| .inr (by simp [bR])),aL h.L9 fun g bR=>hs g (.inr <| .inr (by simp [bR])),aL h.ag fun g bR=>hs g (.inr <| .inr (by simp [bR])),aL h.ae fun g bR=>hs g (.inr <| .inr (by simp [bR])),aL h.ai fun g bR=>hs g (.inr <| .inr (by simp [bR])),fun y hy=>by
  rcases Kg.1 hy with hy | hy
  ·exact (h.eI y hy).same fun g hk=>hs g (.inr (.inl (Lq.2 ⟨y,hy,hk⟩)))
  ·simp only [Kt,Ku,or_false] at hy
   subst hy;exact hm.same hxs,fun y hy=>(h.eE y hy).same fun g hk=>hs g (.inr <| .inr (by simp only [Kg,Lq]; simp [dd hy hk])),fun y hy=>(h.eR y hy).same fun g hk=>hs g (.inr <| .inr (by simp only [Kg,Lq]; simp [dd hy hk])),?_⟩,?_⟩
 ·rw [rN]
  refine qC hnd (fN a) (qj _ x) (fun g iE=> ?_) (fun g EI=> ?_)
  ·have key: ∀ g',(g'∈ [] ∨g'∈q.L8.filterMap aR.bt∨g'∈(blk q.bc ++ (blk q.ay ++ (blk q.ax ++ (blk q.am ++ (q.ae.filterMap aC.bt ++ (blk q.aK ++ q.ai.filterMap aU.bt)))))))→g'≠g:=fun g' hg' e=>by
    rcases hb g iE with h1 | h1
    ·exact nc g' hg' (e ▸ h1)
    ·have:=hlt g' (hmem g' hg')
     omega
   refine ⟨fun hz=>key g (.inl hz) rfl,fun hz=>key g (.inr (.inl hz)) rfl,fun hz=> ?_,fun hz=>key g (.inr (.inr hz)) rfl⟩;rw [j5] at hz;rcases hb g iE with h1 | h1
   ·exact hx g hz (by rw [hbs]; simp only [Kg]; exact .inr (.inl h1))
   ·have:=(hm.lt hz).2
    omega
  ·rw [j5] at EI
   have hn:=hx g EI;exact ⟨fun hz=>hn (hmem g (.inl hz)),fun hz=>hn (hmem g (.inr (.inl hz))),fun hz=>hn (hmem g (.inr (.inr hz)))⟩
 ·intro g bR
  rw [rN] at bR;rw [hbs];simp only [Kg] at bR ⊢;rcases bR with bR | bR | (bR | bR) | bR
  ·exact .inl (.inl bR)
  ·rcases hb g bR with h1 | h1
   ·exact .inl (.inr (.inl h1))
   ·exact .inr (.inr h1)
  ·exact .inl (.inr (.inr (.inl bR)))
  ·exact .inr (.inl (j5.1 bR))
  ·exact .inl (.inr (.inr (.inr bR)))
theorem ap.sD {w w':World} {base:Nat} {q:af} {x:au} {a:Option Addr} {c:Nat} (h:ap w base q) (hm:aC.cO w base x) (hx: ∀ g,aC.bt x=some g→g∉q.Mc)
  (ho:w'.ownsRow base 160 3 (.slice a (q.ae.length+1) c) (q.ae.length+1) (bm.flat (q.ae ++ [x]))) (hg: ∀ g,g < w.heap.size→g∉blk q.am→w'.heap[g]? =w.heap[g]?) (hb: ∀ g∈blk a,g∈blk q.am∨g=w.heap.size):
  ap w' base ({ q with ae:=q.ae ++ [x],am:=a,aG:=c } :af)∧ ∀ g∈({ q with ae:=q.ae ++ [x],am:=a,aG:=c } :af).Mc,g∈q.Mc∨aC.bt x=some g∨g=w.heap.size:=by
 have hbs:q.Mc=(blk q.aN ++ q.L8.filterMap aR.bt ++ blk q.bc ++ blk q.ay ++ blk q.ax) ++ (blk q.am ++ (q.ae.filterMap aC.bt ++ (blk q.aK ++ q.ai.filterMap aU.bt))):=by simp [af.Mc,Lm]
 have rN:({ q with ae:=q.ae ++ [x],am:=a,aG:=c } :af).Mc=(blk q.aN ++ q.L8.filterMap aR.bt ++ blk q.bc ++ blk q.ay ++ blk q.ax) ++ (blk a ++ ((q.ae.filterMap aC.bt ++ [x].filterMap aC.bt) ++ (blk q.aK ++ q.ai.filterMap aU.bt))):=by simp only [af.Mc,Lm,LW]
 have hnd:=h.nodup;rw [hbs] at hnd;have hlt: ∀ g∈q.Mc,g < w.heap.size:=fun g hg=>(h.lt g hg).2
 have uW: ∀ g∈q.Mc,g∉blk q.am→w'.heap[g]? =w.heap[g]? :=fun g bR hn=>hg g (hlt g bR) hn
 have nc: ∀ g,(g∈(blk q.aN ++ q.L8.filterMap aR.bt ++ blk q.bc ++ blk q.ay ++ blk q.ax)∨g∈q.ae.filterMap aC.bt∨g∈(blk q.aK ++ q.ai.filterMap aU.bt))→g∉blk q.am:=fun g bR hA=>by
  obtain ⟨-,h2,h3⟩:=Kf.1 hnd;obtain ⟨-,-,h4⟩:=Kf.1 h2;rcases bR with bR | bR | bR
  ·exact h3 g bR g (Lz _ hA) rfl
  ·exact h4 g hA g (Lz _ bR) rfl
  ·exact h4 g hA g (Ly _ bR) rfl
 have hmem: ∀ g,(g∈(blk q.aN ++ q.L8.filterMap aR.bt ++ blk q.bc ++ blk q.ay ++ blk q.ax)∨g∈q.ae.filterMap aC.bt∨g∈(blk q.aK ++ q.ai.filterMap aU.bt))→g∈q.Mc:=fun g bR=>by
  rw [hbs];simp only [Kg];simp only [Kg] at bR;rcases bR with bR | bR | bR
  ·exact .inl bR
  ·exact .inr (.inr (.inl bR))
  ·exact .inr (.inr (.inr bR))
 have hs: ∀ g,(g∈(blk q.aN ++ q.L8.filterMap aR.bt ++ blk q.bc ++ blk q.ay ++ blk q.ax)∨g∈q.ae.filterMap aC.bt∨g∈(blk q.aK ++ q.ai.filterMap aU.bt))→w'.heap[g]? =w.heap[g]? :=fun g bR=>uW g (hmem g bR) (nc g bR)
 have hxs: ∀ g,aC.bt x=some g→w'.heap[g]? =w.heap[g]? :=fun g hk=>hg g (hm.lt hk).2 fun hA=>hx g hk (by rw [hbs]; simp only [Kg]; exact .inr (.inl hA))
 refine ⟨⟨aL h.L8 fun g bR=>hs g (.inl (by simp [bR])),aL h.aj fun g bR=>hs g (.inl (by simp [bR])),aL h.L9 fun g bR=>hs g (.inl (by simp [bR])),aL h.ag fun g bR=>hs g (.inl (by simp [bR])),(by simpa using ho),aL h.ai fun g bR=>hs g (.inr <| .inr (by simp [bR])),fun y hy=>(h.eI y hy).same fun g hk=>hs g (.inl (by simp only [Kg,Lq]; simp [dd hy hk])),fun y hy=>by
  rcases Kg.1 hy with hy | hy
  ·exact (h.eE y hy).same fun g hk=>hs g (.inr (.inl (Lq.2 ⟨y,hy,hk⟩)))
  ·simp only [Kt,Ku,or_false] at hy
   subst hy;exact hm.same hxs,fun y hy=>(h.eR y hy).same fun g hk=>hs g (.inr <| .inr (by simp only [Kg,Lq]; simp [dd hy hk])),?_⟩,?_⟩
 ·rw [rN]
  refine qC hnd (fN a) (qj _ x) (fun g iE=> ?_) (fun g EI=> ?_)
  ·have key: ∀ g',(g'∈(blk q.aN ++ q.L8.filterMap aR.bt ++ blk q.bc ++ blk q.ay ++ blk q.ax)∨g'∈q.ae.filterMap aC.bt∨g'∈(blk q.aK ++ q.ai.filterMap aU.bt))→g'≠g:=fun g' hg' e=>by
    rcases hb g iE with h1 | h1
    ·exact nc g' hg' (e ▸ h1)
    ·have:=hlt g' (hmem g' hg')
     omega
   refine ⟨fun hz=>key g (.inl hz) rfl,fun hz=>key g (.inr (.inl hz)) rfl,fun hz=> ?_,fun hz=>key g (.inr (.inr hz)) rfl⟩;rw [j5] at hz;rcases hb g iE with h1 | h1
   ·exact hx g hz (by rw [hbs]; simp only [Kg]; exact .inr (.inl h1))
   ·have:=(hm.lt hz).2
    omega
  ·rw [j5] at EI
   have hn:=hx g EI;exact ⟨fun hz=>hn (hmem g (.inl hz)),fun hz=>hn (hmem g (.inr (.inl hz))),fun hz=>hn (hmem g (.inr (.inr hz)))⟩
 ·intro g bR
  rw [rN] at bR;rw [hbs];simp only [Kg] at bR ⊢;rcases bR with bR | bR | (bR | bR) | bR
  ·exact .inl (.inl bR)
  ·rcases hb g bR with h1 | h1
   ·exact .inl (.inr (.inl h1))
   ·exact .inr (.inr h1)
  ·exact .inl (.inr (.inr (.inl bR)))
  ·exact .inr (.inl (j5.1 bR))
  ·exact .inl (.inr (.inr (.inr bR)))
theorem ap.yf {w w':World} {base:Nat} {q:af} {x:aM} {a:Option Addr} {c:Nat} (h:ap w base q) (hm:aU.cO w base x) (hx: ∀ g,aU.bt x=some g→g∉q.Mc)
  (ho:w'.ownsRow base 85 5 (.slice a (q.ai.length+1) c) (q.ai.length+1) (bX.flat (q.ai ++ [x]))) (hg: ∀ g,g < w.heap.size→g∉blk q.aK→w'.heap[g]? =w.heap[g]?) (hb: ∀ g∈blk a,g∈blk q.aK∨g=w.heap.size):
  ap w' base ({ q with ai:=q.ai ++ [x],aK:=a,aV:=c } :af)∧ ∀ g∈({ q with ai:=q.ai ++ [x],aK:=a,aV:=c } :af).Mc,g∈q.Mc∨aU.bt x=some g∨g=w.heap.size:=by
 have hbs:q.Mc=(blk q.aN ++ q.L8.filterMap aR.bt ++ blk q.bc ++ blk q.ay ++ blk q.ax ++ blk q.am ++ q.ae.filterMap aC.bt) ++ (blk q.aK ++ (q.ai.filterMap aU.bt ++ [])):=by simp [af.Mc,Lm]
 have rN:({ q with ai:=q.ai ++ [x],aK:=a,aV:=c } :af).Mc=(blk q.aN ++ q.L8.filterMap aR.bt ++ blk q.bc ++ blk q.ay ++ blk q.ax ++ blk q.am ++ q.ae.filterMap aC.bt) ++ (blk a ++ ((q.ai.filterMap aU.bt ++ [x].filterMap aU.bt) ++ [])):=by simp only [af.Mc,Lm,LW,List.append_nil]
 have hnd:=h.nodup;rw [hbs] at hnd;have hlt: ∀ g∈q.Mc,g < w.heap.size:=fun g hg=>(h.lt g hg).2
 have uW: ∀ g∈q.Mc,g∉blk q.aK→w'.heap[g]? =w.heap[g]? :=fun g bR hn=>hg g (hlt g bR) hn
 have nc: ∀ g,(g∈(blk q.aN ++ q.L8.filterMap aR.bt ++ blk q.bc ++ blk q.ay ++ blk q.ax ++ blk q.am ++ q.ae.filterMap aC.bt)∨g∈q.ai.filterMap aU.bt∨g∈ [])→g∉blk q.aK:=fun g bR hA=>by
  obtain ⟨-,h2,h3⟩:=Kf.1 hnd;obtain ⟨-,-,h4⟩:=Kf.1 h2;rcases bR with bR | bR | bR
  ·exact h3 g bR g (Lz _ hA) rfl
  ·exact h4 g hA g (Lz _ bR) rfl
  ·exact h4 g hA g (Ly _ bR) rfl
 have hmem: ∀ g,(g∈(blk q.aN ++ q.L8.filterMap aR.bt ++ blk q.bc ++ blk q.ay ++ blk q.ax ++ blk q.am ++ q.ae.filterMap aC.bt)∨g∈q.ai.filterMap aU.bt∨g∈ [])→g∈q.Mc:=fun g bR=>by
  rw [hbs];simp only [Kg];simp only [Kg] at bR;rcases bR with bR | bR | bR
  ·exact .inl bR
  ·exact .inr (.inr (.inl bR))
  ·exact .inr (.inr (.inr bR))
 have hs: ∀ g,(g∈(blk q.aN ++ q.L8.filterMap aR.bt ++ blk q.bc ++ blk q.ay ++ blk q.ax ++ blk q.am ++ q.ae.filterMap aC.bt)∨g∈q.ai.filterMap aU.bt∨g∈ [])→w'.heap[g]? =w.heap[g]? :=fun g bR=>uW g (hmem g bR) (nc g bR)
 have hxs: ∀ g,aU.bt x=some g→w'.heap[g]? =w.heap[g]? :=fun g hk=>hg g (hm.lt hk).2 fun hA=>hx g hk (by rw [hbs]; simp only [Kg]; exact .inr (.inl hA))
 refine ⟨⟨aL h.L8 fun g bR=>hs g (.inl (by simp [bR])),aL h.aj fun g bR=>hs g (.inl (by simp [bR])),aL h.L9 fun g bR=>hs g (.inl (by simp [bR])),aL h.ag fun g bR=>hs g (.inl (by simp [bR])),aL h.ae fun g bR=>hs g (.inl (by simp [bR])),(by simpa using ho),fun y hy=>(h.eI y hy).same fun g hk=>hs g (.inl (by simp only [Kg,Lq]; simp [dd hy hk])),fun y hy=>(h.eE y hy).same fun g hk=>hs g (.inl (by simp only [Kg,Lq]; simp [dd hy hk])),fun y hy=>by
  rcases Kg.1 hy with hy | hy
  ·exact (h.eR y hy).same fun g hk=>hs g (.inr (.inl (Lq.2 ⟨y,hy,hk⟩)))
  ·simp only [Kt,Ku,or_false] at hy
   subst hy;exact hm.same hxs,?_⟩,?_⟩
 ·rw [rN]
  refine qC hnd (fN a) (qj _ x) (fun g iE=> ?_) (fun g EI=> ?_)
  ·have key: ∀ g',(g'∈(blk q.aN ++ q.L8.filterMap aR.bt ++ blk q.bc ++ blk q.ay ++ blk q.ax ++ blk q.am ++ q.ae.filterMap aC.bt)∨g'∈q.ai.filterMap aU.bt∨g'∈ [])→g'≠g:=fun g' hg' e=>by
    rcases hb g iE with h1 | h1
    ·exact nc g' hg' (e ▸ h1)
    ·have:=hlt g' (hmem g' hg')
     omega
   refine ⟨fun hz=>key g (.inl hz) rfl,fun hz=>key g (.inr (.inl hz)) rfl,fun hz=> ?_,fun hz=>key g (.inr (.inr hz)) rfl⟩;rw [j5] at hz;rcases hb g iE with h1 | h1
   ·exact hx g hz (by rw [hbs]; simp only [Kg]; exact .inr (.inl h1))
   ·have:=(hm.lt hz).2
    omega
  ·rw [j5] at EI
   have hn:=hx g EI;exact ⟨fun hz=>hn (hmem g (.inl hz)),fun hz=>hn (hmem g (.inr (.inl hz))),fun hz=>hn (hmem g (.inr (.inr hz)))⟩
 ·intro g bR
  rw [rN] at bR;rw [hbs];simp only [Kg] at bR ⊢;rcases bR with bR | bR | (bR | bR) | bR
  ·exact .inl (.inl bR)
  ·rcases hb g bR with h1 | h1
   ·exact .inl (.inr (.inl h1))
   ·exact .inr (.inr h1)
  ·exact .inl (.inr (.inr (.inl bR)))
  ·exact .inr (.inl (j5.1 bR))
  ·exact .inl (.inr (.inr (.inr bR)))
end
section
open Go.RowKit Go.Maps
attribute [local go_sem ↓] Go.wp_at_zero Go.wp_at_succ
theorem Shelf.frm {α:Type} {vs:α→Array Value} {num:α→Int} {T:TypeId} {w w':World} {base b:Nat} {l:List (α × Nat)} (h:Shelf vs num T w base b l) (hs: ∀ g,base≤g→g < w.heap.size→w'.heap[g]? =w.heap[g]?):Shelf vs num T w' base b l:=h.same fun g hg=>hs g (h.low g hg) (h.lt g hg)
theorem cJ.same {w w':World} {base o:Nat} {S:aZ} (h:cJ w base o S) (hs: ∀ g,base≤g→g < w.heap.size→w'.heap[g]? =w.heap[g]?):cJ w' base o S:=
 ⟨(hs o h.low (J2.1 h.opn).1).trans h.opn,h.L8.frm hs,h.aj.frm hs,h.L9.frm hs,h.ag.frm hs,h.ae.frm hs,h.ai.frm hs,fun p hp=>(h.eI p hp).same fun g hg=>hs g ((h.eI p hp).lt hg).1 ((h.eI p hp).lt hg).2,fun p hp=>(h.eE p hp).same fun g hg=>hs g ((h.eE p hp).lt hg).1 ((h.eE p hp).lt hg).2,fun p hp=>(h.eR p hp).same fun g hg=>hs g ((h.eR p hp).lt hg).1 ((h.eR p hp).lt hg).2,h.nodup,h.low⟩
def aZ.all (S:aZ) (o:Nat):List Nat:=o :: (S.boxes ++ S.kids)
theorem cJ.xy {w:World} {base o:Nat} {S:aZ} (h:cJ w base o S): ∀ g∈S.all o,base≤g∧g < w.heap.size:=fun g hg=>by
 rcases Kt.1 hg with rfl | hg
 ·exact ⟨h.low,(J2.1 h.opn).1⟩
 rcases Kg.1 hg with hg | hg
 ·unfold aZ.boxes at hg
  simp only [Kg] at hg;rcases hg with hg | hg | hg | hg | hg | hg
  ·exact ⟨h.L8.low g hg,h.L8.lt g hg⟩
  ·exact ⟨h.aj.low g hg,h.aj.lt g hg⟩
  ·exact ⟨h.L9.low g hg,h.L9.lt g hg⟩
  ·exact ⟨h.ag.low g hg,h.ag.lt g hg⟩
  ·exact ⟨h.ae.low g hg,h.ae.lt g hg⟩
  ·exact ⟨h.ai.low g hg,h.ai.lt g hg⟩
 ·simp only [aZ.kids,Kg,kids,Lq] at hg
  rcases hg with ⟨q,hq,hk⟩ | ⟨q,hq,hk⟩ | ⟨q,hq,hk⟩
  ·exact (h.eI q hq).lt hk
  ·exact (h.eE q hq).lt hk
  ·exact (h.eR q hq).lt hk
theorem abb {S:aZ} {o g:Nat} (hg:g∈S.lq.map (·.2)):g∈S.all o:=by
 unfold aZ.all aZ.boxes;simp only [Kt,Kg];exact .inr (.inl (.inr (.inr (.inr (.inr (.inr (.inr hg)))))))
structure B2 (w0 w:World) (K b:Nat) (l:List (aZ × Nat)) (W:World):Prop where
 low:Below w0.heap.size w0 W
 TN:W.heap[K]? =w.heap[K]?
 map:cF W b (l.map fun p=>(p.1.q.id,p.2))
 part: ∀ p∈l,∃ base,b < base∧K < base∧cJ W base p.2 p.1
 nodup:(l.flatMap fun p=>p.1.lq.map (·.2)).Nodup
 apart:l.Pairwise fun p q=> ∀ g∈p.1.all p.2,∀ g'∈q.1.all q.2,g < g'
theorem B2.below {w0 w W W2:World} {K b:Nat} {l:List (aZ × Nat)} (h:B2 w0 w K b l W) (hK:K < W.heap.size) (hb:Below W.heap.size W W2):B2 w0 w K b l W2:=
 ⟨h.low.trans (hb.mono h.low.size),(hb.block K hK).trans h.TN,h.map.below hb,fun p hp=>(h.part p hp).imp fun _ hp=>⟨hp.1,hp.2.1,hp.2.2.same fun g _ hg=>hb.block g hg⟩,h.nodup,h.apart⟩
theorem kf {w w':World} {b g:Nat} (h:w.mapTurned w' b) (hg:g≠b):w'.heap[g]? =w.heap[g]? :=by
 obtain ⟨es,c,es',c',-,rfl⟩:=h;simp [ChangeMaps.setBlock,Ne.symm hg]
theorem T5 {w w':World} {b:Nat} (h:w.mapTurned w' b):w'.heap.size=w.heap.size:=by
 obtain ⟨es,c,es',c',-,rfl⟩:=h;simp [ChangeMaps.setBlock]
theorem TG {w0 w w':World} {b:Nat} (h:w.mapTurned w' b) (hb:w0.heap.size≤b) (hl:Below w0.heap.size w0 w):Below w0.heap.size w0 w':=by
 have h2:=fun g (hg:g≠b)=>kf (g:=g) h hg
 obtain ⟨es,c,es',c',-,rfl⟩:=h;exact ⟨hl.os,hl.tape,hl.output,by simpa [ChangeMaps.setBlock] using hl.size,fun g hg=>(h2 g (by omega)).trans (hl.block g hg)⟩
theorem B2.more {w0 w W1 W2:World} {K b base o:Nat} {l:List (aZ × Nat)} {S:aZ} (h:B2 w0 w K b l W1) (hb0:w0.heap.size≤b) (hKb:K≠b) (ho:cJ W1 base o S) (hbase:b < base) (hKbase:K < base) (aa5: ∀ p∈l,∀ g∈p.1.all p.2,g < base) (hlast: ∀ p∈l,p.1.q.id < S.q.id)
  (hm:cF W2 b (oK (S.q.id,o) (l.map fun p=>(p.1.q.id,p.2)))) (ht:W1.mapTurned W2 b):B2 w0 w K b (l ++ [(S,o)]) W2:=by
 refine ⟨TG ht hb0 h.low,(kf ht hKb).trans h.TN,?_,fun p hp=> ?_,?_,?_⟩
 ·rw [Uz (fun q hq=>by obtain ⟨p,hp,rfl⟩:=Lr.1 hq; exact hlast p hp)] at hm
  simpa using hm
 ·rcases Kg.1 hp with hp | hp
  ·obtain ⟨bs,h1,h3,h2⟩:=h.part p hp
   exact ⟨bs,h1,h3,h2.same fun g hg _=>kf ht (by omega)⟩
  ·rw [KB.1 hp]
   exact ⟨base,hbase,hKbase,ho.same fun g hg _=>kf ht (by omega)⟩
 ·rw [List.flatMap_append,Kf]
  refine ⟨h.nodup,by simpa using (List.nodup_cons.1 ho.ai.nodup).2,fun g hg g' hg' e=> ?_⟩;obtain ⟨p,hp,hg⟩:=Rt.1 hg;have h1:=aa5 p hp g (abb hg);have h2:=ho.ai.low g' (List.mem_cons_of_mem _ (by simpa using hg'));omega
 ·refine List.pairwise_append.2 ⟨h.apart,List.pairwise_singleton _ _,fun p hp q hq g hg g' hg'=> ?_⟩
  rw [KB.1 hq] at hg';have h1:=aa5 p hp g hg;have h2:=(ho.xy g' hg').1;omega
theorem kwf_in {z:Int} (h:cv z 1 1000=true):(Lit.int .i64 z).wf=true:=by
 have h2:=bz.1 h;have e1:IntKind.min .i64≤0:=by decide
 have e2:100000≤IntKind.max .i64:=by decide
 simp only [Lit.wf,J7,decide_eq_true_eq];omega
theorem D2 {α:Type} {num:α→Int} {ok:α→Bool} : ∀ {l:List α} {last:Int},aw num ok last l=true→(∀ x∈l,last < num x)∧l.Pairwise (fun x y=>num x < num y)
 | [],_,_=>⟨(fun x hx=>by cases hx),List.Pairwise.nil⟩
 | x :: r,last,h=>by
  simp only [aw,J7,decide_eq_true_eq] at h;obtain ⟨h1,h2⟩:=D2 h.2;refine ⟨fun y hy=> ?_,List.Pairwise.cons (fun y hy=>h1 y hy) h2⟩;rcases Kt.1 hy with rfl | hy
  ·exact h.1.1.2
  ·have:=h1 y hy; have:=h.1.1.2; omega
def Vk (w0 w:World) (K b:Nat) (ps:List af) (e:Ending) (W:World):Prop:=Below w0.heap.size w0 W∧((aw (·.id) bK 0 (ps.map (·.pure))=false∧e= .returned (.bool false))∨(aw (·.id) bK 0 (ps.map (·.pure))=true∧e= .returned (.bool true)∧ ∃ l,l.map (·.1.pure)=ps.map (·.pure)∧B2 w0 w K b l W))
theorem Tr (w0 w:World) (K b:Nat) (a:Option Addr) (ps:List af) (cap:Nat) (hw:Below w0.heap.size w0 w) (hb0:w0.heap.size≤b) (hK:K < w.heap.size) (hKb:K≠b) (hc:w.cell? ⟨K,63,none⟩=some (.map (some b))) (hm:cF w b []) (hl:ps.length≤1048576) (hk:kp.bU w0 a ps) (hg: ∀ p∈ps,p.Good w0):
  Calls J3 100 #[.pointer (some ⟨K,0,none⟩),.slice a ps.length cap] w fun e w'=>Vk w0 w K b ps e w':=by
 have S:Hid (B2 w0 w K b [] w):=⟨hw,rfl,hm,(by simp),(by simp),List.Pairwise.nil⟩
 have HC:=aA (And.intro hc (And.intro hK (And.intro hKb hb0)));have HG:=aA (And.intro hk hg);clear hw hm hc hk hg hK hKb hb0
 go_enter Tryz.func100,Tryz.ntmps100
 go_wp2_with fail
 go_loopw [5,12] (fun q i wr=> ∃ (n:Nat) (l:List (aZ × Nat)),n≤ps.length∧i= .int .i64 n∧q= .int .i64 (bW (fun x:aE=>x.id) 0 ((ps.map (·.pure)).take n))∧Hid (B2 w0 w K b l wr∧w.heap.size≤wr.heap.size∧l.map (·.1.pure)=(ps.map (·.pure)).take n∧aw (·.id) bK 0 ((ps.map (·.pure)).take n)=true)) (fun _ i _=>ps.length - (Go.RowKit.intOf i).toNat)
 case atStart=>exact ⟨0,[],Ky _,rfl,rfl,S.I,Ki _,rfl,rfl⟩
 case round=>
  clear S;obtain ⟨n,l,hn,rfl,rfl,S⟩:=hrel;by_cases hlt:n < ps.length
  ·have i0:(0:Int)≤(n:Int):=by omega
   have i1:(n:Int) < (ps.length:Int):=by omega
   obtain ⟨p,hp⟩: ∃ p,ps[n]? =some p:=⟨_,List.getElem?_eq_getElem hlt⟩
   have HP:Hid ((ps.map (·.pure))[n]? =some p.pure):=by show (ps.map (·.pure))[n]? =_; rw [List.getElem?_map,hp]; rfl
   have hmem:=List.mem_of_getElem? hp;obtain ⟨gs,rfl,⟨c0,c1,c2,c3,c4,c5,c6,c7⟩,-⟩:=ic (HG.I.1.below S.I.1.low) hp;go_upto_region 5 with fail;have hz:Below wr.heap.size wr (wr.alloc (.cells p.row 48)):=(Kp _ _).alloc (Ki _) _;have HSZ:=aA S.I.2.1;have HL:=aA S.I.2.2;replace S:=aA (S.I.1.below (by have:=HC.I.2.1; have:=HSZ.I; omega) hz);have Uc:Hid ((wr.alloc (.cells p.row 48)).heap[wr.heap.size]? =some (.cells p.row 48 (0,0))∧w.heap.size≤(wr.alloc (.cells p.row 48)).heap.size):=⟨heap_alloc_new _ _,by have:=hz.size; have:=HSZ.I; omega⟩
   have Mb:=iO p (wr.alloc (.cells p.row 48)) ((HG.I.2 p hmem).below S.I.low);unfold af.cells at Mb;clear c0 c1 c2 c3 c4 c5 c6 c7 hz HSZ hmem hp;generalize wr.alloc (.cells p.row 48)=W at *;have c0:W.cell? ⟨wr.heap.size,0,none⟩=some (.int .i64 p.id):=by simp [World.cell?,Uc.I.1]
   have c1:W.cell? ⟨wr.heap.size,1,none⟩=some (.int .i64 p.next):=by simp [World.cell?,Uc.I.1]
   have c2:W.cell? ⟨wr.heap.size,2,none⟩=some (.slice p.aN p.L8.length p.aW):=by simp [World.cell?,Uc.I.1]
   have c3:W.cell? ⟨wr.heap.size,3,none⟩=some (.slice p.bc p.aj.length p.bF):=by simp [World.cell?,Uc.I.1]
   have c4:W.cell? ⟨wr.heap.size,4,none⟩=some (.slice p.ay p.L9.length p.aO):=by simp [World.cell?,Uc.I.1]
   have c5:W.cell? ⟨wr.heap.size,5,none⟩=some (.slice p.ax p.ag.length p.aP):=by simp [World.cell?,Uc.I.1]
   have c6:W.cell? ⟨wr.heap.size,6,none⟩=some (.slice p.am p.ae.length p.aG):=by simp [World.cell?,Uc.I.1]
   have c7:W.cell? ⟨wr.heap.size,7,none⟩=some (.slice p.aK p.ai.length p.aV):=by simp [World.cell?,Uc.I.1]
   go_wp2_with fail;clear c0 c1 c2 c3 c4 c5 c6 c7;refine Mb.mono ?_;clear Mb;rintro e W1 ⟨hb1,⟨hr,rfl⟩ | ⟨hr,o,T,rfl,ho,hp⟩⟩
   ·have HN:Hid (aw (·.id) bK 0 (ps.map (·.pure))=false):=bS HP.I fun hh=>hr ((ch _).1 hh.2.2)
    have HE:=aA (S.I.low.trans (hb1.mono S.I.low.size));clear hb1 hr;go_wp2;go_ret;exact ⟨HE.I,.inl ⟨HN.I,rfl⟩⟩
   have HF:Hid (∀ q∈l,∀ g∈q.1.all q.2,g < W.heap.size):=fun q hq g hg=>by
    obtain ⟨bs,-,-,h2⟩:=S.I.part q hq;exact (h2.xy g hg).2
   have hmb:b < W.heap.size:=S.I.map.lt;replace S:=aA (S.I.below (by have:=HC.I.2.1; have:=Uc.I.2; omega) hb1);have hid:T.q.id=p.id:=congrArg aE.id hp;have d0:W1.cell? ⟨o,0,none⟩=some (.int .i64 p.id):=by have h:=ho.opn.cell 0; rw [h]; show some (Value.int IntKind.i64 T.q.id)=_; rw [hid]
   have HO:Hid (cJ W1 W.heap.size o T∧T.pure=p.pure∧b < W.heap.size∧w.heap.size≤W1.heap.size∧aQ p.pure):=⟨ho,hp,hmb,by have:=hb1.size; have:=Uc.I.2; omega,hr⟩
   have HKW:Hid (K < W.heap.size):=by show K < _; have:=HC.I.2.1; have:=Uc.I.2; omega
   have HID:=aA hid;clear ho hp hmb hb1 hid hr Uc;by_cases hle:p.id≤bW (fun x:aE=>x.id) 0 ((ps.map (·.pure)).take n)
   ·have HN:Hid (aw (·.id) bK 0 (ps.map (·.pure))=false):=bS HP.I fun hh=>by have h2:=hh.2.1; have h3:bW (fun x:aE=>x.id) 0 ((ps.map (·.pure)).take n) < p.id:=h2; omega
    go_wp2;go_ret;exact ⟨S.I.low,.inl ⟨HN.I,rfl⟩⟩
   have HI:Hid (cv p.pure.id 1 1000=true):=by have h1:=HO.I.2.2.2.2.id; rw [bz] at h1; exact eB (by omega) (by omega)
   have HWF:Hid ((Lit.int .i64 p.id).wf=true):=kwf_in HI.I;have HT:Hid (aw (·.id) bK 0 ((ps.map (·.pure)).take (n+1))=true):=ed HL.I.2 HP.I HI.I (by show _ < p.id; omega) ((ch _).2 HO.I.2.2.2.2);have j6:Hid (∀ q∈l,q.1.q.id < p.id):=fun q hq=>by
    have h1:=(D2 HT.I).2;rw [cj HP.I,List.pairwise_append] at h1;exact h1.2.2 q.1.pure (by rw [← HL.I.1]; exact Lr.2 ⟨q,hq,rfl⟩) p.pure (by simp)
   obtain ⟨W2,hrun,hm2,ht2⟩:=(S.I.map.below (Kp _ _).drew).put Tryz.underlying104 HWF.I o (by
    rw [Tf]
    have:l.find? (fun q=>q.1.q.id == p.id)=none:=List.find?_eq_none.2 fun q hq=>by have:=j6.I q hq; simp; omega
    rw [this];rfl) (by have h5:=congrArg List.length HL.I.1; simp at h5 ⊢; omega)
   have HW:Hid (cF W2 b (oK (p.id,o) (l.map fun p=>(p.1.q.id,p.2)))∧W1.drew.mapTurned W2 b):=⟨hm2,ht2⟩
   have hob:o≠b:=by have h1:=HO.I.1.low; have h2:=HO.I.2.2.1; omega
   have d1:W2.cell? ⟨o,0,none⟩=some (.int .i64 p.id):=(J1 (w:=W1.drew) (a:=⟨o,0,none⟩) (kf ht2 hob)).trans d0;have HD:=aA d1;clear hm2 ht2 hob d1;have VH:=aA d0;have hleB:decide (p.id≤bW (fun x:aE=>x.id) 0 ((ps.map (·.pure)).take n))=false:=decide_eq_false hle;clear hle;go_upto_region 8 with fail;clear d0 hleB;replace S:=aA (S.I.below (by have:=HC.I.2.1; have:=HO.I.2.2.2.1; omega) (Kp _ _).drew);refine wp_region_held_drew (S:=fun W=>W.heap[K]? =w.heap[K]? ∧W.cell? ⟨o,0,none⟩=some (.int .i64 p.id)) (by kernel_rfl) ⟨S.I.TN,VH.I⟩ (fun _=> ?_);have mH:Hid (W1.drew.heap[K]? =w.heap[K]? ∧W1.drew.cell? ⟨o,0,none⟩=some (.int .i64 p.id)):=⟨S.I.TN,VH.I⟩
   have HCK:Hid (∀ W:World,W.heap[K]? =w.heap[K]? →W.cell? ⟨K,63,none⟩=some (.map (some b))):=fun W h=>(J1 (w:=w) (a:=⟨K,63,none⟩) h).trans HC.I.1
   refine tt 0 mH.I ?_;refine tt 1 mH.I ?_;refine tt 2 mH.I ?_;refine tt 3 mH.I ?_ (hy:=fun w0 hS0=>by have e1:=HCK.I w0 hS0.1; go_simp; try with_reducible rfl);refine tt 4 mH.I ?_;refine tt 5 mH.I ?_;refine tt 6 mH.I ?_;refine tt 7 mH.I ?_ (hy:=fun w0 hS0=>by have e1:=hS0.2; go_simp; try with_reducible rfl);refine tt 8 mH.I ?_;refine L7 9 (fun Q hQ=> ?_);have VG:=hrun;unfold dt at VG;clear hrun;go_wp2_with fail;have zz:Hid (W2.heap[K]? =w.heap[K]? ∧W2.cell? ⟨o,0,none⟩=some (.int .i64 p.id)):=⟨(kf HW.I.2 HC.I.2.2.1).trans S.I.TN,HD.I⟩
   refine hQ.out _ _ zz.I (fun _=> ?_);clear hQ Q VG;refine wpAnyH_done (by kernel_rfl) ?_ _;have d0:=HD.I;go_wp2;go_roundw
   case rel=>
    refine ⟨n+1,l ++ [(T,o)],by omega,by go_num,by rw [eG HP.I]; rfl,?_,?_,?_,HT.I⟩
    ·exact S.I.more HC.I.2.2.2 HC.I.2.2.1 (HO.I.1.same fun g _ _=>rfl) HO.I.2.2.1 HKW.I HF.I (fun q hq=>by rw [HID.I]; exact j6.I q hq) (by rw [HID.I]; exact HW.I.1) HW.I.2
    ·rw [T5 HW.I.2]; exact HO.I.2.2.2.1
    ·rw [cj HP.I,List.map_append,HL.I.1]; simp [HO.I.2.1]
   case measure=>simp [Go.RowKit.intOf]; omega
  ·have i1: ¬ (n:Int) < (ps.length:Int):=by omega
   go_wp2;go_ret;have h:=S.I.2.2;rw [List.take_of_length_le (by simp; omega)] at h;exact ⟨S.I.1.low,.inr ⟨h.2,rfl,l,h.1,S.I.1⟩⟩
end
section
open Go.RowKit
def Zp (E:TypeId) (B:Nat) (W W':World):Prop:=W.heap.size≤W'.heap.size∧ ∀ b,B≤b→b < W.heap.size→(∀ c fr,W.heap[b]? ≠some (.cells c E fr))→W'.heap[b]? =W.heap[b]?
def Zu (E:TypeId) (B:Nat) (W W':World):Prop:=W.heap.size≤W'.heap.size∧ ∀ b c t fr,t≠E→B≤b→W.heap[b]? =some (.cells c t fr)→W'.heap[b]? =some (.cells c t fr)
theorem Zp.refl (E:TypeId) (B:Nat) (W:World):Zp E B W W:=⟨Ki _,fun _ _ _ _=>rfl⟩
theorem Zp.trans {E:TypeId} {B:Nat} {X Y Z:World} (h:Zp E B X Y) (k:Zp E B Y Z):Zp E B X Z:=
 ⟨LG h.1 k.1,fun b hb hl hn=>(k.2 b hb (Nat.lt_of_lt_of_le hl h.1) (by rw [h.2 b hb hl hn]; exact hn)).trans (h.2 b hb hl hn)⟩
theorem Zp.of {E:TypeId} {B:Nat} {X Y:World} (h:Kept B X Y):Zp E B X Y:=⟨h.1,fun b hb hl _=>h.2 b hb hl⟩
theorem Zp.cells {E:TypeId} {B:Nat} {W W':World} (h:Zp E B W W'):Zu E B W W':=
 ⟨h.1,fun b c t fr ht hb hc=>(h.2 b hb (J2.1 hc).1 (fun c2 fr2 e=>by rw [hc] at e; cases e; exact ht rfl)).trans hc⟩
theorem Zu.trans {E:TypeId} {B:Nat} {X Y Z:World} (h:Zu E B X Y) (k:Zu E B Y Z):Zu E B X Z:=
 ⟨LG h.1 k.1,fun b c t fr ht hb hc=>k.2 b c t fr ht hb (h.2 b c t fr ht hb hc)⟩
theorem Zy {E:TypeId} {B:Nat} {W:World} {l:Nat} {r:Loop} (h:W.heap[l]? =some (.loop r)) (o:Obj):Zu E B W (W.putObj l o):=
 ⟨by simp,fun b c t fr _ _ hc=>(World.putObj_heap_other (fun e=>by subst e; rw [h] at hc; cases hc)).trans hc⟩
def abB (E:TypeId) (P:Program) (Xi:Nat) (fa:Array Value) (encs:Nat→Array Value) (N B:Nat):Prop:=
 ∀ (l:Nat) (M:Nat→World→Prop) (YP:World→Prop) (W:World),B≤W.heap.size→(∀ k X o,M k X→M k (X.alloc o))→
  (∀ k X,k < N→M k X→YieldAt Fence.wide 4 P l (encs k) X fun e X'=>(e= .returned (.bool true)∧M (k+1) X'∧Zu E B X X')∨(e= .returned (.bool false)∧YP X'))→
  M 0 W→CallsIn Fence.wide 5 P Xi (fa ++ #[.func (.yield l) #[] #[]]) W fun e X'=>(∃ v,e= .returned v)∧(M N X'∨YP X')
def Z7 (E:TypeId) (B:Nat) (J:Nat→World→Prop) (Jx:World→Prop) (k:Nat) (W:World):Exit→Act→World→Prop
 | .normal,_,W'=>Zp E B W W'∧J (k+1) W'
 | .ret,_,W'=>Zp E B W W'∧Jx W'
 | _,_,_=>False
theorem aae {E:TypeId} {P:Program} {g:Operand} {ps:Array Tmp} {assign body:Code} {Q:Exit→Act→World→Prop} {a:Act} {w:World} {Xi:Nat} {fa:Array Value}
  (hg:a.eval g= .func (.func Xi) fa #[]) (eg: ∀ args w,(callFunc Xi args).run P w= .ok (.enter Xi args) w) {encs:Nat→Array Value} {N:Nat} (hit:abB E P Xi fa encs N w.heap.size) (hps: ∀ k,(encs k).size=ps.size)
  (J:Nat→World→Prop) (Jx:World→Prop) (hJa: ∀ k X o,J k X→J k (X.alloc o)) (hJp: ∀ k X l r o,w.heap.size≤l→X.heap[l]? =some (.loop r)→J k X→J k (X.putObj l o)) (hJx: ∀ X l r o,w.heap.size≤l→X.heap[l]? =some (.loop r)→Jx X→Jx (X.putObj l o)) (h0:J 0 w)
  (YJ:Nat→Act→World→Prop) (hAx: ∀ k a X l r o,X.heap[l]? =some (.loop r)→YJ k a X→YJ k a (X.putObj l o))
  (hassign: ∀ (l k:Nat) (W:World) (K:Act→World→Prop),k < N→J k W→w.heap.size≤W.heap.size→(∀ a' W',Zp E w.heap.size W W'→J k W'→YJ k a' W'→K a' W')→
   assign.wpIn (Fence.wide.inRound l) 4 P (Exit.then K (fun _ _ _=>False)) { tmps:=(ps.zip (encs k)).foldl (fun t (p,v)=>t.setIfInBounds p v) a.tmps,defers:= [] } W)
  (hbody: ∀ (l k:Nat) (a':Act) (W:World),k < N→J k W→YJ k a' W→w.heap.size≤W.heap.size→body.wpIn (Fence.wide.inRound l) 4 P (Z7 E w.heap.size J Jx k W) a' W)
  (hdone: ∀ W,J N W→W.heap[w.heap.size]? =some (.deferred (some []))→Q .normal { a with defers:= { target:= .collected w.heap.size,args:= #[] } :: a.defers } W)
  (hstop: ∀ W,Jx W→W.heap[w.heap.size]? =some (.deferred (some []))→Q .ret { a with defers:= { target:= .collected w.heap.size,args:= #[] } :: a.defers } W):
  (Code.rangeFunc g ps assign body).wpIn Fence.wide 6 P Q a w:=by
 refine wpIn_rangeFunc fun fn _=> ?_
 -- the record of the loop, in each of its states
 let Zn:LoopState→Option Code→Loop:=fun st pe=>Loop.mk st pe fn a.tmps ps assign body w.heap.size
 let B:=w.heap.size
 let W1:=(w.alloc (.deferred (some []))).alloc (.loop (Zn .ready none))
 have s1:W1.heap.size=B+1+1:=by simp [W1,B]
 have hl1:W1.heap[B+1]? =some (.loop (Zn .ready none)):=by
  have:=World.alloc_heap_new (w.alloc (.deferred (some []))) (.loop (Zn .ready none))
  rwa [World.size_alloc] at this
 have hd1:W1.heap[B]? =some (.deferred (some [])):=(Below.heap_alloc _ _ _ (by simp [B])).trans (World.alloc_heap_new w _);have b1:Below B w W1:=((Kp _ _).alloc (Ki _) _).alloc (by simp) _;refine ⟨B+1,[{ target:= .collected B,args:= #[] }],W1,{ target:= .fn (.func Xi) #[],args:=fa ++ #[.func (.yield (B+1)) #[] #[]] },W1,Xi,fa ++ #[.func (.yield (B+1)) #[] #[]],W1,
  run_enterLoop_outer _ _ _ _ _,?_,fun _ _=>trivial,?_,fun h=>by simp [Fence.wide] at h,?_⟩
 ·simp only [resolve,hg]
  simp [go_sem]
 ·simp [invoke,go_sem,eg]
 let M:Nat→World→Prop:=fun k X=>J k X∧X.heap[B+1]? =some (.loop (Zn .ready none))∧X.heap[B]? =some (.deferred (some []))
 let YP:World→Prop:=fun X=>Jx X∧X.heap[B+1]? =some (.loop (Zn .done (some .ret)))∧X.heap[B]? =some (.deferred (some []))
 refine (hit (B+1) M YP W1 (by omega) ?_ ?_ ⟨hJa 0 _ _ (hJa 0 _ _ h0),hl1,hd1⟩).mono ?_
 ·rintro k X o ⟨hj,hl,hd⟩
  have z:=(J2.1 hl).1;exact ⟨hJa k _ o hj,(Below.heap_alloc X o _ z).trans hl,(Below.heap_alloc X o _ (by omega)).trans hd⟩
 ·rintro k X hk ⟨hj,hl,hd⟩
  have z:=(J2.1 hl).1;refine ⟨fn,_,assign,body,run_yield (r:=Zn .ready none) hl (hps k),roundIn_of_wpIn trivial (hassign (B+1) k X _ hk hj (by omega) ?_)⟩;intro a' Y Ze YX YF;have YB:Y.heap[B+1]? =some (.loop (Zn .ready none)):=(Ze.2 _ (by omega) z (fun c fr h=>by rw [hl] at h; cases h)).trans hl;have YQ:Y.heap[B]? =some (.deferred (some [])):=(Ze.2 _ (Ki _) (by omega) (fun c fr h=>by rw [hd] at h; cases h)).trans hd;have YZ:=(J2.1 YB).1;refine ⟨_,run_beginRound YB rfl,?_⟩;have YT:(Y.putObj (B+1) (.loop (Zn .busy none))).heap[B+1]? =some (.loop (Zn .busy none)):=World.putObj_heap_same YZ;have Za:(Y.putObj (B+1) (.loop (Zn .busy none))).heap[B]? =some (.deferred (some [])):=(World.putObj_heap_other (by omega)).trans YQ;refine wpIn_mono (hbody (B+1) k a' _ hk (hJp k _ _ _ _ (by omega) YB YX) (hAx k a' Y _ _ _ YB YF) (by simp only [World.putObj_size]; omega)) ?_;rintro e a3 V hp;have fin:Zp E B (Y.putObj (B+1) (.loop (Zn .busy none))) V→V.heap[B+1]? =some (.loop (Zn .busy none))∧V.heap[B]? =some (.deferred (some [])):=fun YD=>
   ⟨(YD.2 _ (by omega) (by simp only [World.putObj_size]; exact YZ) (fun c fr h=>by rw [YT] at h; cases h)).trans YT,(YD.2 _ (Ki _) (by simp only [World.putObj_size]; omega) (fun c fr h=>by rw [Za] at h; cases h)).trans Za⟩
  cases e with
  | normal=>
   obtain ⟨YD,Y2⟩:=hp;obtain ⟨l3,d3⟩:=fin YD;have z3:=(J2.1 l3).1;exact ⟨_,_,run_endRound none l3,.inl ⟨rfl,⟨hJp _ _ _ _ _ (by omega) l3 Y2,World.putObj_heap_same z3,(World.putObj_heap_other (by omega)).trans d3⟩,
    (Ze.cells.trans (Zy YB _)).trans (YD.cells.trans (Zy l3 _))⟩⟩
  | ret=>
   obtain ⟨YD,Y2⟩:=hp;obtain ⟨l3,d3⟩:=fin YD;have z3:=(J2.1 l3).1;exact ⟨_,_,run_endRound (some .ret) l3,.inr ⟨rfl,⟨hJx _ _ _ _ (by omega) l3 Y2,World.putObj_heap_same z3,(World.putObj_heap_other (by omega)).trans d3⟩⟩⟩
  | exit _=>exact hp.elim
  | goto _=>exact hp.elim
  | panic _=>exact hp.elim
  | outgrown=>exact hp.elim
 ·rintro e X ⟨⟨v,rfl⟩,⟨hj,hl,hd⟩ | ⟨hj,hl,hd⟩⟩
  ·have z:=(J2.1 hl).1
   exact ⟨none,_,run_endLoop hl (by simp [Zn]),hdone _ (hJp _ _ _ _ _ (by omega) hl hj) ((World.putObj_heap_other (by omega)).trans hd)⟩
  ·have z:=(J2.1 hl).1
   exact ⟨some .ret,_,run_endLoop hl (by simp [Zn]),wpIn_ret (hstop _ (hJx _ _ _ _ (by omega) hl hj) ((World.putObj_heap_other (by omega)).trans hd))⟩
theorem yS:(Tryz.prog.info? 184).map (fun i=>(i.zero,i.size,i.bytes))=some (some (.agg #[.int .i64 0,.int .i64 0,.int .i64 0]),3,24):=by kernel_rfl
theorem so:(Tryz.prog.info? 187).map (fun i=>(i.zero,i.size,i.bytes))=some (some (.agg #[.int .i64 0,.bool false]),2,16):=by kernel_rfl
theorem sj:(Tryz.prog.info? 190).map (fun i=>(i.zero,i.size,i.bytes))=some (some (.agg #[.int .i64 0,.bool false,.string ⟨#[]⟩]),3,32):=by kernel_rfl
theorem kh:(Tryz.prog.info? 160).map (fun i=>(i.zero,i.size,i.bytes))=some (some (.agg #[.int .i64 0,.int .i64 0,.slice none 0 0]),3,40):=by kernel_rfl
theorem na:(Tryz.prog.info? 85).map (fun i=>(i.zero,i.size,i.bytes))=some (some (.agg #[.int .i64 0,.bool false,.bool false,.int .i64 0,.slice none 0 0]),5,48):=by kernel_rfl
theorem nb:(Tryz.prog.info? 148).map (fun i=>(i.zero,i.size,i.bytes))=some (some (.agg cE),12,128):=by kernel_rfl
theorem i6 {w:World} {base g:Nat} {e:TypeId} {size:Nat} (hg:w.heap[g]? =some (.cells #[] e (0,0))) (hb:base≤g):w.ownsRow base e size (.slice (some ⟨g,0,none⟩) 0 0) 0 [] :=
 ⟨by simp,.inr ⟨g,0,#[],rfl,hb,hg,Ki _,Ky _,by simp,by simp⟩⟩
theorem kK {P:Program} (w:World) (base:Nat) (t ty e:TypeId) (i:TypeInfo) (z:Value) (size bytes:Nat) (ht:P.underlying t=some (.slice e)) (hi:P.info? e=some i) (hz:i.zero=some z)
  (hsize:i.size=size) (hby:i.bytes=bytes) (hzs:z.cells.size=size) (hsz:0 < size) (g:Nat) (hg:w.heap[g]? =some (.cells #[] e (0,0))) (hbg:base≤g) (a:Option Addr) (n cap:Nat) (xs:List Value) (h:Row w a xs) (hl:xs.length=n * size) (h1: ∀ u∈xs,u.oneCell'=true)
  (h63:n≤1048576) (hb:bytes≤1000) (lY:base≤w.heap.size):
  ∃ a' cap' w',(Builtin.append_ #[t,t] ty #[.slice (some ⟨g,0,none⟩) 0 0,.slice a n cap]).run P w= .ok (.slice a' n cap') w'∧w'.ownsRow base e size (.slice a' n cap') n xs∧w.grownBy w' (some g)∧ ∀ q∈blk a',q=g∨q=w.heap.size:=by
 cases a with
 | none=>
  have hx:xs= [] :=by
   cases xs with
   | nil=>rfl
   | cons u r=>
    obtain ⟨g,e',_⟩:=h 0 u rfl;cases e'
  subst hx;have hn:n=0:=by
   cases n with
   | zero=>rfl
   | succ n=>simp only [List.length_nil,Nat.succ_mul] at hl; omega
  subst hn;refine ⟨some ⟨g,0,none⟩,0,w,?_,i6 hg hbg,⟨rfl,rfl,rfl,Ki _,fun _ _ _=>rfl⟩,fun q hq=>by simp [blk] at hq; exact .inl hq⟩;simp [Builtin.append_,run_underlying ht,sizeOf,typeInfo,hi,Builtin.lenOf,Builtin.firstCells,storeCells]
 | some ad=>
  have hnews: ∀ j u,xs[j]? =some u→w.cell? (ad.add j)=some u:=fun j u hu=>by
   obtain ⟨g,e',hc⟩:=h j u hu;cases e';rw [qZ];exact hc
  obtain ⟨v',w',hr,ho,hgr,-,hbl⟩:=run_append_own_at (P:=P) w base t ty e i z size bytes ht hi hz hsize hby hzs hsz (.slice (some ⟨g,0,none⟩) 0 0) 0 [] (i6 hg hbg) ad n cap xs hl hnews h1 (by unfold maxLen; omega) (by rw [Li]; have:=Nat.mul_le_mul h63 hb; omega) lY;simp only [Li,Ll] at ho;obtain ⟨a',cap',rfl,-⟩:=cr ho;refine ⟨a',cap',w',hr,ho,hgr,fun q hq=> ?_⟩;rw [fZ] at hq;cases a' with
  | none=>simp at hq
  | some ad'=>
   simp only [Option.map_some,LF] at hq;subst hq;rcases hbl with hbl | hbl
   ·exact .inl (by simpa [Value.ownBlock] using hbl)
   ·exact .inr (by simpa [Value.ownBlock] using hbl)
theorem Ec {l:List bD} : ∀ u∈dm.flat l,u.oneCell'=true:=fun u hu=>by
 obtain ⟨x,_,hx⟩:=Rt.1 hu;simp only [dm,yz,Kt,Ku,or_false] at hx;rcases hx with rfl | rfl | rfl <;> rfl
theorem xB {l:List aB} : ∀ u∈bJ.flat l,u.oneCell'=true:=fun u hu=>by
 obtain ⟨x,_,hx⟩:=Rt.1 hu;simp only [bJ,rY,Kt,Ku,or_false] at hx;rcases hx with rfl | rfl <;> rfl
theorem xV {l:List az} : ∀ u∈bG.flat l,u.oneCell'=true:=fun u hu=>by
 obtain ⟨x,_,hx⟩:=Rt.1 hu;simp only [bG,sn,Kt,Ku,or_false] at hx;rcases hx with rfl | rfl | rfl <;> rfl
theorem Iq (w:World) (base g:Nat) (hg:w.heap[g]? =some (.cells #[] 184 (0,0))) (hbg:base≤g) (a:Option Addr) (l:List bD) (cap:Nat) (h:Row w a (dm.flat l)) (hl:l.length≤1048576) (lY:base≤w.heap.size):
  ∃ a' cap' w',(Builtin.append_ #[42,42] 42 #[.slice (some ⟨g,0,none⟩) 0 0,.slice a l.length cap]).run J3 w= .ok (.slice a' l.length cap') w'∧w'.ownsRow base 184 3 (.slice a' l.length cap') l.length (dm.flat l)∧w.grownBy w' (some g)∧ ∀ q∈blk a',q=g∨q=w.heap.size:=by
 obtain ⟨i,hi,e⟩:=Kw.1 yS;simp only [Kx] at e;exact kK w base _ _ 184 i _ 3 24 Tryz.underlying42 hi e.1 e.2.1 e.2.2 rfl (by decide) g hg hbg a l.length cap _ h (dm.dM l) Ec hl (by decide) lY
theorem Fp (w:World) (base g:Nat) (hg:w.heap[g]? =some (.cells #[] 187 (0,0))) (hbg:base≤g) (a:Option Addr) (l:List aB) (cap:Nat) (h:Row w a (bJ.flat l)) (hl:l.length≤1048576) (lY:base≤w.heap.size):
  ∃ a' cap' w',(Builtin.append_ #[43,43] 43 #[.slice (some ⟨g,0,none⟩) 0 0,.slice a l.length cap]).run J3 w= .ok (.slice a' l.length cap') w'∧w'.ownsRow base 187 2 (.slice a' l.length cap') l.length (bJ.flat l)∧w.grownBy w' (some g)∧ ∀ q∈blk a',q=g∨q=w.heap.size:=by
 obtain ⟨i,hi,e⟩:=Kw.1 so;simp only [Kx] at e;exact kK w base _ _ 187 i _ 2 16 Tryz.underlying43 hi e.1 e.2.1 e.2.2 rfl (by decide) g hg hbg a l.length cap _ h (bJ.dM l) xB hl (by decide) lY
theorem ED (w:World) (base g:Nat) (hg:w.heap[g]? =some (.cells #[] 190 (0,0))) (hbg:base≤g) (a:Option Addr) (l:List az) (cap:Nat) (h:Row w a (bG.flat l)) (hl:l.length≤1048576) (lY:base≤w.heap.size):
  ∃ a' cap' w',(Builtin.append_ #[44,44] 44 #[.slice (some ⟨g,0,none⟩) 0 0,.slice a l.length cap]).run J3 w= .ok (.slice a' l.length cap') w'∧w'.ownsRow base 190 3 (.slice a' l.length cap') l.length (bG.flat l)∧w.grownBy w' (some g)∧ ∀ q∈blk a',q=g∨q=w.heap.size:=by
 obtain ⟨i,hi,e⟩:=Kw.1 sj;simp only [Kx] at e;exact kK w base _ _ 190 i _ 3 32 Tryz.underlying44 hi e.1 e.2.1 e.2.2 rfl (by decide) g hg hbg a l.length cap _ h (bG.dM l) xV hl (by decide) lY
theorem Gg (w:World) (base g:Nat) (hg:w.heap[g]? =some (.cells #[] 234 (0,0))) (hbg:base≤g) (a:Option Addr) (l:List dN) (cap:Nat) (h:Row w a (fk.flat l)) (hl:l.length≤1048576) (lY:base≤w.heap.size):
  ∃ a' cap' w',(Builtin.append_ #[146,146] 146 #[.slice (some ⟨g,0,none⟩) 0 0,.slice a l.length cap]).run J3 w= .ok (.slice a' l.length cap') w'∧w'.ownsRow base 234 4 (.slice a' l.length cap') l.length (fk.flat l)∧w.grownBy w' (some g)∧ ∀ q∈blk a',q=g∨q=w.heap.size:=by
 obtain ⟨i,hi,e⟩:=Kw.1 D5;simp only [Kx] at e;exact kK w base _ _ 234 i _ 4 40 Tryz.underlying146 hi e.1 e.2.1 e.2.2 rfl (by decide) g hg hbg a l.length cap _ h (fk.dM l) FE hl (by decide) lY
theorem tO (w:World) (base g:Nat) (hg:w.heap[g]? =some (.cells #[] 9 (0,0))) (hbg:base≤g) (a:Option Addr) (l:List ByteArray) (cap:Nat) (h:Row w a (bT.flat l)) (hl:l.length≤1048576) (lY:base≤w.heap.size):
  ∃ a' cap' w',(Builtin.append_ #[83,83] 83 #[.slice (some ⟨g,0,none⟩) 0 0,.slice a l.length cap]).run J3 w= .ok (.slice a' l.length cap') w'∧w'.ownsRow base 9 1 (.slice a' l.length cap') l.length (bT.flat l)∧w.grownBy w' (some g)∧ ∀ q∈blk a',q=g∨q=w.heap.size:=by
 obtain ⟨i,hi,e⟩:=Kw.1 zD;simp only [Kx] at e;exact kK w base _ _ 9 i _ 1 16 Tryz.underlying83 hi e.1 e.2.1 e.2.2 rfl (by decide) g hg hbg a l.length cap _ h (bT.dM l) yK hl (by decide) lY
section
variable {P:Program} {Q:Exit→Act→World→Prop} {K:Act→World→Prop} {o:Oper} {a:Act} {w:World}
end
end
section
open Go.RowKit Go.Maps Go.Sort Go.Shelf
theorem Z2 (mb:Option Nat) (W:World):Calls J3 125 #[.map mb] W fun e w'=>e= .returned (.func (.func 162) #[] #[.pointer (some ⟨W.heap.size,0,none⟩)])∧w'=W.alloc (.cells #[.map mb] 104):=
 (LO (n:=5)).1 (AnyZI.keys_in Tryz.keysOpen Fence.wide 5 trivial rfl mb W)
theorem ZF (Bm b:Nat) (m:df) (W:World) (hBm:Bm < W.heap.size) (hc:W.cell? ⟨Bm,0,none⟩=some (.map (some b))) (h:cF W b m) (hm:m.length≤1048576):
  Calls J3 124 #[.func (.func 162) #[] #[.pointer (some ⟨Bm,0,none⟩)]] W fun e w'=> ∃ v:Value,e= .returned v∧w'.ownsRow W.heap.size 2 1 v m.length (m.map fun p=> .int .i64 p.1)∧Below W.heap.size W w':=by
 have hsz:Maps.size (gA m)=m.length:=size_map m;have hseq:SeqGives Fence.wide 2 J3 162 #[.pointer (some ⟨Bm,0,none⟩)] encZ (fun ss=>ss.Perm (intKeys (gA m))) (Maps.size (gA m)) W:=
  AnyZI.keys_gives (ρ:=Tryz.keysOpen_ren) { Tryz.keysOpen with } Fence.wide _ trivial rfl (by omega) Bm b m.length (gA m) W hBm hc h.1
 have cS:=AnyZI.sorted_in Tryz.sortedA Fence.wide 5 trivial trivial trivial trivial rfl (by omega) (Tryz.sortsA _) (enters_of Tryz.func129 (by kernel_rfl) rfl) 162 #[.pointer (some ⟨Bm,0,none⟩)] trivial (enters_of Tryz.func162 (by kernel_rfl) rfl) _ _ (by rw [hsz]; unfold maxLen; omega) (by rw [hsz]; omega) _ hseq
 change CallsIn _ _ J3 124 _ _ _ at cS
 refine (LO.1 cS).mono ?_;rintro e w' ⟨v,ss,rfl,hS,hrow,hnil,kj⟩;refine ⟨v,rfl,?_,kj⟩;rw [jG h.2 hS] at hrow;have hl:ss.length=m.length:=by
  rw [hS.length_eq,lU,List.length_map]
 rw [hl,List.map_map] at hrow;exact hrow
end
end Go.Proofs.YteidkehoekbcaaaGreat
