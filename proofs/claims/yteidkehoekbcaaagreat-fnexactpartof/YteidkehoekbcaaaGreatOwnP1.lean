/- What the proof leans on, part 1. -/
import Derived.Test.YteidkehoekbcaaaGreatOwnK19
import Derived.Test.YteidkehoekbcaaaGreatOwnP0
set_option maxRecDepth 100000
set_option maxHeartbeats 8000000
open Array renaming getElem?_eq_some_iff->J2
open Bool renaming false_eq_true->J5
open Go renaming callsIn_wide->LO,heap_alloc_new->Kj,wpList_append_own_at->KD
open Go.Proofs renaming enters_of->LP
open Go.Proofs.AnyZI renaming keys_gives->RD,keys_in->RC,sorted_in->RE
open Go.Proofs.Tryz renaming prog->J3
open Go.RowKit.Below renaming refl->Kp
open Go.World renaming news_of_block->KE,ownsRow_nil->Ke
open List renaming append_assoc->Lm,filterMap_append->LW,getElem?_eq_getElem->Kz,length_map->KG,map_append->Kl,map_map->Lv,mem_append->Kg,mem_append_left->Lz,mem_append_right->Ly,mem_cons->Kt,mem_filterMap->Lq,mem_flatMap->Rt,mem_of_getElem?->KA,nil_append->Ll,nodup_append->Kf,not_mem_nil->Ku,take_length->LQ
open Nat renaming le_refl->Ki,zero_add->Li,zero_le->Ky
open Option renaming map_eq_some_iff->Kw
open Option.some renaming injEq->LF
open Prod.mk renaming injEq->Kx

namespace Go.Proofs.YteidkehoekbcaaaGreat
section
open Go.RowKit
theorem qC {Z A A' K k R:List Nat} (h:(Z ++ (A ++ (K ++ R))).Nodup) (hA:A'.Nodup) (hk:k.Nodup) (h1: ∀ g∈A',g∉Z∧g∉K∧g∉k∧g∉R) (h2: ∀ g∈k,g∉Z∧g∉K∧g∉R):(Z ++ (A' ++ ((K ++ k) ++ R))).Nodup:=by
 simp only [Kf,Kg] at h ⊢;obtain ⟨hz,⟨-,⟨hK,hR,hKR⟩,-⟩,hzz⟩:=h;refine ⟨hz,⟨hA,⟨⟨hK,hk,fun a ha b hb e=>(h2 b hb).2.1 (e ▸ ha)⟩,hR,fun a ha b hb e=> ?_⟩,fun a ha b hb e=> ?_⟩,fun a ha b hb e=> ?_⟩
 ·rcases ha with ha | ha
  ·exact hKR a ha b hb e
  ·exact (h2 a ha).2.2 (e ▸ hb)
 ·subst e
  rcases hb with (hb | hb) | hb
  ·exact (h1 a ha).2.1 hb
  ·exact (h1 a ha).2.2.1 hb
  ·exact (h1 a ha).2.2.2 hb
 ·subst e
  rcases hb with hb | (hb | hb) | hb
  ·exact (h1 a hb).1 ha
  ·exact hzz a ha a (.inr (.inl hb)) rfl
  ·exact (h2 a hb).1 ha
  ·exact hzz a ha a (.inr (.inr hb)) rfl
theorem fN (a:Option Addr):(blk a).Nodup:=by cases a <;> simp [blk]
theorem qj {α:Type} (N:gd α) (x:α):([x].filterMap N.bt).Nodup:=by
 cases h:N.bt x <;> simp [h]
theorem dd {α:Type} {N:gd α} {l:List α} {y:α} {g:Nat} (hy:y∈l) (hk:N.bt y=some g):(∃ a,a∈l∧N.bt a=some g)=True:=by simp only [eq_iff_iff,iff_true]; exact ⟨y,hy,hk⟩
theorem j5 {α:Type} {N:gd α} {x:α} {g:Nat} :g∈ [x].filterMap N.bt↔N.bt x=some g:=by simp
theorem ap.yg {w w':World} {base:Nat} {q:af} {x:ao} {a:Option Addr} {c:Nat} (h:ap w base q) (hm:aR.cO w base x) (hx: ∀ g,aR.bt x=some g→g∉q.Mc)
  (ho:w'.ownsRow base 148 12 (.slice a (q.L8.length+1) c) (q.L8.length+1) (bg.flat (q.L8 ++ [x]))) (hg: ∀ g,g < w.heap.size→g∉blk q.aN→w'.heap[g]? =w.heap[g]?) (hb: ∀ g∈blk a,g∈blk q.aN∨g=w.heap.size):
  ap w' base ({ q with L8:=q.L8 ++ [x],aN:=a,aW:=c } :af)∧ ∀ g∈({ q with L8:=q.L8 ++ [x],aN:=a,aW:=c } :af).Mc,g∈q.Mc∨aR.bt x=some g∨g=w.heap.size:=by
 have hbs:q.Mc= [] ++ (blk q.aN ++ (q.L8.filterMap aR.bt ++ (blk q.bc ++ (blk q.ay ++ (blk q.ax ++ (blk q.am ++ (q.ae.filterMap aC.bt ++ (blk q.aK ++ q.ai.filterMap aU.bt)))))))):=by simp [af.Mc]
 have rN:({ q with L8:=q.L8 ++ [x],aN:=a,aW:=c } :af).Mc= [] ++ (blk a ++ ((q.L8.filterMap aR.bt ++ [x].filterMap aR.bt) ++ (blk q.bc ++ (blk q.ay ++ (blk q.ax ++ (blk q.am ++ (q.ae.filterMap aC.bt ++ (blk q.aK ++ q.ai.filterMap aU.bt)))))))):=by simp only [af.Mc,Lm,LW,Ll]
 have hnd:=h.nodup;rw [hbs] at hnd;have hlt: ∀ g∈q.Mc,g < w.heap.size:=fun g hg=>(h.lt g hg).2
 have uW: ∀ g∈q.Mc,g∉blk q.aN→w'.heap[g]? =w.heap[g]? :=fun g bR hn=>hg g (hlt g bR) hn
 have nc: ∀ g,(g∈ [] ∨g∈q.L8.filterMap aR.bt∨g∈(blk q.bc ++ (blk q.ay ++ (blk q.ax ++ (blk q.am ++ (q.ae.filterMap aC.bt ++ (blk q.aK ++ q.ai.filterMap aU.bt)))))))→g∉blk q.aN:=fun g bR hA=>by
  obtain ⟨-,h2,h3⟩:=Kf.1 hnd;obtain ⟨-,-,h4⟩:=Kf.1 h2;rcases bR with bR | bR | bR
  ·exact h3 g bR g (Lz _ hA) rfl
  ·exact h4 g hA g (Lz _ bR) rfl
  ·exact h4 g hA g (Ly _ bR) rfl
 have hmem: ∀ g,(g∈ [] ∨g∈q.L8.filterMap aR.bt∨g∈(blk q.bc ++ (blk q.ay ++ (blk q.ax ++ (blk q.am ++ (q.ae.filterMap aC.bt ++ (blk q.aK ++ q.ai.filterMap aU.bt)))))))→g∈q.Mc:=fun g bR=>by
  rw [hbs];simp only [Kg];simp only [Kg] at bR;rcases bR with bR | bR | bR
  ·exact .inl bR
  ·exact .inr (.inr (.inl bR))
  ·exact .inr (.inr (.inr bR))
 have hs: ∀ g,(g∈ [] ∨g∈q.L8.filterMap aR.bt∨g∈(blk q.bc ++ (blk q.ay ++ (blk q.ax ++ (blk q.am ++ (q.ae.filterMap aC.bt ++ (blk q.aK ++ q.ai.filterMap aU.bt)))))))→w'.heap[g]? =w.heap[g]? :=fun g bR=>uW g (hmem g bR) (nc g bR)
 have hxs: ∀ g,aR.bt x=some g→w'.heap[g]? =w.heap[g]? :=fun g hk=>hg g (hm.lt hk).2 fun hA=>hx g hk (by rw [hbs]; simp only [Kg]; exact .inr (.inl hA))
 refine ⟨⟨(by simpa using ho),aL h.aj fun g bR=>hs g (.inr <| .inr (by simp [bR])),aL h.L9 fun g bR=>hs g (.inr <| .inr (by simp [bR])),aL h.ag fun g bR=>hs g (.inr <| .inr (by simp [bR])),aL h.ae fun g bR=>hs g (.inr <| .inr (by simp [bR])),aL h.ai fun g bR=>hs g (.inr <| .inr (by simp [bR])),fun y hy=>by
  rcases Kg.1 hy with hy | hy
  ·exact (h.eI y hy).same fun g hk=>hs g (.inr (.inl (Lq.2 ⟨y,hy,hk⟩)))
  ·simp only [Kt,Ku,or_false] at hy
   subst hy;exact hm.same hxs,fun y hy=>(h.eE y hy).same fun g hk=>hs g (.inr <| .inr (by simp only [Kg,Lq]; simp [dd hy hk])),fun y hy=>(h.eR y hy).same fun g hk=>hs g (.inr <| .inr (by simp only [Kg,Lq]; simp [dd hy hk])),?_⟩,?_⟩
 ·rw [rN]
  refine qC hnd (fN a) (qj _ x) (fun g iE=> ?_) (fun g EI=> ?_)
  ·have key: ∀ g',(g'∈ [] ∨g'∈q.L8.filterMap aR.bt∨g'∈(blk q.bc ++ (blk q.ay ++ (blk q.ax ++ (blk q.am ++ (q.ae.filterMap aC.bt ++ (blk q.aK ++ q.ai.filterMap aU.bt)))))))→g'≠g:=fun g' hg' e=>by
    rcases hb g iE with h1 | h1
    ·exact nc g' hg' (e ▸ h1)
    ·have:=hlt g' (hmem g' hg')
     omega
   refine ⟨fun hz=>key g (.inl hz) rfl,fun hz=>key g (.inr (.inl hz)) rfl,fun hz=> ?_,fun hz=>key g (.inr (.inr hz)) rfl⟩;rw [j5] at hz;rcases hb g iE with h1 | h1
   ·exact hx g hz (by rw [hbs]; simp only [Kg]; exact .inr (.inl h1))
   ·have:=(hm.lt hz).2
    omega
  ·rw [j5] at EI
   have hn:=hx g EI;exact ⟨fun hz=>hn (hmem g (.inl hz)),fun hz=>hn (hmem g (.inr (.inl hz))),fun hz=>hn (hmem g (.inr (.inr hz)))⟩
 ·intro g bR
  rw [rN] at bR;rw [hbs];simp only [Kg] at bR ⊢;rcases bR with bR | bR | (bR | bR) | bR
  ·exact .inl (.inl bR)
  ·rcases hb g bR with h1 | h1
   ·exact .inl (.inr (.inl h1))
   ·exact .inr (.inr h1)
  ·exact .inl (.inr (.inr (.inl bR)))
  ·exact .inr (.inl (j5.1 bR))
  ·exact .inl (.inr (.inr (.inr bR)))
theorem ap.sD {w w':World} {base:Nat} {q:af} {x:au} {a:Option Addr} {c:Nat} (h:ap w base q) (hm:aC.cO w base x) (hx: ∀ g,aC.bt x=some g→g∉q.Mc)
  (ho:w'.ownsRow base 160 3 (.slice a (q.ae.length+1) c) (q.ae.length+1) (bm.flat (q.ae ++ [x]))) (hg: ∀ g,g < w.heap.size→g∉blk q.am→w'.heap[g]? =w.heap[g]?) (hb: ∀ g∈blk a,g∈blk q.am∨g=w.heap.size):
  ap w' base ({ q with ae:=q.ae ++ [x],am:=a,aG:=c } :af)∧ ∀ g∈({ q with ae:=q.ae ++ [x],am:=a,aG:=c } :af).Mc,g∈q.Mc∨aC.bt x=some g∨g=w.heap.size:=by
 have hbs:q.Mc=(blk q.aN ++ q.L8.filterMap aR.bt ++ blk q.bc ++ blk q.ay ++ blk q.ax) ++ (blk q.am ++ (q.ae.filterMap aC.bt ++ (blk q.aK ++ q.ai.filterMap aU.bt))):=by simp [af.Mc,Lm]
 have rN:({ q with ae:=q.ae ++ [x],am:=a,aG:=c } :af).Mc=(blk q.aN ++ q.L8.filterMap aR.bt ++ blk q.bc ++ blk q.ay ++ blk q.ax) ++ (blk a ++ ((q.ae.filterMap aC.bt ++ [x].filterMap aC.bt) ++ (blk q.aK ++ q.ai.filterMap aU.bt))):=by simp only [af.Mc,Lm,LW]
 have hnd:=h.nodup;rw [hbs] at hnd;have hlt: ∀ g∈q.Mc,g < w.heap.size:=fun g hg=>(h.lt g hg).2
 have uW: ∀ g∈q.Mc,g∉blk q.am→w'.heap[g]? =w.heap[g]? :=fun g bR hn=>hg g (hlt g bR) hn
 have nc: ∀ g,(g∈(blk q.aN ++ q.L8.filterMap aR.bt ++ blk q.bc ++ blk q.ay ++ blk q.ax)∨g∈q.ae.filterMap aC.bt∨g∈(blk q.aK ++ q.ai.filterMap aU.bt))→g∉blk q.am:=fun g bR hA=>by
  obtain ⟨-,h2,h3⟩:=Kf.1 hnd;obtain ⟨-,-,h4⟩:=Kf.1 h2;rcases bR with bR | bR | bR
  ·exact h3 g bR g (Lz _ hA) rfl
  ·exact h4 g hA g (Lz _ bR) rfl
  ·exact h4 g hA g (Ly _ bR) rfl
 have hmem: ∀ g,(g∈(blk q.aN ++ q.L8.filterMap aR.bt ++ blk q.bc ++ blk q.ay ++ blk q.ax)∨g∈q.ae.filterMap aC.bt∨g∈(blk q.aK ++ q.ai.filterMap aU.bt))→g∈q.Mc:=fun g bR=>by
  rw [hbs];simp only [Kg];simp only [Kg] at bR;rcases bR with bR | bR | bR
  ·exact .inl bR
  ·exact .inr (.inr (.inl bR))
  ·exact .inr (.inr (.inr bR))
 have hs: ∀ g,(g∈(blk q.aN ++ q.L8.filterMap aR.bt ++ blk q.bc ++ blk q.ay ++ blk q.ax)∨g∈q.ae.filterMap aC.bt∨g∈(blk q.aK ++ q.ai.filterMap aU.bt))→w'.heap[g]? =w.heap[g]? :=fun g bR=>uW g (hmem g bR) (nc g bR)
 have hxs: ∀ g,aC.bt x=some g→w'.heap[g]? =w.heap[g]? :=fun g hk=>hg g (hm.lt hk).2 fun hA=>hx g hk (by rw [hbs]; simp only [Kg]; exact .inr (.inl hA))
 refine ⟨⟨aL h.L8 fun g bR=>hs g (.inl (by simp [bR])),aL h.aj fun g bR=>hs g (.inl (by simp [bR])),aL h.L9 fun g bR=>hs g (.inl (by simp [bR])),aL h.ag fun g bR=>hs g (.inl (by simp [bR])),(by simpa using ho),aL h.ai fun g bR=>hs g (.inr <| .inr (by simp [bR])),fun y hy=>(h.eI y hy).same fun g hk=>hs g (.inl (by simp only [Kg,Lq]; simp [dd hy hk])),fun y hy=>by
  rcases Kg.1 hy with hy | hy
  ·exact (h.eE y hy).same fun g hk=>hs g (.inr (.inl (Lq.2 ⟨y,hy,hk⟩)))
  ·simp only [Kt,Ku,or_false] at hy
   subst hy;exact hm.same hxs,fun y hy=>(h.eR y hy).same fun g hk=>hs g (.inr <| .inr (by simp only [Kg,Lq]; simp [dd hy hk])),?_⟩,?_⟩
 ·rw [rN]
  refine qC hnd (fN a) (qj _ x) (fun g iE=> ?_) (fun g EI=> ?_)
  ·have key: ∀ g',(g'∈(blk q.aN ++ q.L8.filterMap aR.bt ++ blk q.bc ++ blk q.ay ++ blk q.ax)∨g'∈q.ae.filterMap aC.bt∨g'∈(blk q.aK ++ q.ai.filterMap aU.bt))→g'≠g:=fun g' hg' e=>by
    rcases hb g iE with h1 | h1
    ·exact nc g' hg' (e ▸ h1)
    ·have:=hlt g' (hmem g' hg')
     omega
   refine ⟨fun hz=>key g (.inl hz) rfl,fun hz=>key g (.inr (.inl hz)) rfl,fun hz=> ?_,fun hz=>key g (.inr (.inr hz)) rfl⟩;rw [j5] at hz;rcases hb g iE with h1 | h1
   ·exact hx g hz (by rw [hbs]; simp only [Kg]; exact .inr (.inl h1))
   ·have:=(hm.lt hz).2
    omega
  ·rw [j5] at EI
   have hn:=hx g EI;exact ⟨fun hz=>hn (hmem g (.inl hz)),fun hz=>hn (hmem g (.inr (.inl hz))),fun hz=>hn (hmem g (.inr (.inr hz)))⟩
 ·intro g bR
  rw [rN] at bR;rw [hbs];simp only [Kg] at bR ⊢;rcases bR with bR | bR | (bR | bR) | bR
  ·exact .inl (.inl bR)
  ·rcases hb g bR with h1 | h1
   ·exact .inl (.inr (.inl h1))
   ·exact .inr (.inr h1)
  ·exact .inl (.inr (.inr (.inl bR)))
  ·exact .inr (.inl (j5.1 bR))
  ·exact .inl (.inr (.inr (.inr bR)))
theorem ap.yf {w w':World} {base:Nat} {q:af} {x:aM} {a:Option Addr} {c:Nat} (h:ap w base q) (hm:aU.cO w base x) (hx: ∀ g,aU.bt x=some g→g∉q.Mc)
  (ho:w'.ownsRow base 85 5 (.slice a (q.ai.length+1) c) (q.ai.length+1) (bX.flat (q.ai ++ [x]))) (hg: ∀ g,g < w.heap.size→g∉blk q.aK→w'.heap[g]? =w.heap[g]?) (hb: ∀ g∈blk a,g∈blk q.aK∨g=w.heap.size):
  ap w' base ({ q with ai:=q.ai ++ [x],aK:=a,aV:=c } :af)∧ ∀ g∈({ q with ai:=q.ai ++ [x],aK:=a,aV:=c } :af).Mc,g∈q.Mc∨aU.bt x=some g∨g=w.heap.size:=by
 have hbs:q.Mc=(blk q.aN ++ q.L8.filterMap aR.bt ++ blk q.bc ++ blk q.ay ++ blk q.ax ++ blk q.am ++ q.ae.filterMap aC.bt) ++ (blk q.aK ++ (q.ai.filterMap aU.bt ++ [])):=by simp [af.Mc,Lm]
 have rN:({ q with ai:=q.ai ++ [x],aK:=a,aV:=c } :af).Mc=(blk q.aN ++ q.L8.filterMap aR.bt ++ blk q.bc ++ blk q.ay ++ blk q.ax ++ blk q.am ++ q.ae.filterMap aC.bt) ++ (blk a ++ ((q.ai.filterMap aU.bt ++ [x].filterMap aU.bt) ++ [])):=by simp only [af.Mc,Lm,LW,List.append_nil]
 have hnd:=h.nodup;rw [hbs] at hnd;have hlt: ∀ g∈q.Mc,g < w.heap.size:=fun g hg=>(h.lt g hg).2
 have uW: ∀ g∈q.Mc,g∉blk q.aK→w'.heap[g]? =w.heap[g]? :=fun g bR hn=>hg g (hlt g bR) hn
 have nc: ∀ g,(g∈(blk q.aN ++ q.L8.filterMap aR.bt ++ blk q.bc ++ blk q.ay ++ blk q.ax ++ blk q.am ++ q.ae.filterMap aC.bt)∨g∈q.ai.filterMap aU.bt∨g∈ [])→g∉blk q.aK:=fun g bR hA=>by
  obtain ⟨-,h2,h3⟩:=Kf.1 hnd;obtain ⟨-,-,h4⟩:=Kf.1 h2;rcases bR with bR | bR | bR
  ·exact h3 g bR g (Lz _ hA) rfl
  ·exact h4 g hA g (Lz _ bR) rfl
  ·exact h4 g hA g (Ly _ bR) rfl
 have hmem: ∀ g,(g∈(blk q.aN ++ q.L8.filterMap aR.bt ++ blk q.bc ++ blk q.ay ++ blk q.ax ++ blk q.am ++ q.ae.filterMap aC.bt)∨g∈q.ai.filterMap aU.bt∨g∈ [])→g∈q.Mc:=fun g bR=>by
  rw [hbs];simp only [Kg];simp only [Kg] at bR;rcases bR with bR | bR | bR
  ·exact .inl bR
  ·exact .inr (.inr (.inl bR))
  ·exact .inr (.inr (.inr bR))
 have hs: ∀ g,(g∈(blk q.aN ++ q.L8.filterMap aR.bt ++ blk q.bc ++ blk q.ay ++ blk q.ax ++ blk q.am ++ q.ae.filterMap aC.bt)∨g∈q.ai.filterMap aU.bt∨g∈ [])→w'.heap[g]? =w.heap[g]? :=fun g bR=>uW g (hmem g bR) (nc g bR)
 have hxs: ∀ g,aU.bt x=some g→w'.heap[g]? =w.heap[g]? :=fun g hk=>hg g (hm.lt hk).2 fun hA=>hx g hk (by rw [hbs]; simp only [Kg]; exact .inr (.inl hA))
 refine ⟨⟨aL h.L8 fun g bR=>hs g (.inl (by simp [bR])),aL h.aj fun g bR=>hs g (.inl (by simp [bR])),aL h.L9 fun g bR=>hs g (.inl (by simp [bR])),aL h.ag fun g bR=>hs g (.inl (by simp [bR])),aL h.ae fun g bR=>hs g (.inl (by simp [bR])),(by simpa using ho),fun y hy=>(h.eI y hy).same fun g hk=>hs g (.inl (by simp only [Kg,Lq]; simp [dd hy hk])),fun y hy=>(h.eE y hy).same fun g hk=>hs g (.inl (by simp only [Kg,Lq]; simp [dd hy hk])),fun y hy=>by
  rcases Kg.1 hy with hy | hy
  ·exact (h.eR y hy).same fun g hk=>hs g (.inr (.inl (Lq.2 ⟨y,hy,hk⟩)))
  ·simp only [Kt,Ku,or_false] at hy
   subst hy;exact hm.same hxs,?_⟩,?_⟩
 ·rw [rN]
  refine qC hnd (fN a) (qj _ x) (fun g iE=> ?_) (fun g EI=> ?_)
  ·have key: ∀ g',(g'∈(blk q.aN ++ q.L8.filterMap aR.bt ++ blk q.bc ++ blk q.ay ++ blk q.ax ++ blk q.am ++ q.ae.filterMap aC.bt)∨g'∈q.ai.filterMap aU.bt∨g'∈ [])→g'≠g:=fun g' hg' e=>by
    rcases hb g iE with h1 | h1
    ·exact nc g' hg' (e ▸ h1)
    ·have:=hlt g' (hmem g' hg')
     omega
   refine ⟨fun hz=>key g (.inl hz) rfl,fun hz=>key g (.inr (.inl hz)) rfl,fun hz=> ?_,fun hz=>key g (.inr (.inr hz)) rfl⟩;rw [j5] at hz;rcases hb g iE with h1 | h1
   ·exact hx g hz (by rw [hbs]; simp only [Kg]; exact .inr (.inl h1))
   ·have:=(hm.lt hz).2
    omega
  ·rw [j5] at EI
   have hn:=hx g EI;exact ⟨fun hz=>hn (hmem g (.inl hz)),fun hz=>hn (hmem g (.inr (.inl hz))),fun hz=>hn (hmem g (.inr (.inr hz)))⟩
 ·intro g bR
  rw [rN] at bR;rw [hbs];simp only [Kg] at bR ⊢;rcases bR with bR | bR | (bR | bR) | bR
  ·exact .inl (.inl bR)
  ·rcases hb g bR with h1 | h1
   ·exact .inl (.inr (.inl h1))
   ·exact .inr (.inr h1)
  ·exact .inl (.inr (.inr (.inl bR)))
  ·exact .inr (.inl (j5.1 bR))
  ·exact .inl (.inr (.inr (.inr bR)))
theorem yS:(Tryz.prog.info? 184).map (fun i=>(i.zero,i.size,i.bytes))=some (some (.agg #[.int .i64 0,.int .i64 0,.int .i64 0]),3,24):=by kernel_rfl
theorem so:(Tryz.prog.info? 187).map (fun i=>(i.zero,i.size,i.bytes))=some (some (.agg #[.int .i64 0,.bool false]),2,16):=by kernel_rfl
theorem sj:(Tryz.prog.info? 190).map (fun i=>(i.zero,i.size,i.bytes))=some (some (.agg #[.int .i64 0,.bool false,.string ⟨#[]⟩]),3,32):=by kernel_rfl
theorem kh:(Tryz.prog.info? 160).map (fun i=>(i.zero,i.size,i.bytes))=some (some (.agg #[.int .i64 0,.int .i64 0,.slice none 0 0]),3,40):=by kernel_rfl
theorem na:(Tryz.prog.info? 85).map (fun i=>(i.zero,i.size,i.bytes))=some (some (.agg #[.int .i64 0,.bool false,.bool false,.int .i64 0,.slice none 0 0]),5,48):=by kernel_rfl
theorem nb:(Tryz.prog.info? 148).map (fun i=>(i.zero,i.size,i.bytes))=some (some (.agg cE),12,128):=by kernel_rfl
theorem i6 {w:World} {base g:Nat} {e:TypeId} {size:Nat} (hg:w.heap[g]? =some (.cells #[] e (0,0))) (hb:base≤g):w.ownsRow base e size (.slice (some ⟨g,0,none⟩) 0 0) 0 [] :=
 ⟨by simp,.inr ⟨g,0,#[],rfl,hb,hg,Ki _,Ky _,by simp,by simp⟩⟩
theorem kK {P:Program} (w:World) (base:Nat) (t ty e:TypeId) (i:TypeInfo) (z:Value) (size bytes:Nat) (ht:P.underlying t=some (.slice e)) (hi:P.info? e=some i) (hz:i.zero=some z)
  (hsize:i.size=size) (hby:i.bytes=bytes) (hzs:z.cells.size=size) (hsz:0 < size) (g:Nat) (hg:w.heap[g]? =some (.cells #[] e (0,0))) (hbg:base≤g) (a:Option Addr) (n cap:Nat) (xs:List Value) (h:Row w a xs) (hl:xs.length=n * size) (h1: ∀ u∈xs,u.oneCell'=true)
  (h63:n≤1048576) (hb:bytes≤1000) (lY:base≤w.heap.size):
  ∃ a' cap' w',(Builtin.append_ #[t,t] ty #[.slice (some ⟨g,0,none⟩) 0 0,.slice a n cap]).run P w= .ok (.slice a' n cap') w'∧w'.ownsRow base e size (.slice a' n cap') n xs∧w.grownBy w' (some g)∧ ∀ q∈blk a',q=g∨q=w.heap.size:=by
 cases a with
 | none=>
  have hx:xs= [] :=by
   cases xs with
   | nil=>rfl
   | cons u r=>
    obtain ⟨g,e',_⟩:=h 0 u rfl;cases e'
  subst hx;have hn:n=0:=by
   cases n with
   | zero=>rfl
   | succ n=>simp only [List.length_nil,Nat.succ_mul] at hl; omega
  subst hn;refine ⟨some ⟨g,0,none⟩,0,w,?_,i6 hg hbg,⟨rfl,rfl,rfl,Ki _,fun _ _ _=>rfl⟩,fun q hq=>by simp [blk] at hq; exact .inl hq⟩;simp [Builtin.append_,run_underlying ht,sizeOf,typeInfo,hi,Builtin.lenOf,Builtin.firstCells,storeCells]
 | some ad=>
  have hnews: ∀ j u,xs[j]? =some u→w.cell? (ad.add j)=some u:=fun j u hu=>by
   obtain ⟨g,e',hc⟩:=h j u hu;cases e';rw [qZ];exact hc
  obtain ⟨v',w',hr,ho,hgr,-,hbl⟩:=run_append_own_at (P:=P) w base t ty e i z size bytes ht hi hz hsize hby hzs hsz (.slice (some ⟨g,0,none⟩) 0 0) 0 [] (i6 hg hbg) ad n cap xs hl hnews h1 (by unfold maxLen; omega) (by rw [Li]; have:=Nat.mul_le_mul h63 hb; omega) lY;simp only [Li,Ll] at ho;obtain ⟨a',cap',rfl,-⟩:=cr ho;refine ⟨a',cap',w',hr,ho,hgr,fun q hq=> ?_⟩;rw [fZ] at hq;cases a' with
  | none=>simp at hq
  | some ad'=>
   simp only [Option.map_some,LF] at hq;subst hq;rcases hbl with hbl | hbl
   ·exact .inl (by simpa [Value.ownBlock] using hbl)
   ·exact .inr (by simpa [Value.ownBlock] using hbl)
theorem Ec {l:List bD} : ∀ u∈dm.flat l,u.oneCell'=true:=fun u hu=>by
 obtain ⟨x,_,hx⟩:=Rt.1 hu;simp only [dm,yz,Kt,Ku,or_false] at hx;rcases hx with rfl | rfl | rfl <;> rfl
theorem xB {l:List aB} : ∀ u∈bJ.flat l,u.oneCell'=true:=fun u hu=>by
 obtain ⟨x,_,hx⟩:=Rt.1 hu;simp only [bJ,rY,Kt,Ku,or_false] at hx;rcases hx with rfl | rfl <;> rfl
theorem xV {l:List az} : ∀ u∈bG.flat l,u.oneCell'=true:=fun u hu=>by
 obtain ⟨x,_,hx⟩:=Rt.1 hu;simp only [bG,sn,Kt,Ku,or_false] at hx;rcases hx with rfl | rfl | rfl <;> rfl
theorem Iq (w:World) (base g:Nat) (hg:w.heap[g]? =some (.cells #[] 184 (0,0))) (hbg:base≤g) (a:Option Addr) (l:List bD) (cap:Nat) (h:Row w a (dm.flat l)) (hl:l.length≤1048576) (lY:base≤w.heap.size):
  ∃ a' cap' w',(Builtin.append_ #[42,42] 42 #[.slice (some ⟨g,0,none⟩) 0 0,.slice a l.length cap]).run J3 w= .ok (.slice a' l.length cap') w'∧w'.ownsRow base 184 3 (.slice a' l.length cap') l.length (dm.flat l)∧w.grownBy w' (some g)∧ ∀ q∈blk a',q=g∨q=w.heap.size:=by
 obtain ⟨i,hi,e⟩:=Kw.1 yS;simp only [Kx] at e;exact kK w base _ _ 184 i _ 3 24 Tryz.underlying42 hi e.1 e.2.1 e.2.2 rfl (by decide) g hg hbg a l.length cap _ h (dm.dM l) Ec hl (by decide) lY
theorem Fp (w:World) (base g:Nat) (hg:w.heap[g]? =some (.cells #[] 187 (0,0))) (hbg:base≤g) (a:Option Addr) (l:List aB) (cap:Nat) (h:Row w a (bJ.flat l)) (hl:l.length≤1048576) (lY:base≤w.heap.size):
  ∃ a' cap' w',(Builtin.append_ #[43,43] 43 #[.slice (some ⟨g,0,none⟩) 0 0,.slice a l.length cap]).run J3 w= .ok (.slice a' l.length cap') w'∧w'.ownsRow base 187 2 (.slice a' l.length cap') l.length (bJ.flat l)∧w.grownBy w' (some g)∧ ∀ q∈blk a',q=g∨q=w.heap.size:=by
 obtain ⟨i,hi,e⟩:=Kw.1 so;simp only [Kx] at e;exact kK w base _ _ 187 i _ 2 16 Tryz.underlying43 hi e.1 e.2.1 e.2.2 rfl (by decide) g hg hbg a l.length cap _ h (bJ.dM l) xB hl (by decide) lY
theorem ED (w:World) (base g:Nat) (hg:w.heap[g]? =some (.cells #[] 190 (0,0))) (hbg:base≤g) (a:Option Addr) (l:List az) (cap:Nat) (h:Row w a (bG.flat l)) (hl:l.length≤1048576) (lY:base≤w.heap.size):
  ∃ a' cap' w',(Builtin.append_ #[44,44] 44 #[.slice (some ⟨g,0,none⟩) 0 0,.slice a l.length cap]).run J3 w= .ok (.slice a' l.length cap') w'∧w'.ownsRow base 190 3 (.slice a' l.length cap') l.length (bG.flat l)∧w.grownBy w' (some g)∧ ∀ q∈blk a',q=g∨q=w.heap.size:=by
 obtain ⟨i,hi,e⟩:=Kw.1 sj;simp only [Kx] at e;exact kK w base _ _ 190 i _ 3 32 Tryz.underlying44 hi e.1 e.2.1 e.2.2 rfl (by decide) g hg hbg a l.length cap _ h (bG.dM l) xV hl (by decide) lY
theorem Gg (w:World) (base g:Nat) (hg:w.heap[g]? =some (.cells #[] 234 (0,0))) (hbg:base≤g) (a:Option Addr) (l:List dN) (cap:Nat) (h:Row w a (fk.flat l)) (hl:l.length≤1048576) (lY:base≤w.heap.size):
  ∃ a' cap' w',(Builtin.append_ #[146,146] 146 #[.slice (some ⟨g,0,none⟩) 0 0,.slice a l.length cap]).run J3 w= .ok (.slice a' l.length cap') w'∧w'.ownsRow base 234 4 (.slice a' l.length cap') l.length (fk.flat l)∧w.grownBy w' (some g)∧ ∀ q∈blk a',q=g∨q=w.heap.size:=by
 obtain ⟨i,hi,e⟩:=Kw.1 D5;simp only [Kx] at e;exact kK w base _ _ 234 i _ 4 40 Tryz.underlying146 hi e.1 e.2.1 e.2.2 rfl (by decide) g hg hbg a l.length cap _ h (fk.dM l) FE hl (by decide) lY
theorem tO (w:World) (base g:Nat) (hg:w.heap[g]? =some (.cells #[] 9 (0,0))) (hbg:base≤g) (a:Option Addr) (l:List ByteArray) (cap:Nat) (h:Row w a (bT.flat l)) (hl:l.length≤1048576) (lY:base≤w.heap.size):
  ∃ a' cap' w',(Builtin.append_ #[83,83] 83 #[.slice (some ⟨g,0,none⟩) 0 0,.slice a l.length cap]).run J3 w= .ok (.slice a' l.length cap') w'∧w'.ownsRow base 9 1 (.slice a' l.length cap') l.length (bT.flat l)∧w.grownBy w' (some g)∧ ∀ q∈blk a',q=g∨q=w.heap.size:=by
 obtain ⟨i,hi,e⟩:=Kw.1 zD;simp only [Kx] at e;exact kK w base _ _ 9 i _ 1 16 Tryz.underlying83 hi e.1 e.2.1 e.2.2 rfl (by decide) g hg hbg a l.length cap _ h (bT.dM l) yK hl (by decide) lY
section
variable {P:Program} {Q:Exit→Act→World→Prop} {K:Act→World→Prop} {o:Oper} {a:Act} {w:World}
end
end
section
open Go.RowKit Go.Maps Go.Sort Go.Shelf
theorem tr (mb:Option Nat) (W:World):Calls J3 192 #[.map mb] W fun e w'=>e= .returned (.func (.func 222) #[] #[.pointer (some ⟨W.heap.size,0,none⟩)])∧w'=W.alloc (.cells #[.map mb] 173):=
 (LO (n:=5)).1 (RC Tryz.keysBuffer Fence.wide 5 trivial rfl mb W)
theorem oF (Bm b:Nat) (m:df) (W:World) (hBm:Bm < W.heap.size) (hc:W.cell? ⟨Bm,0,none⟩=some (.map (some b))) (h:cF W b m) (hm:m.length≤1048576):
  Calls J3 124 #[.func (.func 222) #[] #[.pointer (some ⟨Bm,0,none⟩)]] W fun e w'=> ∃ v:Value,e= .returned v∧w'.ownsRow W.heap.size 2 1 v m.length (m.map fun p=> .int .i64 p.1)∧Below W.heap.size W w':=by
 have hsz:Maps.size (gA m)=m.length:=size_map m;have hseq:SeqGives Fence.wide 2 J3 222 #[.pointer (some ⟨Bm,0,none⟩)] encZ (fun ss=>ss.Perm (intKeys (gA m))) (Maps.size (gA m)) W:=
  RD (ρ:=Tryz.keysBuffer_ren) { Tryz.keysBuffer with } Fence.wide _ trivial rfl (by omega) Bm b m.length (gA m) W hBm hc h.1
 have cS:=RE Tryz.sortedA Fence.wide 5 trivial trivial trivial trivial rfl (by omega) (Tryz.sortsA _) (LP Tryz.func129 (by kernel_rfl) rfl) 222 #[.pointer (some ⟨Bm,0,none⟩)] trivial (LP Tryz.func222 (by kernel_rfl) rfl) _ _ (by rw [hsz]; unfold maxLen; omega) (by rw [hsz]; omega) _ hseq
 change CallsIn _ _ J3 124 _ _ _ at cS
 refine (LO.1 cS).mono ?_;rintro e w' ⟨v,ss,rfl,hS,hrow,hnil,kj⟩;refine ⟨v,rfl,?_,kj⟩;rw [jG h.2 hS] at hrow;have hl:ss.length=m.length:=by
  rw [hS.length_eq,lU,KG]
 rw [hl,Lv] at hrow;exact hrow
theorem wt:(Tryz.prog.info? 256).map (fun i=>(i.zero,i.size,i.bytes))=some (some (.pointer none),1,8):=by kernel_rfl
theorem wF (Me:Int) (b:Nat) (m:df) (w:World) (h:cF w b m) (hm:m.length≤1048576) (hwf: ∀ p∈m,(Lit.int .i64 p.1).wf=true):
  Calls J3 153 #[.agg #[.int .i64 Me,.map (some b)]] w fun e w'=> ∃ a cap,e= .returned (.slice a m.length cap)∧w'.ownsRow w.heap.size 256 1 (.slice a m.length cap) m.length (m.map fun p=>dt p.2)∧Below w.heap.size w w':=by
 obtain ⟨i0,hi,e0⟩:=Kw.1 wt;simp only [Kx] at e0;have HI:Hid (Tryz.prog.info? 256=some i0∧i0.zero=some (.pointer none)∧i0.size=1∧i0.bytes=8):=⟨hi,e0⟩
 have HM:Hid (cF w b m∧ ∀ p∈m,(Lit.int .i64 p.1).wf=true):=⟨h,hwf⟩
 have hbl:b < w.heap.size:=h.lt;clear hi e0 h hwf
 go_enter Tryz.func153,Tryz.ntmps153
 go_wp2_with (go_at_call 192; refine (tr _ _).mono ?_; rintro e w' ⟨rfl,rfl⟩);refine (oF (w.heap.size+1) b m _ (by simp) (by simp) (HM.I.1.below (((Kp _ w).alloc (Ki _) _).alloc (by simp) _)) hm).mono ?_;rintro e w2 ⟨v,rfl,hown,hb2⟩;have cy:Hid (Below w.heap.size w w2):=(((Kp _ w).alloc (Ki _) _).alloc (by simp) _).trans (hb2.mono (by simp; omega));have HS:Hid (w2.heap[w.heap.size]? =some (.cells #[.int .i64 Me,.map (some b)] 175 (0,0))):=(hb2.block _ (by simp; omega)).trans ((PU (by simp)).trans (Kj _ _));obtain ⟨a,cap,hv,hrow⟩:=cr hown;have HR:Hid (Row w2 a (m.map fun p=> .int .i64 p.1)):=hrow;rw [hv];clear hv hown hrow hb2 v;go_wp2_with fail
 go_loopw [3,11] (fun l i wr=> ∃ k:Nat,k≤m.length∧i= .int .i64 k∧ ∃ a' cap',l= .slice a' k cap'∧Hid (wr.ownsRow w2.heap.size 256 1 (.slice a' k cap') k ((m.take k).map fun p=>dt p.2)∧Below w2.heap.size w2 wr)) (fun _ i _=>m.length - (intOf i).toNat)
 case atStart=>exact ⟨0,Ky _,rfl,none,0,rfl,⟨Ke _ _ _ _,Kp _ _⟩⟩
 case round=>
  obtain ⟨k,hk,rfl,a',cap',rfl,HO⟩:=hrel;by_cases hlt:k < m.length
  ·have qE:(0:Int)≤(k:Int):=by omega
   have i1:(k:Int) < (m.length:Int):=by omega
   obtain ⟨p,hp⟩: ∃ p,m[k]? =some p:=⟨_,Kz hlt⟩
   have hpm:=KA hp;obtain ⟨g,ha,hc⟩:=(HR.I.below HO.I.2) k (.int .i64 p.1) (by simp [hp]);subst ha;have oE:=cy.I.size;have kT:=HO.I.2.size;have ut:cF wr b m:=HM.I.1.below (cy.I.trans (HO.I.2.mono oE));have hlk:=ut.look Tryz.underlying173 (pS wr) (HM.I.2 p hpm) false;rw [jI ut.2 hpm] at hlk;have hsw:wr.heap[w.heap.size]? =some (.cells #[.int .i64 Me,.map (some b)] 175 (0,0)):=(HO.I.2.block _ (J2.1 HS.I).1).trans HS.I;have s1:wr.cell? ⟨w.heap.size,1,none⟩=some (.map (some b)):=by simp [World.cell?,hsw]
   have HP:Hid (m[k]? =some p):=hp;simp only [qz,dt,J5,if_false] at hlk;clear hp hpm ut hsw;go_wp2_with (at_builtin; refine KD _ rfl _ _ 254 rfl w2.heap.size 256 i0 (.pointer none) 1 8 Tryz.underlying254 HI.I.1 HI.I.2.1 HI.I.2.2.1 HI.I.2.2.2 rfl (by decide) (.slice a' k cap') k ((m.take k).map fun p=>dt p.2) rfl (HO.I.1.alloc _) ⟨wr.heap.size,0,none⟩ 1 1 [.pointer (some ⟨p.2,0,none⟩)] (by rfl) rfl (KE (cs:= #[.pointer (some ⟨p.2,0,none⟩)]) (t:=256) (fr:=(0,0)) (Kj wr _)) (by simp [Value.oneCell']) (by unfold maxLen; omega) (by omega) (by simp; omega) ?_; intro v' w5 hown' hgrow hnil jV; obtain ⟨a5,im,rfl,-⟩:=cr hown'; have HN:Hid (w5.ownsRow w2.heap.size 256 1 (.slice a5 (k+1) im) (k+1) ((m.take (k+1)).map fun p=>dt p.2)∧Below w2.heap.size w2 w5):=⟨by rw [cj HP.I,Kl]; exact hown',(HO.I.2.alloc kT _).grown hgrow (by simp; omega) (fun q hq=>(HO.I.1.lt q hq).1)⟩; clear hown' hgrow hnil jV);go_roundw
   case rel=>exact ⟨k+1,by omega,by go_num,a5,im,rfl,HN⟩
   case measure=>simp [intOf]; omega
  ·have i1: ¬ (k:Int) < (m.length:Int):=by omega
   have e:k=m.length:=by omega
   subst e;go_wp2;go_ret;refine ⟨a',cap',rfl,?_,cy.I.trans (HO.I.2.mono cy.I.size)⟩
   have:=cq HO.I.1 cy.I.size
   rwa [LQ] at this
theorem vq (mb:Option Nat) (W:World):Calls J3 190 #[.map mb] W fun e w'=>e= .returned (.func (.func 220) #[] #[.pointer (some ⟨W.heap.size,0,none⟩)])∧w'=W.alloc (.cells #[.map mb] 167):=
 (LO (n:=5)).1 (RC Tryz.keysEvent Fence.wide 5 trivial rfl mb W)
theorem pD (Bm b:Nat) (m:df) (W:World) (hBm:Bm < W.heap.size) (hc:W.cell? ⟨Bm,0,none⟩=some (.map (some b))) (h:cF W b m) (hm:m.length≤1048576):
  Calls J3 124 #[.func (.func 220) #[] #[.pointer (some ⟨Bm,0,none⟩)]] W fun e w'=> ∃ v:Value,e= .returned v∧w'.ownsRow W.heap.size 2 1 v m.length (m.map fun p=> .int .i64 p.1)∧Below W.heap.size W w':=by
 have hsz:Maps.size (gA m)=m.length:=size_map m;have hseq:SeqGives Fence.wide 2 J3 220 #[.pointer (some ⟨Bm,0,none⟩)] encZ (fun ss=>ss.Perm (intKeys (gA m))) (Maps.size (gA m)) W:=
  RD (ρ:=Tryz.keysEvent_ren) { Tryz.keysEvent with } Fence.wide _ trivial rfl (by omega) Bm b m.length (gA m) W hBm hc h.1
 have cS:=RE Tryz.sortedA Fence.wide 5 trivial trivial trivial trivial rfl (by omega) (Tryz.sortsA _) (LP Tryz.func129 (by kernel_rfl) rfl) 220 #[.pointer (some ⟨Bm,0,none⟩)] trivial (LP Tryz.func220 (by kernel_rfl) rfl) _ _ (by rw [hsz]; unfold maxLen; omega) (by rw [hsz]; omega) _ hseq
 change CallsIn _ _ J3 124 _ _ _ at cS
 refine (LO.1 cS).mono ?_;rintro e w' ⟨v,ss,rfl,hS,hrow,hnil,kj⟩;refine ⟨v,rfl,?_,kj⟩;rw [jG h.2 hS] at hrow;have hl:ss.length=m.length:=by
  rw [hS.length_eq,lU,KG]
 rw [hl,Lv] at hrow;exact hrow
theorem zk:(Tryz.prog.info? 250).map (fun i=>(i.zero,i.size,i.bytes))=some (some (.pointer none),1,8):=by kernel_rfl
theorem yh (Me:Int) (b:Nat) (m:df) (w:World) (h:cF w b m) (hm:m.length≤1048576) (hwf: ∀ p∈m,(Lit.int .i64 p.1).wf=true):
  Calls J3 151 #[.agg #[.int .i64 Me,.map (some b)]] w fun e w'=> ∃ a cap,e= .returned (.slice a m.length cap)∧w'.ownsRow w.heap.size 250 1 (.slice a m.length cap) m.length (m.map fun p=>dt p.2)∧Below w.heap.size w w':=by
 obtain ⟨i0,hi,e0⟩:=Kw.1 zk;simp only [Kx] at e0;have HI:Hid (Tryz.prog.info? 250=some i0∧i0.zero=some (.pointer none)∧i0.size=1∧i0.bytes=8):=⟨hi,e0⟩
 have HM:Hid (cF w b m∧ ∀ p∈m,(Lit.int .i64 p.1).wf=true):=⟨h,hwf⟩
 have hbl:b < w.heap.size:=h.lt;clear hi e0 h hwf
 go_enter Tryz.func151,Tryz.ntmps151
 go_wp2_with (go_at_call 190; refine (vq _ _).mono ?_; rintro e w' ⟨rfl,rfl⟩);refine (pD (w.heap.size+1) b m _ (by simp) (by simp) (HM.I.1.below (((Kp _ w).alloc (Ki _) _).alloc (by simp) _)) hm).mono ?_;rintro e w2 ⟨v,rfl,hown,hb2⟩;have cy:Hid (Below w.heap.size w w2):=(((Kp _ w).alloc (Ki _) _).alloc (by simp) _).trans (hb2.mono (by simp; omega));have HS:Hid (w2.heap[w.heap.size]? =some (.cells #[.int .i64 Me,.map (some b)] 169 (0,0))):=(hb2.block _ (by simp; omega)).trans ((PU (by simp)).trans (Kj _ _));obtain ⟨a,cap,hv,hrow⟩:=cr hown;have HR:Hid (Row w2 a (m.map fun p=> .int .i64 p.1)):=hrow;rw [hv];clear hv hown hrow hb2 v;go_wp2_with fail
 go_loopw [3,11] (fun l i wr=> ∃ k:Nat,k≤m.length∧i= .int .i64 k∧ ∃ a' cap',l= .slice a' k cap'∧Hid (wr.ownsRow w2.heap.size 250 1 (.slice a' k cap') k ((m.take k).map fun p=>dt p.2)∧Below w2.heap.size w2 wr)) (fun _ i _=>m.length - (intOf i).toNat)
 case atStart=>exact ⟨0,Ky _,rfl,none,0,rfl,⟨Ke _ _ _ _,Kp _ _⟩⟩
 case round=>
  obtain ⟨k,hk,rfl,a',cap',rfl,HO⟩:=hrel;by_cases hlt:k < m.length
  ·have qE:(0:Int)≤(k:Int):=by omega
   have i1:(k:Int) < (m.length:Int):=by omega
   obtain ⟨p,hp⟩: ∃ p,m[k]? =some p:=⟨_,Kz hlt⟩
   have hpm:=KA hp;obtain ⟨g,ha,hc⟩:=(HR.I.below HO.I.2) k (.int .i64 p.1) (by simp [hp]);subst ha;have oE:=cy.I.size;have kT:=HO.I.2.size;have ut:cF wr b m:=HM.I.1.below (cy.I.trans (HO.I.2.mono oE));have hlk:=ut.look Tryz.underlying167 (rE wr) (HM.I.2 p hpm) false;rw [jI ut.2 hpm] at hlk;have hsw:wr.heap[w.heap.size]? =some (.cells #[.int .i64 Me,.map (some b)] 169 (0,0)):=(HO.I.2.block _ (J2.1 HS.I).1).trans HS.I;have s1:wr.cell? ⟨w.heap.size,1,none⟩=some (.map (some b)):=by simp [World.cell?,hsw]
   have HP:Hid (m[k]? =some p):=hp;simp only [qz,dt,J5,if_false] at hlk;clear hp hpm ut hsw;go_wp2_with (at_builtin; refine KD _ rfl _ _ 248 rfl w2.heap.size 250 i0 (.pointer none) 1 8 Tryz.underlying248 HI.I.1 HI.I.2.1 HI.I.2.2.1 HI.I.2.2.2 rfl (by decide) (.slice a' k cap') k ((m.take k).map fun p=>dt p.2) rfl (HO.I.1.alloc _) ⟨wr.heap.size,0,none⟩ 1 1 [.pointer (some ⟨p.2,0,none⟩)] (by rfl) rfl (KE (cs:= #[.pointer (some ⟨p.2,0,none⟩)]) (t:=250) (fr:=(0,0)) (Kj wr _)) (by simp [Value.oneCell']) (by unfold maxLen; omega) (by omega) (by simp; omega) ?_; intro v' w5 hown' hgrow hnil jV; obtain ⟨a5,im,rfl,-⟩:=cr hown'; have HN:Hid (w5.ownsRow w2.heap.size 250 1 (.slice a5 (k+1) im) (k+1) ((m.take (k+1)).map fun p=>dt p.2)∧Below w2.heap.size w2 w5):=⟨by rw [cj HP.I,Kl]; exact hown',(HO.I.2.alloc kT _).grown hgrow (by simp; omega) (fun q hq=>(HO.I.1.lt q hq).1)⟩; clear hown' hgrow hnil jV);go_roundw
   case rel=>exact ⟨k+1,by omega,by go_num,a5,im,rfl,HN⟩
   case measure=>simp [intOf]; omega
  ·have i1: ¬ (k:Int) < (m.length:Int):=by omega
   have e:k=m.length:=by omega
   subst e;go_wp2;go_ret;refine ⟨a',cap',rfl,?_,cy.I.trans (HO.I.2.mono cy.I.size)⟩
   have:=cq HO.I.1 cy.I.size
   rwa [LQ] at this
theorem vL (mb:Option Nat) (W:World):Calls J3 191 #[.map mb] W fun e w'=>e= .returned (.func (.func 221) #[] #[.pointer (some ⟨W.heap.size,0,none⟩)])∧w'=W.alloc (.cells #[.map mb] 170):=
 (LO (n:=5)).1 (RC Tryz.keysBoard Fence.wide 5 trivial rfl mb W)
theorem pB (Bm b:Nat) (m:df) (W:World) (hBm:Bm < W.heap.size) (hc:W.cell? ⟨Bm,0,none⟩=some (.map (some b))) (h:cF W b m) (hm:m.length≤1048576):
  Calls J3 124 #[.func (.func 221) #[] #[.pointer (some ⟨Bm,0,none⟩)]] W fun e w'=> ∃ v:Value,e= .returned v∧w'.ownsRow W.heap.size 2 1 v m.length (m.map fun p=> .int .i64 p.1)∧Below W.heap.size W w':=by
 have hsz:Maps.size (gA m)=m.length:=size_map m;have hseq:SeqGives Fence.wide 2 J3 221 #[.pointer (some ⟨Bm,0,none⟩)] encZ (fun ss=>ss.Perm (intKeys (gA m))) (Maps.size (gA m)) W:=
  RD (ρ:=Tryz.keysBoard_ren) { Tryz.keysBoard with } Fence.wide _ trivial rfl (by omega) Bm b m.length (gA m) W hBm hc h.1
 have cS:=RE Tryz.sortedA Fence.wide 5 trivial trivial trivial trivial rfl (by omega) (Tryz.sortsA _) (LP Tryz.func129 (by kernel_rfl) rfl) 221 #[.pointer (some ⟨Bm,0,none⟩)] trivial (LP Tryz.func221 (by kernel_rfl) rfl) _ _ (by rw [hsz]; unfold maxLen; omega) (by rw [hsz]; omega) _ hseq
 change CallsIn _ _ J3 124 _ _ _ at cS
 refine (LO.1 cS).mono ?_;rintro e w' ⟨v,ss,rfl,hS,hrow,hnil,kj⟩;refine ⟨v,rfl,?_,kj⟩;rw [jG h.2 hS] at hrow;have hl:ss.length=m.length:=by
  rw [hS.length_eq,lU,KG]
 rw [hl,Lv] at hrow;exact hrow
theorem zM:(Tryz.prog.info? 253).map (fun i=>(i.zero,i.size,i.bytes))=some (some (.pointer none),1,8):=by kernel_rfl
theorem yB (Me:Int) (b:Nat) (m:df) (w:World) (h:cF w b m) (hm:m.length≤1048576) (hwf: ∀ p∈m,(Lit.int .i64 p.1).wf=true):
  Calls J3 152 #[.agg #[.int .i64 Me,.map (some b)]] w fun e w'=> ∃ a cap,e= .returned (.slice a m.length cap)∧w'.ownsRow w.heap.size 253 1 (.slice a m.length cap) m.length (m.map fun p=>dt p.2)∧Below w.heap.size w w':=by
 obtain ⟨i0,hi,e0⟩:=Kw.1 zM;simp only [Kx] at e0;have HI:Hid (Tryz.prog.info? 253=some i0∧i0.zero=some (.pointer none)∧i0.size=1∧i0.bytes=8):=⟨hi,e0⟩
 have HM:Hid (cF w b m∧ ∀ p∈m,(Lit.int .i64 p.1).wf=true):=⟨h,hwf⟩
 have hbl:b < w.heap.size:=h.lt;clear hi e0 h hwf
 go_enter Tryz.func152,Tryz.ntmps152
 go_wp2_with (go_at_call 191; refine (vL _ _).mono ?_; rintro e w' ⟨rfl,rfl⟩);refine (pB (w.heap.size+1) b m _ (by simp) (by simp) (HM.I.1.below (((Kp _ w).alloc (Ki _) _).alloc (by simp) _)) hm).mono ?_;rintro e w2 ⟨v,rfl,hown,hb2⟩;have cy:Hid (Below w.heap.size w w2):=(((Kp _ w).alloc (Ki _) _).alloc (by simp) _).trans (hb2.mono (by simp; omega));have HS:Hid (w2.heap[w.heap.size]? =some (.cells #[.int .i64 Me,.map (some b)] 172 (0,0))):=(hb2.block _ (by simp; omega)).trans ((PU (by simp)).trans (Kj _ _));obtain ⟨a,cap,hv,hrow⟩:=cr hown;have HR:Hid (Row w2 a (m.map fun p=> .int .i64 p.1)):=hrow;rw [hv];clear hv hown hrow hb2 v;go_wp2_with fail
 go_loopw [3,11] (fun l i wr=> ∃ k:Nat,k≤m.length∧i= .int .i64 k∧ ∃ a' cap',l= .slice a' k cap'∧Hid (wr.ownsRow w2.heap.size 253 1 (.slice a' k cap') k ((m.take k).map fun p=>dt p.2)∧Below w2.heap.size w2 wr)) (fun _ i _=>m.length - (intOf i).toNat)
 case atStart=>exact ⟨0,Ky _,rfl,none,0,rfl,⟨Ke _ _ _ _,Kp _ _⟩⟩
 case round=>
  obtain ⟨k,hk,rfl,a',cap',rfl,HO⟩:=hrel;by_cases hlt:k < m.length
  ·have qE:(0:Int)≤(k:Int):=by omega
   have i1:(k:Int) < (m.length:Int):=by omega
   obtain ⟨p,hp⟩: ∃ p,m[k]? =some p:=⟨_,Kz hlt⟩
   have hpm:=KA hp;obtain ⟨g,ha,hc⟩:=(HR.I.below HO.I.2) k (.int .i64 p.1) (by simp [hp]);subst ha;have oE:=cy.I.size;have kT:=HO.I.2.size;have ut:cF wr b m:=HM.I.1.below (cy.I.trans (HO.I.2.mono oE));have hlk:=ut.look Tryz.underlying170 (qW wr) (HM.I.2 p hpm) false;rw [jI ut.2 hpm] at hlk;have hsw:wr.heap[w.heap.size]? =some (.cells #[.int .i64 Me,.map (some b)] 172 (0,0)):=(HO.I.2.block _ (J2.1 HS.I).1).trans HS.I;have s1:wr.cell? ⟨w.heap.size,1,none⟩=some (.map (some b)):=by simp [World.cell?,hsw]
   have HP:Hid (m[k]? =some p):=hp;simp only [qz,dt,J5,if_false] at hlk;clear hp hpm ut hsw;go_wp2_with (at_builtin; refine KD _ rfl _ _ 251 rfl w2.heap.size 253 i0 (.pointer none) 1 8 Tryz.underlying251 HI.I.1 HI.I.2.1 HI.I.2.2.1 HI.I.2.2.2 rfl (by decide) (.slice a' k cap') k ((m.take k).map fun p=>dt p.2) rfl (HO.I.1.alloc _) ⟨wr.heap.size,0,none⟩ 1 1 [.pointer (some ⟨p.2,0,none⟩)] (by rfl) rfl (KE (cs:= #[.pointer (some ⟨p.2,0,none⟩)]) (t:=253) (fr:=(0,0)) (Kj wr _)) (by simp [Value.oneCell']) (by unfold maxLen; omega) (by omega) (by simp; omega) ?_; intro v' w5 hown' hgrow hnil jV; obtain ⟨a5,im,rfl,-⟩:=cr hown'; have HN:Hid (w5.ownsRow w2.heap.size 253 1 (.slice a5 (k+1) im) (k+1) ((m.take (k+1)).map fun p=>dt p.2)∧Below w2.heap.size w2 w5):=⟨by rw [cj HP.I,Kl]; exact hown',(HO.I.2.alloc kT _).grown hgrow (by simp; omega) (fun q hq=>(HO.I.1.lt q hq).1)⟩; clear hown' hgrow hnil jV);go_roundw
   case rel=>exact ⟨k+1,by omega,by go_num,a5,im,rfl,HN⟩
   case measure=>simp [intOf]; omega
  ·have i1: ¬ (k:Int) < (m.length:Int):=by omega
   have e:k=m.length:=by omega
   subst e;go_wp2;go_ret;refine ⟨a',cap',rfl,?_,cy.I.trans (HO.I.2.mono cy.I.size)⟩
   have:=cq HO.I.1 cy.I.size
   rwa [LQ] at this
theorem wq (mb:Option Nat) (W:World):Calls J3 193 #[.map mb] W fun e w'=>e= .returned (.func (.func 223) #[] #[.pointer (some ⟨W.heap.size,0,none⟩)])∧w'=W.alloc (.cells #[.map mb] 176):=
 (LO (n:=5)).1 (RC Tryz.keysPort Fence.wide 5 trivial rfl mb W)
theorem pY (Bm b:Nat) (m:df) (W:World) (hBm:Bm < W.heap.size) (hc:W.cell? ⟨Bm,0,none⟩=some (.map (some b))) (h:cF W b m) (hm:m.length≤1048576):
  Calls J3 124 #[.func (.func 223) #[] #[.pointer (some ⟨Bm,0,none⟩)]] W fun e w'=> ∃ v:Value,e= .returned v∧w'.ownsRow W.heap.size 2 1 v m.length (m.map fun p=> .int .i64 p.1)∧Below W.heap.size W w':=by
 have hsz:Maps.size (gA m)=m.length:=size_map m;have hseq:SeqGives Fence.wide 2 J3 223 #[.pointer (some ⟨Bm,0,none⟩)] encZ (fun ss=>ss.Perm (intKeys (gA m))) (Maps.size (gA m)) W:=
  RD (ρ:=Tryz.keysPort_ren) { Tryz.keysPort with } Fence.wide _ trivial rfl (by omega) Bm b m.length (gA m) W hBm hc h.1
 have cS:=RE Tryz.sortedA Fence.wide 5 trivial trivial trivial trivial rfl (by omega) (Tryz.sortsA _) (LP Tryz.func129 (by kernel_rfl) rfl) 223 #[.pointer (some ⟨Bm,0,none⟩)] trivial (LP Tryz.func223 (by kernel_rfl) rfl) _ _ (by rw [hsz]; unfold maxLen; omega) (by rw [hsz]; omega) _ hseq
 change CallsIn _ _ J3 124 _ _ _ at cS
 refine (LO.1 cS).mono ?_;rintro e w' ⟨v,ss,rfl,hS,hrow,hnil,kj⟩;refine ⟨v,rfl,?_,kj⟩;rw [jG h.2 hS] at hrow;have hl:ss.length=m.length:=by
  rw [hS.length_eq,lU,KG]
 rw [hl,Lv] at hrow;exact hrow
theorem BK:(Tryz.prog.info? 203).map (fun i=>(i.zero,i.size,i.bytes))=some (some (.pointer none),1,8):=by kernel_rfl
theorem Bx (Me:Int) (b:Nat) (m:df) (w:World) (h:cF w b m) (hm:m.length≤1048576) (hwf: ∀ p∈m,(Lit.int .i64 p.1).wf=true):
  Calls J3 154 #[.agg #[.int .i64 Me,.map (some b)]] w fun e w'=> ∃ a cap,e= .returned (.slice a m.length cap)∧w'.ownsRow w.heap.size 203 1 (.slice a m.length cap) m.length (m.map fun p=>dt p.2)∧Below w.heap.size w w':=by
 obtain ⟨i0,hi,e0⟩:=Kw.1 BK;simp only [Kx] at e0;have HI:Hid (Tryz.prog.info? 203=some i0∧i0.zero=some (.pointer none)∧i0.size=1∧i0.bytes=8):=⟨hi,e0⟩
 have HM:Hid (cF w b m∧ ∀ p∈m,(Lit.int .i64 p.1).wf=true):=⟨h,hwf⟩
 have hbl:b < w.heap.size:=h.lt;clear hi e0 h hwf
 go_enter Tryz.func154,Tryz.ntmps154
 go_wp2_with (go_at_call 193; refine (wq _ _).mono ?_; rintro e w' ⟨rfl,rfl⟩);refine (pY (w.heap.size+1) b m _ (by simp) (by simp) (HM.I.1.below (((Kp _ w).alloc (Ki _) _).alloc (by simp) _)) hm).mono ?_;rintro e w2 ⟨v,rfl,hown,hb2⟩;have cy:Hid (Below w.heap.size w w2):=(((Kp _ w).alloc (Ki _) _).alloc (by simp) _).trans (hb2.mono (by simp; omega));have HS:Hid (w2.heap[w.heap.size]? =some (.cells #[.int .i64 Me,.map (some b)] 178 (0,0))):=(hb2.block _ (by simp; omega)).trans ((PU (by simp)).trans (Kj _ _));obtain ⟨a,cap,hv,hrow⟩:=cr hown;have HR:Hid (Row w2 a (m.map fun p=> .int .i64 p.1)):=hrow;rw [hv];clear hv hown hrow hb2 v;go_wp2_with fail
 go_loopw [3,11] (fun l i wr=> ∃ k:Nat,k≤m.length∧i= .int .i64 k∧ ∃ a' cap',l= .slice a' k cap'∧Hid (wr.ownsRow w2.heap.size 203 1 (.slice a' k cap') k ((m.take k).map fun p=>dt p.2)∧Below w2.heap.size w2 wr)) (fun _ i _=>m.length - (intOf i).toNat)
 case atStart=>exact ⟨0,Ky _,rfl,none,0,rfl,⟨Ke _ _ _ _,Kp _ _⟩⟩
 case round=>
  obtain ⟨k,hk,rfl,a',cap',rfl,HO⟩:=hrel;by_cases hlt:k < m.length
  ·have qE:(0:Int)≤(k:Int):=by omega
   have i1:(k:Int) < (m.length:Int):=by omega
   obtain ⟨p,hp⟩: ∃ p,m[k]? =some p:=⟨_,Kz hlt⟩
   have hpm:=KA hp;obtain ⟨g,ha,hc⟩:=(HR.I.below HO.I.2) k (.int .i64 p.1) (by simp [hp]);subst ha;have oE:=cy.I.size;have kT:=HO.I.2.size;have ut:cF wr b m:=HM.I.1.below (cy.I.trans (HO.I.2.mono oE));have hlk:=ut.look Tryz.underlying176 (sK wr) (HM.I.2 p hpm) false;rw [jI ut.2 hpm] at hlk;have hsw:wr.heap[w.heap.size]? =some (.cells #[.int .i64 Me,.map (some b)] 178 (0,0)):=(HO.I.2.block _ (J2.1 HS.I).1).trans HS.I;have s1:wr.cell? ⟨w.heap.size,1,none⟩=some (.map (some b)):=by simp [World.cell?,hsw]
   have HP:Hid (m[k]? =some p):=hp;simp only [qz,dt,J5,if_false] at hlk;clear hp hpm ut hsw;go_wp2_with (at_builtin; refine KD _ rfl _ _ 257 rfl w2.heap.size 203 i0 (.pointer none) 1 8 Tryz.underlying257 HI.I.1 HI.I.2.1 HI.I.2.2.1 HI.I.2.2.2 rfl (by decide) (.slice a' k cap') k ((m.take k).map fun p=>dt p.2) rfl (HO.I.1.alloc _) ⟨wr.heap.size,0,none⟩ 1 1 [.pointer (some ⟨p.2,0,none⟩)] (by rfl) rfl (KE (cs:= #[.pointer (some ⟨p.2,0,none⟩)]) (t:=203) (fr:=(0,0)) (Kj wr _)) (by simp [Value.oneCell']) (by unfold maxLen; omega) (by omega) (by simp; omega) ?_; intro v' w5 hown' hgrow hnil jV; obtain ⟨a5,im,rfl,-⟩:=cr hown'; have HN:Hid (w5.ownsRow w2.heap.size 203 1 (.slice a5 (k+1) im) (k+1) ((m.take (k+1)).map fun p=>dt p.2)∧Below w2.heap.size w2 w5):=⟨by rw [cj HP.I,Kl]; exact hown',(HO.I.2.alloc kT _).grown hgrow (by simp; omega) (fun q hq=>(HO.I.1.lt q hq).1)⟩; clear hown' hgrow hnil jV);go_roundw
   case rel=>exact ⟨k+1,by omega,by go_num,a5,im,rfl,HN⟩
   case measure=>simp [intOf]; omega
  ·have i1: ¬ (k:Int) < (m.length:Int):=by omega
   have e:k=m.length:=by omega
   subst e;go_wp2;go_ret;refine ⟨a',cap',rfl,?_,cy.I.trans (HO.I.2.mono cy.I.size)⟩
   have:=cq HO.I.1 cy.I.size
   rwa [LQ] at this
end
end Go.Proofs.YteidkehoekbcaaaGreat
