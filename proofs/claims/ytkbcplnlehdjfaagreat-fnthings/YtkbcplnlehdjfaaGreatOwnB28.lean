/- What the proof leans on, part 28: WithN. -/
import Derived.Test.YtkbcplnlehdjfaaGreatOwnB25
set_option maxRecDepth 100000
set_option maxHeartbeats 8000000

namespace Go.Proofs.YtkbcplnlehdjfaaGreat
open Go.RowKit Go.Maps
section
variable {α:Type} {num:α→Int}
theorem rF {β:Type} {je:β→Int} (f:α→β) (hf: ∀ y,je (f y)=num y) (x:α): ∀ l:List α,(bY num x l).map f=bY je (f x) (l.map f)
 | [] =>rfl
 | y :: r=>by
  simp only [bY,List.map_cons,hf]
  split
  ·simp
  ·simp [rF f hf x r]
theorem AL {x:α} : ∀ {l:List α},(∀ y∈l,¬ num x < num y)→bY num x l=l ++ [x]
 | [],_=>rfl
 | y :: r,h=>by
  simp only [bY,if_neg (h y (by simp)),List.cons_append]
  rw [AL fun z hz=>h z (by simp [hz])]
theorem xv {x:α} : ∀ {l r:List α},(∃ y∈l,num x < num y)→bY num x (l ++ r)=bY num x l ++ r
 | [],_,h=>by obtain ⟨y,hy,_⟩:=h; cases hy
 | y :: l,r,h=>by
  simp only [List.cons_append,bY]
  split
  ·rfl
  ·rename_i hn
   rw [xv,List.cons_append]
   obtain ⟨z,hz,hlt⟩:=h
   rcases List.mem_cons.1 hz with rfl | hz
   ·exact absurd hlt hn
   ·exact ⟨z,hz,hlt⟩
theorem Cp {x y:α} {l:List α} (h: ∀ z∈l,¬ num x < num z) (hy:num x < num y):bY num x (l ++ [y])=l ++ [x] ++ [y] :=by
 induction l with
 | nil=>simp [bY,hy]
 | cons z r ih=>
  simp only [List.cons_append,bY,if_neg (h z (by simp))]
  rw [ih fun u hu=>h u (by simp [hu])]
theorem pz (x:α): ∀ l:List α,(bY num x l).Perm (x :: l)
 | [] =>List.Perm.refl _
 | y :: r=>by
  simp only [bY]
  split
  ·exact List.Perm.refl _
  ·exact (List.Perm.cons y (pz x r)).trans (List.Perm.swap x y r)
def gY (num:α→Int) (x:α) (l:List α) (k:Nat) (dn:Bool) (acc:List α):Prop:=
 (dn=false∧acc=l.take k∧ ∀ y∈l.take k,¬ num x < num y)∨(dn=true∧acc=bY num x (l.take k)∧ ∃ y∈l.take k,num x < num y)
theorem gY.start (x:α) (l:List α):gY num x l 0 false [] := .inl ⟨rfl,by simp,fun y hy=>by simp at hy⟩
theorem gY.on {x y:α} {l:List α} {k:Nat} {acc:List α} (h:gY num x l k true acc) (hy:l[k]? =some y):gY num x l (k+1) true (acc ++ [y]):=by
 rcases h with ⟨h,-⟩ | ⟨-,rfl,z,hz,hlt⟩
 ·cases h
 ·rw [gY,cj hy]
  exact .inr ⟨rfl,(xv ⟨z,hz,hlt⟩).symm,z,List.mem_append_left _ hz,hlt⟩
theorem gY.past {x y:α} {l:List α} {k:Nat} {acc:List α} (h:gY num x l k false acc) (hy:l[k]? =some y) (hn: ¬ num x < num y):gY num x l (k+1) false (acc ++ [y]):=by
 rcases h with ⟨-,rfl,h⟩ | ⟨h,-⟩
 ·rw [gY,cj hy]
  refine .inl ⟨rfl,rfl,fun z hz=> ?_⟩
  rcases List.mem_append.1 hz with hz | hz
  ·exact h z hz
  ·rw [List.mem_singleton.1 hz]; exact hn
 ·cases h
theorem gY.here {x y:α} {l:List α} {k:Nat} {acc:List α} (h:gY num x l k false acc) (hy:l[k]? =some y) (hn:num x < num y):gY num x l (k+1) true (acc ++ [x] ++ [y]):=by
 rcases h with ⟨-,rfl,h⟩ | ⟨h,-⟩
 ·rw [gY,cj hy]
  exact .inr ⟨rfl,(Cp h hn).symm,y,by simp,hn⟩
 ·cases h
theorem gY.done {x:α} {l:List α} {k:Nat} {acc:List α} (h:gY num x l k true acc) (hk: ¬ k < l.length):acc=bY num x l:=by
 rcases h with ⟨h,-⟩ | ⟨-,rfl,-⟩
 ·cases h
 ·rw [List.take_of_length_le (by omega)]
theorem gY.last {x:α} {l:List α} {k:Nat} {acc:List α} (h:gY num x l k false acc) (hk: ¬ k < l.length):acc ++ [x] =bY num x l:=by
 rcases h with ⟨-,rfl,h⟩ | ⟨h,-⟩
 ·rw [List.take_of_length_le (by omega)] at h ⊢
  exact (AL h).symm
 ·cases h
theorem gY.le {x:α} {l:List α} {k:Nat} {dn:Bool} {acc:List α} (h:gY num x l k dn acc):acc.length≤l.length+1:=by
 rcases h with ⟨-,rfl,-⟩ | ⟨-,rfl,-⟩
 ·rw [List.length_take]; omega
 ·rw [er,List.length_take]; omega
end
structure fy {α:Type} (K:Kind α) (T:TypeId) (XV:Array Value) (W w:World) (acc:List α) (a:Option Addr) (c:Nat):Prop where
 own:w.ownsRow W.heap.size T K.n (.slice a acc.length c) acc.length (K.flat acc)
 ne: ∀ g∈blk a,g≠W.heap.size+1
 cd:Below W.heap.size W w
 box:w.heap[W.heap.size+1]? =some (.cells XV T (0,0))
theorem fy.start {α:Type} {K:Kind α} {T:TypeId} {XV:Array Value} {W:World} :fy K T XV W ((W.alloc (.cells #[] T)).alloc (.cells XV T)) [] (some ⟨W.heap.size,0,none⟩) 0:=by
 have b1:Below W.heap.size W (W.alloc (.cells #[] T)):=(Below.refl _ _).alloc (Nat.le_refl _) _
 refine ⟨i6 ((heap_alloc_old _ _ (by simp)).trans (heap_alloc_new _ _)) (Nat.le_refl _),fun g hg=>by simp [blk] at hg; omega,b1.alloc b1.size _,heap_alloc2_new _ _ _⟩
theorem fy.add {α:Type} {K:Kind α} {T:TypeId} {XV:Array Value} {W w:World} {acc:List α} {a:Option Addr} {c:Nat} (h:fy K T XV W w acc a c) (t:TypeId) (bytes:Nat) {z0:Value} {P:Program} (ht:P.underlying t=some (.slice T))
  (hi:(P.info? T).map (fun i=>(i.zero,i.size,i.bytes))=some (some z0,K.n,bytes)) (hz:z0.cells.size=K.n) (hn:0 < K.n) (hby:bytes≤1000) (z:α) (zs:Array Value) (hzs:zs.toList=K.vals z) (h1: ∀ u∈K.vals z,u.oneCell'=true) (hl:acc.length≤2000000):
  ∃ a' c' w',(Builtin.append_ #[t,t] t #[.slice a acc.length c,.slice (some ⟨w.heap.size,0,none⟩) 1 1]).run P (w.alloc (.cells zs T))= .ok (.slice a' (acc.length+1) c') w'∧fy K T XV W w' (acc ++ [z]) a' c':=by
 obtain ⟨i,hi,e⟩:=Option.map_eq_some_iff.1 hi
 simp only [Prod.mk.injEq] at e
 have b1:Below w.heap.size w (w.alloc (.cells zs T)):=(Below.refl _ _).alloc (Nat.le_refl _) _
 have b2:=h.cd.trans (b1.mono h.cd.size)
 have hlt:=(Array.getElem?_eq_some_iff.1 h.box).1
 obtain ⟨a',c',w',hr,ho,hg,hq⟩:=jD (P:=P) (w.alloc (.cells zs T)) W.heap.size t t T i z0 K.n bytes ht hi e.1 e.2.1 e.2.2 hz hn a acc.length c _ (cR h.own b1) (some ⟨w.heap.size,0,none⟩) 1 1 (K.vals z) (by rw [← hzs]; exact jO (heap_alloc_new _ _)) (by rw [K.len,Nat.one_mul]) h1 (by omega) hby b2.size
 refine ⟨a',c',w',hr,⟨?_,fun g hg2=> ?_,b2.grown hg b2.size fun k e=>(cf h.own (di e)).1,?_⟩⟩
 ·have e1:(acc ++ [z]).length=acc.length+1:=by simp
  rw [e1,K.dc]
  have e2:K.flat [z] =K.vals z:=by simp [Kind.flat]
  rw [e2]
  exact ho
 ·rcases hq g hg2 with h5 | h5
  ·exact h.ne g h5
  ·rw [h5]; have:=b1.size; omega
 ·refine (hg.block _ (by simp; omega) (fun e=> ?_)).trans ((b1.block _ hlt).trans h.box)
  exact h.ne _ (di e.symm) rfl
theorem oS {Z A A' C C' R:List Nat} (h:(Z ++ (A ++ (C ++ R))).Nodup) (hA:A'.Nodup) (hC:C'.Nodup) (h1: ∀ g∈A',g∉Z ++ (A ++ (C ++ R))∧g∉C') (h2: ∀ g∈C',g∈C∨g∉Z ++ (A ++ (C ++ R))):(Z ++ (A' ++ (C' ++ R))).Nodup:=by
 simp only [List.mem_append,not_or] at h1 h2
 simp only [List.nodup_append,List.mem_append] at h ⊢
 obtain ⟨hz,⟨-,⟨-,hR,hCR⟩,-⟩,hzz⟩:=h
 refine ⟨hz,⟨hA,⟨hC,hR,fun a ha b hb e=> ?_⟩,fun a ha b hb e=> ?_⟩,fun a ha b hb e=> ?_⟩
 ·rcases h2 a ha with h5 | h5
  ·exact hCR a h5 b hb e
  ·exact h5.2.2.2 (e ▸ hb)
 ·rcases hb with hb | hb
  ·exact (h1 a ha).2 (e ▸ hb)
  ·exact (h1 a ha).1.2.2.2 (e ▸ hb)
 ·rcases hb with hb | hb | hb
  ·exact (h1 b hb).1.1 (e ▸ ha)
  ·rcases h2 b hb with h5 | h5
   ·exact hzz a ha b (.inr (.inl h5)) e
   ·exact h5.1 (e ▸ ha)
  ·exact hzz a ha b (.inr (.inr hb)) e
theorem rB {x:ao} : ∀ u∈bg.vals x,u.oneCell'=true:=fun u hu=>by
 simp only [bg,qN,List.mem_cons,List.not_mem_nil,or_false] at hu
 rcases hu with rfl | rfl | rfl | rfl | rfl | rfl | rfl | rfl | rfl | rfl | rfl | rfl <;> rfl
theorem ap.IX {w w':World} {base B:Nat} {q:af} {l:List ao} {a':Option Addr} {c':Nat} (h:ap w base q) (hb:base≤B) (hB: ∀ g∈q.blocks,g < B) (hs: ∀ g∈q.blocks,w'.heap[g]? =w.heap[g]?)
  (ho:w'.ownsRow B 43 12 (.slice a' l.length c') l.length (bg.flat l)) (hm: ∀ x∈l,aR.cO w' base x) (hn:(l.filterMap aR.bt).Nodup) (hk: ∀ g∈l.filterMap aR.bt,g∈q.procs.filterMap aR.bt∨g∉q.blocks) (hk2: ∀ g∈l.filterMap aR.bt,g < B):ap w' base ({ q with procs:=l,aN:=a',aW:=c' } :af):=by
 refine ⟨cq ho hb,aL h.aj fun g hg=>hs g (by simp [af.blocks,hg]),aL h.events fun g hg=>hs g (by simp [af.blocks,hg]),aL h.ag fun g hg=>hs g (by simp [af.blocks,hg]),aL h.ae fun g hg=>hs g (by simp [af.blocks,hg]),aL h.ai fun g hg=>hs g (by simp [af.blocks,hg]),hm,fun x hx=>(h.eE x hx).same fun g hg=>hs g ?_,fun x hx=>(h.eR x hx).same fun g hg=>hs g ?_,?_⟩
 ·simp only [af.blocks,List.mem_append,List.mem_filterMap]
  exact .inr (.inr (.inr (.inr (.inr (.inr (.inl ⟨x,hx,hg⟩))))))
 ·simp only [af.blocks,List.mem_append,List.mem_filterMap]
  exact .inr (.inr (.inr (.inr (.inr (.inr (.inr (.inr ⟨x,hx,hg⟩)))))))
 ·have h5:=h.nodup
  have h6: ∀ g∈blk a',g∉q.blocks∧g∉l.filterMap aR.bt:=fun g hg=>⟨fun hm=>by have:=(cf ho hg).1; have:=hB g hm; omega,fun hm=>by have:=(cf ho hg).1; have:=hk2 g hm; omega⟩
  have e1:({ q with procs:=l,aN:=a',aW:=c' } :af).blocks=([] :List Nat) ++ (blk a' ++ (l.filterMap aR.bt ++ (blk q.bc ++ (blk q.ay ++ (blk q.ax ++ (blk q.am ++ (q.ae.filterMap aC.bt ++ (blk q.aK ++ (q.ai.filterMap aU.bt))))))))):=by simp [af.blocks]
  have e3:q.blocks=([] :List Nat) ++ (blk q.aN ++ (q.procs.filterMap aR.bt ++ (blk q.bc ++ (blk q.ay ++ (blk q.ax ++ (blk q.am ++ (q.ae.filterMap aC.bt ++ (blk q.aK ++ (q.ai.filterMap aU.bt))))))))):=by simp [af.blocks]
  rw [e1]
  rw [e3] at h5 h6 hk
  exact oS h5 (fN _) hn h6 hk
theorem nz {x:au} : ∀ u∈bm.vals x,u.oneCell'=true:=fun u hu=>by
 simp only [bm,nD,List.mem_cons,List.not_mem_nil,or_false] at hu
 rcases hu with rfl | rfl | rfl <;> rfl
theorem ap.Eu {w w':World} {base B:Nat} {q:af} {l:List au} {a':Option Addr} {c':Nat} (h:ap w base q) (hb:base≤B) (hB: ∀ g∈q.blocks,g < B) (hs: ∀ g∈q.blocks,w'.heap[g]? =w.heap[g]?)
  (ho:w'.ownsRow B 144 3 (.slice a' l.length c') l.length (bm.flat l)) (hm: ∀ x∈l,aC.cO w' base x) (hn:(l.filterMap aC.bt).Nodup) (hk: ∀ g∈l.filterMap aC.bt,g∈q.ae.filterMap aC.bt∨g∉q.blocks) (hk2: ∀ g∈l.filterMap aC.bt,g < B):ap w' base ({ q with ae:=l,am:=a',aG:=c' } :af):=by
 refine ⟨aL h.procs fun g hg=>hs g (by simp [af.blocks,hg]),aL h.aj fun g hg=>hs g (by simp [af.blocks,hg]),aL h.events fun g hg=>hs g (by simp [af.blocks,hg]),aL h.ag fun g hg=>hs g (by simp [af.blocks,hg]),cq ho hb,aL h.ai fun g hg=>hs g (by simp [af.blocks,hg]),fun x hx=>(h.eI x hx).same fun g hg=>hs g ?_,hm,fun x hx=>(h.eR x hx).same fun g hg=>hs g ?_,?_⟩
 ·simp only [af.blocks,List.mem_append,List.mem_filterMap]
  exact .inr (.inl ⟨x,hx,hg⟩)
 ·simp only [af.blocks,List.mem_append,List.mem_filterMap]
  exact .inr (.inr (.inr (.inr (.inr (.inr (.inr (.inr ⟨x,hx,hg⟩)))))))
 ·have h5:=h.nodup
  have h6: ∀ g∈blk a',g∉q.blocks∧g∉l.filterMap aC.bt:=fun g hg=>⟨fun hm=>by have:=(cf ho hg).1; have:=hB g hm; omega,fun hm=>by have:=(cf ho hg).1; have:=hk2 g hm; omega⟩
  have e1:({ q with ae:=l,am:=a',aG:=c' } :af).blocks=(blk q.aN ++ (q.procs.filterMap aR.bt ++ (blk q.bc ++ (blk q.ay ++ (blk q.ax))))) ++ (blk a' ++ (l.filterMap aC.bt ++ (blk q.aK ++ (q.ai.filterMap aU.bt)))):=by simp [af.blocks]
  have e3:q.blocks=(blk q.aN ++ (q.procs.filterMap aR.bt ++ (blk q.bc ++ (blk q.ay ++ (blk q.ax))))) ++ (blk q.am ++ (q.ae.filterMap aC.bt ++ (blk q.aK ++ (q.ai.filterMap aU.bt)))):=by simp [af.blocks]
  rw [e1]
  rw [e3] at h5 h6 hk
  exact oS h5 (fN _) hn h6 hk
theorem qX {x:aM} : ∀ u∈bX.vals x,u.oneCell'=true:=fun u hu=>by
 simp only [bX,qT,List.mem_cons,List.not_mem_nil,or_false] at hu
 rcases hu with rfl | rfl | rfl | rfl | rfl <;> rfl
theorem ap.Jb {w w':World} {base B:Nat} {q:af} {l:List aM} {a':Option Addr} {c':Nat} (h:ap w base q) (hb:base≤B) (hB: ∀ g∈q.blocks,g < B) (hs: ∀ g∈q.blocks,w'.heap[g]? =w.heap[g]?)
  (ho:w'.ownsRow B 61 5 (.slice a' l.length c') l.length (bX.flat l)) (hm: ∀ x∈l,aU.cO w' base x) (hn:(l.filterMap aU.bt).Nodup) (hk: ∀ g∈l.filterMap aU.bt,g∈q.ai.filterMap aU.bt∨g∉q.blocks) (hk2: ∀ g∈l.filterMap aU.bt,g < B):ap w' base ({ q with ai:=l,aK:=a',aV:=c' } :af):=by
 refine ⟨aL h.procs fun g hg=>hs g (by simp [af.blocks,hg]),aL h.aj fun g hg=>hs g (by simp [af.blocks,hg]),aL h.events fun g hg=>hs g (by simp [af.blocks,hg]),aL h.ag fun g hg=>hs g (by simp [af.blocks,hg]),aL h.ae fun g hg=>hs g (by simp [af.blocks,hg]),cq ho hb,fun x hx=>(h.eI x hx).same fun g hg=>hs g ?_,fun x hx=>(h.eE x hx).same fun g hg=>hs g ?_,hm,?_⟩
 ·simp only [af.blocks,List.mem_append,List.mem_filterMap]
  exact .inr (.inl ⟨x,hx,hg⟩)
 ·simp only [af.blocks,List.mem_append,List.mem_filterMap]
  exact .inr (.inr (.inr (.inr (.inr (.inr (.inl ⟨x,hx,hg⟩))))))
 ·have h5:=h.nodup
  have h6: ∀ g∈blk a',g∉q.blocks∧g∉l.filterMap aU.bt:=fun g hg=>⟨fun hm=>by have:=(cf ho hg).1; have:=hB g hm; omega,fun hm=>by have:=(cf ho hg).1; have:=hk2 g hm; omega⟩
  have e1:({ q with ai:=l,aK:=a',aV:=c' } :af).blocks=(blk q.aN ++ (q.procs.filterMap aR.bt ++ (blk q.bc ++ (blk q.ay ++ (blk q.ax ++ (blk q.am ++ (q.ae.filterMap aC.bt))))))) ++ (blk a' ++ (l.filterMap aU.bt ++ ([] :List Nat))):=by simp [af.blocks]
  have e3:q.blocks=(blk q.aN ++ (q.procs.filterMap aR.bt ++ (blk q.bc ++ (blk q.ay ++ (blk q.ax ++ (blk q.am ++ (q.ae.filterMap aC.bt))))))) ++ (blk q.aK ++ (q.ai.filterMap aU.bt ++ ([] :List Nat))):=by simp [af.blocks]
  rw [e1]
  rw [e3] at h5 h6 hk
  exact oS h5 (fN _) hn h6 hk
end Go.Proofs.YtkbcplnlehdjfaaGreat
