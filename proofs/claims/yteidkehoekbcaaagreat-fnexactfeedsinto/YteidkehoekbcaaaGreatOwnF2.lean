/- What the proof leans on, part 2. -/
import Derived.Test.YteidkehoekbcaaaGreatOwnF0
set_option maxRecDepth 100000
set_option maxHeartbeats 8000000
open List renaming filterMap_append->LW,filterMap_cons->LH,mem_append->Kg,mem_append_left->Lz,mem_append_right->Ly,mem_cons->Kt,mem_cons_of_mem->LB,mem_filterMap->Lq,nodup_cons->Lp

namespace Go.Proofs.YteidkehoekbcaaaGreat
open Go.RowKit
section
variable {α:Type} {N:gd α} {w w':World} {base g:Nat} {A B:List α} {x y:α}
structure fp (N:gd α) (w:World) (base g:Nat) (l:List α):Prop where
 mine: ∀ z∈l,N.cO w base z
 nodup:(g :: l.filterMap N.bt).Nodup
theorem fp.keep {l:List α} (h:fp N w base g l) (hk:aI w w' [g]):fp N w' base g l:=
 ⟨fun z hz=>(h.mine z hz).same fun b hb=>hk.same b ((h.mine z hz).lt hb).2 fun hm=>by
  simp only [Kt,List.not_mem_nil,or_false] at hm;subst hm;exact (Lp.1 h.nodup).1 (Lq.2 ⟨z,hz,hb⟩),h.nodup⟩
theorem fp.ju (h:fp N w base g (A ++ x :: B)) (hk:N.bt y=N.bt x) (hm:N.cO w base y):fp N w base g (A ++ y :: B):=by
 refine ⟨fun z hz=> ?_,?_⟩
 ·rcases Kg.1 hz with hz | hz
  ·exact h.mine z (Lz _ hz)
  ·rcases Kt.1 hz with rfl | hz
   ·exact hm
   ·exact h.mine z (Ly _ (LB _ hz))
 ·have:=h.nodup
  rw [LW,LH] at this ⊢;rw [hk];exact this
theorem fp.inner (h:fp N w base g (A ++ x :: B)) (hw:aI w w' (blk (N.ad x))) (hk:N.bt y=N.bt x) (hm:N.cO w' base y):fp N w' base g (A ++ y :: B):=by
 have hmem: ∀ b,b∈blk (N.ad x)↔N.bt x=some b:=fun b=>fZ
 have hn:=(Lp.1 h.nodup).2;rw [LW] at hn;have key: ∀ z∈A ++ B,∀ b,N.bt z=some b→ ¬ N.bt x=some b:=fun z hz b hb hx=>by
  rw [List.nodup_append] at hn;rcases Kg.1 hz with hz | hz
  ·exact hn.2.2 b (Lq.2 ⟨z,hz,hb⟩) b (Lq.2 ⟨x,by simp,hx⟩) rfl
  ·have h2:=hn.2.1
   rw [LH,hx,Lp] at h2;exact h2.1 (Lq.2 ⟨z,hz,hb⟩)
 have hz: ∀ z∈A ++ B,N.cO w base z→N.cO w' base z:=fun z hz hmz=>hmz.same fun b hb=>hw.same b (hmz.lt hb).2 fun hm'=>key z hz b hb ((hmem b).1 hm')
 refine ⟨fun z hz'=> ?_,?_⟩
 ·rcases Kg.1 hz' with h1 | h1
  ·exact hz z (Lz _ h1) (h.mine z (Lz _ h1))
  ·rcases Kt.1 h1 with rfl | h1
   ·exact hm
   ·exact hz z (Ly _ h1) (h.mine z (Ly _ (LB _ h1)))
 ·have:=h.nodup
  rw [LW,LH] at this ⊢;rw [hk];exact this
theorem fp.apart {l:List α} (h:fp N w base g l) {z:α} (hz:z∈l):g∉blk (N.ad z):=fun hm=>
 (Lp.1 h.nodup).1 (Lq.2 ⟨z,hz,fZ.1 hm⟩)
end
end Go.Proofs.YteidkehoekbcaaaGreat
