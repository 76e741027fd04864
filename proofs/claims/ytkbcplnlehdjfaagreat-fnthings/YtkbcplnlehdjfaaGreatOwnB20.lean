/- What the proof leans on, part 20: MkProc, MkBuffer, MkPort, LwBase, TdProc, TdSem, TdEvent, TdBoard, TdBuffer, TdPort, MkHProc, L3Copy1, TdPart. -/
import Derived.Test.YtkbcplnlehdjfaaGreatOwnB2
import Derived.Test.YtkbcplnlehdjfaaGreatOwnB11
import Derived.Test.YtkbcplnlehdjfaaGreatOwnB13
import Derived.Test.YtkbcplnlehdjfaaGreatOwnB18
import Derived.Test.YtkbcplnlehdjfaaGreatOwnB19
import Derived.Deep.RegionHeld
import Derived.Laws.CopyOwn
set_option maxRecDepth 100000
set_option maxHeartbeats 8000000

namespace Go.Proofs.YtkbcplnlehdjfaaGreat
open Go.RowKit
attribute [local go_sem ↓] Go.wp_at_zero Go.wp_at_succ
end Go.Proofs.YtkbcplnlehdjfaaGreat
namespace Go.Proofs.YtkbcplnlehdjfaaGreat
open Go.RowKit
end Go.Proofs.YtkbcplnlehdjfaaGreat
namespace Go.Proofs.YtkbcplnlehdjfaaGreat
open Go.RowKit Go.Maps
end Go.Proofs.YtkbcplnlehdjfaaGreat
namespace Go.Proofs.YtkbcplnlehdjfaaGreat
open Go.RowKit
attribute [local go_sem ↓] Go.wp_at_zero Go.wp_at_succ
end Go.Proofs.YtkbcplnlehdjfaaGreat
namespace Go.Proofs.YtkbcplnlehdjfaaGreat
open Go.RowKit
def four (a b c d:List Nat):Nat→List Nat
 | 0=>a
 | 1=>b
 | 2=>c
 | 3=>d
 | _=> []
structure mJ (n0 n:Nat) (X:Nat→List Nat):Prop where
 apart: ∀ i j,i≠j→ ∀ q∈X i,q∉X j
 xy: ∀ i,∀ q∈X i,n0≤q∧q < n
theorem mJ.up {n0 n n':Nat} {X X':Nat→List Nat} (h:mJ n0 n X) (k:Nat) (hk: ∀ j,j≠k→X' j=X j) (hx: ∀ q∈X' k,q∈X k∨q=n) (hn:n < n') (h0:n0≤n):mJ n0 n' X':=by
 refine ⟨fun i j hij q hi hj=> ?_,fun i q hi=> ?_⟩
 ·by_cases ei:i=k
  ·subst ei
   rw [hk j (Ne.symm hij)] at hj
   rcases hx q hi with h1 | rfl
   ·exact h.apart i j hij q h1 hj
   ·have:=(h.xy j q hj).2; omega
  ·rw [hk i ei] at hi
   by_cases ej:j=k
   ·subst ej
    rcases hx q hj with h1 | rfl
    ·exact h.apart i j hij q hi h1
    ·have:=(h.xy i q hi).2; omega
   ·rw [hk j ej] at hj
    exact h.apart i j hij q hi hj
 ·by_cases ei:i=k
  ·subst ei
   rcases hx q hi with h1 | rfl
   ·have:=h.xy i q h1; omega
   ·omega
  ·rw [hk i ei] at hi
   have:=h.xy i q hi
   omega
theorem mJ.mono {n0 n n':Nat} {X:Nat→List Nat} (h:mJ n0 n X) (hn:n≤n'):mJ n0 n' X:=⟨h.apart,fun i q hq=>by have:=h.xy i q hq; omega⟩
structure fI (p:af) (We w:World) (b0 d0 b1 d1 b2 d2 b3 d3 e:Bool) (g0 g1 g2 o:Nat) (a0 a1 a2:Option Addr) (c0 c1 c2:Nat):Prop where
 cd:Below We.heap.size We w
 part:av w We.heap.size p
 ret:w.heap[We.heap.size+1]? =some (.cells ar 32 (0,0))
 s0:su w (We.heap.size+2) 49 3 p.aj.length (dm.flat p.aj) b0 d0 g0 a0 c0
 s1:su w (We.heap.size+2) 138 2 p.events.length (bJ.flat p.events) b1 d1 g1 a1 c1
 s2:su w (We.heap.size+2) 141 3 p.ag.length (bG.flat p.ag) b2 d2 g2 a2 c2
 out:b3=true→w.heap[o]? =some (.cells (bif d3 then #[.int .i64 p.id,.int .i64 p.next,.slice none 0 0,.slice a0 p.aj.length c0,.slice a1 p.events.length c1,.slice a2 p.ag.length c2,.slice none 0 0,.slice none 0 0] else ar) 32 (0,0))
 cl:(e=true→d0=true∧d1=true∧d2=true)∧(d3=true→e=true∧b3=true)
 size:We.heap.size+2≤w.heap.size
 pR:mJ (We.heap.size+2) w.heap.size (four (bM b0 d0 g0 a0) (bM b1 d1 g1 a1) (bM b2 d2 g2 a2) (bif b3 then [o] else []))
section
variable {p:af} {We w:World} {b0 d0 b1 d1 b2 d2 b3 d3 e:Bool} {g0 g1 g2 o:Nat} {a0 a1 a2:Option Addr} {c0 c1 c2:Nat}
theorem fI.make0 (h:fI p We w false d0 b1 d1 b2 d2 b3 d3 e g0 g1 g2 o a0 a1 a2 c0 c1 c2):fI p We (w.alloc (.cells #[] 49)) true d0 b1 d1 b2 d2 b3 d3 e w.heap.size g1 g2 o a0 a1 a2 c0 c1 c2:=by
 have hb:Below w.heap.size w (w.alloc (.cells #[] 49)):=(Below.refl _ _).alloc (Nat.le_refl _) _
 have hlt: ∀ i,∀ q∈four (bM false d0 g0 a0) (bM b1 d1 g1 a1) (bM b2 d2 g2 a2) (bif b3 then [o] else []) i,q < w.heap.size:=fun i q hq=>(h.pR.xy i q hq).2
 exact ⟨h.cd.trans (hb.mono h.cd.size),h.part.below hb,(hb.block _ (by have:=h.size; omega)).trans h.ret,⟨fun _ hd=>⟨heap_alloc_new _ _,h.size⟩,fun hd=>aL (h.s0.done hd) fun q hq=>hb.block q (hlt 0 q (by subst hd; simpa [four,bM] using hq))⟩,h.s1.same fun q hq=>hb.block q (hlt 1 q hq),h.s2.same fun q hq=>hb.block q (hlt 2 q hq),fun e=>(hb.block _ (hlt 3 o (by simp [four,e]))).trans (h.out e),h.cl,by have:=h.size; simp; omega,h.pR.up 0 (fun j hj=>by rcases j with _ | _ | _ | _ | _ <;> first | rfl | exact absurd rfl hj) (fun q hq=>by cases d0 with | true=>exact .inl (by simpa [four,bM] using hq) | false=>exact .inr (by simpa [four,bM] using hq)) (by simp) h.size⟩
theorem fI.make1 (h:fI p We w b0 d0 false d1 b2 d2 b3 d3 e g0 g1 g2 o a0 a1 a2 c0 c1 c2):fI p We (w.alloc (.cells #[] 138)) b0 d0 true d1 b2 d2 b3 d3 e g0 w.heap.size g2 o a0 a1 a2 c0 c1 c2:=by
 have hb:Below w.heap.size w (w.alloc (.cells #[] 138)):=(Below.refl _ _).alloc (Nat.le_refl _) _
 have hlt: ∀ i,∀ q∈four (bM b0 d0 g0 a0) (bM false d1 g1 a1) (bM b2 d2 g2 a2) (bif b3 then [o] else []) i,q < w.heap.size:=fun i q hq=>(h.pR.xy i q hq).2
 exact ⟨h.cd.trans (hb.mono h.cd.size),h.part.below hb,(hb.block _ (by have:=h.size; omega)).trans h.ret,h.s0.same fun q hq=>hb.block q (hlt 0 q hq),⟨fun _ hd=>⟨heap_alloc_new _ _,h.size⟩,fun hd=>aL (h.s1.done hd) fun q hq=>hb.block q (hlt 1 q (by subst hd; simpa [four,bM] using hq))⟩,h.s2.same fun q hq=>hb.block q (hlt 2 q hq),fun e=>(hb.block _ (hlt 3 o (by simp [four,e]))).trans (h.out e),h.cl,by have:=h.size; simp; omega,h.pR.up 1 (fun j hj=>by rcases j with _ | _ | _ | _ | _ <;> first | rfl | exact absurd rfl hj) (fun q hq=>by cases d1 with | true=>exact .inl (by simpa [four,bM] using hq) | false=>exact .inr (by simpa [four,bM] using hq)) (by simp) h.size⟩
theorem fI.make2 (h:fI p We w b0 d0 b1 d1 false d2 b3 d3 e g0 g1 g2 o a0 a1 a2 c0 c1 c2):fI p We (w.alloc (.cells #[] 141)) b0 d0 b1 d1 true d2 b3 d3 e g0 g1 w.heap.size o a0 a1 a2 c0 c1 c2:=by
 have hb:Below w.heap.size w (w.alloc (.cells #[] 141)):=(Below.refl _ _).alloc (Nat.le_refl _) _
 have hlt: ∀ i,∀ q∈four (bM b0 d0 g0 a0) (bM b1 d1 g1 a1) (bM false d2 g2 a2) (bif b3 then [o] else []) i,q < w.heap.size:=fun i q hq=>(h.pR.xy i q hq).2
 exact ⟨h.cd.trans (hb.mono h.cd.size),h.part.below hb,(hb.block _ (by have:=h.size; omega)).trans h.ret,h.s0.same fun q hq=>hb.block q (hlt 0 q hq),h.s1.same fun q hq=>hb.block q (hlt 1 q hq),⟨fun _ hd=>⟨heap_alloc_new _ _,h.size⟩,fun hd=>aL (h.s2.done hd) fun q hq=>hb.block q (hlt 2 q (by subst hd; simpa [four,bM] using hq))⟩,fun e=>(hb.block _ (hlt 3 o (by simp [four,e]))).trans (h.out e),h.cl,by have:=h.size; simp; omega,h.pR.up 2 (fun j hj=>by rcases j with _ | _ | _ | _ | _ <;> first | rfl | exact absurd rfl hj) (fun q hq=>by cases d2 with | true=>exact .inl (by simpa [four,bM] using hq) | false=>exact .inr (by simpa [four,bM] using hq)) (by simp) h.size⟩
theorem fI.copy0 {w2:World} {a:Option Addr} {c:Nat} (h:fI p We w true false b1 d1 b2 d2 b3 d3 e g0 g1 g2 o a0 a1 a2 c0 c1 c2) (ho:w2.ownsRow (We.heap.size+2) 49 3 (.slice a p.aj.length c) p.aj.length (dm.flat p.aj)) (hg:w.grownBy w2 (some g0)) (hq: ∀ q∈blk a,q=g0∨q=w.heap.size):fI p We w2 true true b1 d1 b2 d2 b3 d3 e g0 g1 g2 o a a1 a2 c c1 c2:=by
 have hlt: ∀ i,∀ q∈four (bM true false g0 a0) (bM b1 d1 g1 a1) (bM b2 d2 g2 a2) (bif b3 then [o] else []) i,q < w.heap.size:=fun i q hq=>(h.pR.xy i q hq).2
 have hgl:We.heap.size+2≤g0∧g0 < w.heap.size:=h.pR.xy 0 g0 (by simp [four,bM])
 have hne: ∀ i,i≠0→ ∀ q∈four (bM true false g0 a0) (bM b1 d1 g1 a1) (bM b2 d2 g2 a2) (bif b3 then [o] else []) i,w2.heap[q]? =w.heap[q]? :=fun i hi q hq=>hg.block q (hlt i q hq) fun e=>h.pR.apart i 0 hi q hq (by rw [Option.some.inj e]; simp [four,bM])
 have hbe:Below We.heap.size We w2:=h.cd.grown hg (by have:=h.size; omega) (fun k hk=>by cases hk; omega)
 have he:e=false:=by cases e with | false=>rfl | true=>have:=h.cl.1 rfl; simp at this
 have hd:d3=false:=by cases hx:d3 with | false=>rfl | true=>rw [(h.cl.2 hx).1] at he; cases he
 subst he hd
 have hz:=hg.size
 have hsz:=h.size
 refine ⟨hbe,(hg.block _ (by omega) (fun e=>by have:=Option.some.inj e; omega)).trans h.part,(hg.block _ (by omega) (fun e=>by have:=Option.some.inj e; omega)).trans h.ret,⟨(fun _ hd=>by cases hd),fun _=>ho⟩,h.s1.same fun q hq=>hne 1 (by decide) q hq,h.s2.same fun q hq=>hne 2 (by decide) q hq,fun e=>(hne 3 (by decide) o (by simp [four,e])).trans (h.out e),⟨(fun e=>by cases e),fun e=>by cases e⟩,by omega,?_⟩
 by_cases hnew: ∃ q∈blk a,q=w.heap.size
 ·obtain ⟨q0,nu,hqe⟩:=hnew
  have hw2:=(cf ho nu).2
  refine h.pR.up 0 (fun j hj=>by rcases j with _ | _ | _ | _ | _ <;> first | rfl | exact absurd rfl hj) (fun q hq'=> ?_) (by omega) hsz
  have h5:q∈blk a:=by simpa [four,bM] using hq'
  rcases hq q h5 with h6 | h6
  ·exact .inl (by rw [h6]; simp [four,bM])
  ·exact .inr h6
 ·have hall: ∀ q∈blk a,q=g0:=fun q hq'=>(hq q hq').resolve_right fun e=>hnew ⟨q,hq',e⟩
  refine mJ.mono (n:=w.heap.size) ⟨fun i i2 hij q hi hi2=> ?_,fun i q hi=> ?_⟩ hz
  ·have e1: ∀ i,∀ q∈four (bM true true g0 a) (bM b1 d1 g1 a1) (bM b2 d2 g2 a2) (bif b3 then [o] else []) i,q∈four (bM true false g0 a0) (bM b1 d1 g1 a1) (bM b2 d2 g2 a2) (bif b3 then [o] else []) i:=fun i q hq'=>by
    by_cases ei:i=0
    ·subst ei
     have h5:q∈blk a:=by simpa [four,bM] using hq'
     rw [hall q h5]
     simp [four,bM]
    ·rcases i with _ | _ | _ | _ | _ <;> first | exact hq' | exact absurd rfl ei
   exact h.pR.apart i i2 hij q (e1 i q hi) (e1 i2 q hi2)
  ·by_cases ei:i=0
   ·subst ei
    have h5:q∈blk a:=by simpa [four,bM] using hi
    rw [hall q h5]
    exact hgl
   ·exact h.pR.xy i q (by rcases i with _ | _ | _ | _ | _ <;> first | exact hi | exact absurd rfl ei)
theorem fI.copy1 {w2:World} {a:Option Addr} {c:Nat} (h:fI p We w b0 d0 true false b2 d2 b3 d3 e g0 g1 g2 o a0 a1 a2 c0 c1 c2) (ho:w2.ownsRow (We.heap.size+2) 138 2 (.slice a p.events.length c) p.events.length (bJ.flat p.events)) (hg:w.grownBy w2 (some g1)) (hq: ∀ q∈blk a,q=g1∨q=w.heap.size):fI p We w2 b0 d0 true true b2 d2 b3 d3 e g0 g1 g2 o a0 a a2 c0 c c2:=by
 have hlt: ∀ i,∀ q∈four (bM b0 d0 g0 a0) (bM true false g1 a1) (bM b2 d2 g2 a2) (bif b3 then [o] else []) i,q < w.heap.size:=fun i q hq=>(h.pR.xy i q hq).2
 have hgl:We.heap.size+2≤g1∧g1 < w.heap.size:=h.pR.xy 1 g1 (by simp [four,bM])
 have hne: ∀ i,i≠1→ ∀ q∈four (bM b0 d0 g0 a0) (bM true false g1 a1) (bM b2 d2 g2 a2) (bif b3 then [o] else []) i,w2.heap[q]? =w.heap[q]? :=fun i hi q hq=>hg.block q (hlt i q hq) fun e=>h.pR.apart i 1 hi q hq (by rw [Option.some.inj e]; simp [four,bM])
 have hbe:Below We.heap.size We w2:=h.cd.grown hg (by have:=h.size; omega) (fun k hk=>by cases hk; omega)
 have he:e=false:=by cases e with | false=>rfl | true=>have:=h.cl.1 rfl; simp at this
 have hd:d3=false:=by cases hx:d3 with | false=>rfl | true=>rw [(h.cl.2 hx).1] at he; cases he
 subst he hd
 have hz:=hg.size
 have hsz:=h.size
 refine ⟨hbe,(hg.block _ (by omega) (fun e=>by have:=Option.some.inj e; omega)).trans h.part,(hg.block _ (by omega) (fun e=>by have:=Option.some.inj e; omega)).trans h.ret,h.s0.same fun q hq=>hne 0 (by decide) q hq,⟨(fun _ hd=>by cases hd),fun _=>ho⟩,h.s2.same fun q hq=>hne 2 (by decide) q hq,fun e=>(hne 3 (by decide) o (by simp [four,e])).trans (h.out e),⟨(fun e=>by cases e),fun e=>by cases e⟩,by omega,?_⟩
 by_cases hnew: ∃ q∈blk a,q=w.heap.size
 ·obtain ⟨q0,nu,hqe⟩:=hnew
  have hw2:=(cf ho nu).2
  refine h.pR.up 1 (fun j hj=>by rcases j with _ | _ | _ | _ | _ <;> first | rfl | exact absurd rfl hj) (fun q hq'=> ?_) (by omega) hsz
  have h5:q∈blk a:=by simpa [four,bM] using hq'
  rcases hq q h5 with h6 | h6
  ·exact .inl (by rw [h6]; simp [four,bM])
  ·exact .inr h6
 ·have hall: ∀ q∈blk a,q=g1:=fun q hq'=>(hq q hq').resolve_right fun e=>hnew ⟨q,hq',e⟩
  refine mJ.mono (n:=w.heap.size) ⟨fun i i2 hij q hi hi2=> ?_,fun i q hi=> ?_⟩ hz
  ·have e1: ∀ i,∀ q∈four (bM b0 d0 g0 a0) (bM true true g1 a) (bM b2 d2 g2 a2) (bif b3 then [o] else []) i,q∈four (bM b0 d0 g0 a0) (bM true false g1 a1) (bM b2 d2 g2 a2) (bif b3 then [o] else []) i:=fun i q hq'=>by
    by_cases ei:i=1
    ·subst ei
     have h5:q∈blk a:=by simpa [four,bM] using hq'
     rw [hall q h5]
     simp [four,bM]
    ·rcases i with _ | _ | _ | _ | _ <;> first | exact hq' | exact absurd rfl ei
   exact h.pR.apart i i2 hij q (e1 i q hi) (e1 i2 q hi2)
  ·by_cases ei:i=1
   ·subst ei
    have h5:q∈blk a:=by simpa [four,bM] using hi
    rw [hall q h5]
    exact hgl
   ·exact h.pR.xy i q (by rcases i with _ | _ | _ | _ | _ <;> first | exact hi | exact absurd rfl ei)
theorem fI.copy2 {w2:World} {a:Option Addr} {c:Nat} (h:fI p We w b0 d0 b1 d1 true false b3 d3 e g0 g1 g2 o a0 a1 a2 c0 c1 c2) (ho:w2.ownsRow (We.heap.size+2) 141 3 (.slice a p.ag.length c) p.ag.length (bG.flat p.ag)) (hg:w.grownBy w2 (some g2)) (hq: ∀ q∈blk a,q=g2∨q=w.heap.size):fI p We w2 b0 d0 b1 d1 true true b3 d3 e g0 g1 g2 o a0 a1 a c0 c1 c:=by
 have hlt: ∀ i,∀ q∈four (bM b0 d0 g0 a0) (bM b1 d1 g1 a1) (bM true false g2 a2) (bif b3 then [o] else []) i,q < w.heap.size:=fun i q hq=>(h.pR.xy i q hq).2
 have hgl:We.heap.size+2≤g2∧g2 < w.heap.size:=h.pR.xy 2 g2 (by simp [four,bM])
 have hne: ∀ i,i≠2→ ∀ q∈four (bM b0 d0 g0 a0) (bM b1 d1 g1 a1) (bM true false g2 a2) (bif b3 then [o] else []) i,w2.heap[q]? =w.heap[q]? :=fun i hi q hq=>hg.block q (hlt i q hq) fun e=>h.pR.apart i 2 hi q hq (by rw [Option.some.inj e]; simp [four,bM])
 have hbe:Below We.heap.size We w2:=h.cd.grown hg (by have:=h.size; omega) (fun k hk=>by cases hk; omega)
 have he:e=false:=by cases e with | false=>rfl | true=>have:=h.cl.1 rfl; simp at this
 have hd:d3=false:=by cases hx:d3 with | false=>rfl | true=>rw [(h.cl.2 hx).1] at he; cases he
 subst he hd
 have hz:=hg.size
 have hsz:=h.size
 refine ⟨hbe,(hg.block _ (by omega) (fun e=>by have:=Option.some.inj e; omega)).trans h.part,(hg.block _ (by omega) (fun e=>by have:=Option.some.inj e; omega)).trans h.ret,h.s0.same fun q hq=>hne 0 (by decide) q hq,h.s1.same fun q hq=>hne 1 (by decide) q hq,⟨(fun _ hd=>by cases hd),fun _=>ho⟩,fun e=>(hne 3 (by decide) o (by simp [four,e])).trans (h.out e),⟨(fun e=>by cases e),fun e=>by cases e⟩,by omega,?_⟩
 by_cases hnew: ∃ q∈blk a,q=w.heap.size
 ·obtain ⟨q0,nu,hqe⟩:=hnew
  have hw2:=(cf ho nu).2
  refine h.pR.up 2 (fun j hj=>by rcases j with _ | _ | _ | _ | _ <;> first | rfl | exact absurd rfl hj) (fun q hq'=> ?_) (by omega) hsz
  have h5:q∈blk a:=by simpa [four,bM] using hq'
  rcases hq q h5 with h6 | h6
  ·exact .inl (by rw [h6]; simp [four,bM])
  ·exact .inr h6
 ·have hall: ∀ q∈blk a,q=g2:=fun q hq'=>(hq q hq').resolve_right fun e=>hnew ⟨q,hq',e⟩
  refine mJ.mono (n:=w.heap.size) ⟨fun i i2 hij q hi hi2=> ?_,fun i q hi=> ?_⟩ hz
  ·have e1: ∀ i,∀ q∈four (bM b0 d0 g0 a0) (bM b1 d1 g1 a1) (bM true true g2 a) (bif b3 then [o] else []) i,q∈four (bM b0 d0 g0 a0) (bM b1 d1 g1 a1) (bM true false g2 a2) (bif b3 then [o] else []) i:=fun i q hq'=>by
    by_cases ei:i=2
    ·subst ei
     have h5:q∈blk a:=by simpa [four,bM] using hq'
     rw [hall q h5]
     simp [four,bM]
    ·rcases i with _ | _ | _ | _ | _ <;> first | exact hq' | exact absurd rfl ei
   exact h.pR.apart i i2 hij q (e1 i q hi) (e1 i2 q hi2)
  ·by_cases ei:i=2
   ·subst ei
    have h5:q∈blk a:=by simpa [four,bM] using hi
    rw [hall q h5]
    exact hgl
   ·exact h.pR.xy i q (by rcases i with _ | _ | _ | _ | _ <;> first | exact hi | exact absurd rfl ei)
theorem fI.make3 (h:fI p We w b0 d0 b1 d1 b2 d2 false false e g0 g1 g2 o a0 a1 a2 c0 c1 c2):fI p We (w.alloc (.cells ar 32)) b0 d0 b1 d1 b2 d2 true false e g0 g1 g2 w.heap.size a0 a1 a2 c0 c1 c2:=by
 have hb:Below w.heap.size w (w.alloc (.cells ar 32)):=(Below.refl _ _).alloc (Nat.le_refl _) _
 have hlt: ∀ i,∀ q∈four (bM b0 d0 g0 a0) (bM b1 d1 g1 a1) (bM b2 d2 g2 a2) (bif false then [o] else []) i,q < w.heap.size:=fun i q hq=>(h.pR.xy i q hq).2
 exact ⟨h.cd.trans (hb.mono h.cd.size),h.part.below hb,(hb.block _ (by have:=h.size; omega)).trans h.ret,h.s0.same fun q hq=>hb.block q (hlt 0 q hq),h.s1.same fun q hq=>hb.block q (hlt 1 q hq),h.s2.same fun q hq=>hb.block q (hlt 2 q hq),fun _=>heap_alloc_new _ _,⟨h.cl.1,fun e=>by cases e⟩,by have:=h.size; simp; omega,h.pR.up 3 (fun j hj=>by rcases j with _ | _ | _ | _ | _ <;> first | rfl | exact absurd rfl hj) (fun q hq=> .inr (by simpa [four] using hq)) (by simp) h.size⟩
theorem fI.build (h:fI p We w b0 d0 b1 d1 b2 d2 b3 d3 false g0 g1 g2 o a0 a1 a2 c0 c1 c2) (h0:d0=true) (h1:d1=true) (h2:d2=true):fI p We w b0 d0 b1 d1 b2 d2 b3 d3 true g0 g1 g2 o a0 a1 a2 c0 c1 c2:=⟨h.cd,h.part,h.ret,h.s0,h.s1,h.s2,h.out,⟨fun _=>⟨h0,h1,h2⟩,fun hd=>⟨rfl,(h.cl.2 hd).2⟩⟩,h.size,h.pR⟩
theorem fI.store (h:fI p We w b0 d0 b1 d1 b2 d2 true false true g0 g1 g2 o a0 a1 a2 c0 c1 c2):fI p We (w.setRow o #[.int .i64 p.id,.int .i64 p.next,.slice none 0 0,.slice a0 p.aj.length c0,.slice a1 p.events.length c1,.slice a2 p.ag.length c2,.slice none 0 0,.slice none 0 0]) b0 d0 b1 d1 b2 d2 true true true g0 g1 g2 o a0 a1 a2 c0 c1 c2:=by
 have ho:=h.pR.xy 3 o (by simp [four])
 have hne: ∀ q,q≠o→(w.setRow o #[.int .i64 p.id,.int .i64 p.next,.slice none 0 0,.slice a0 p.aj.length c0,.slice a1 p.events.length c1,.slice a2 p.ag.length c2,.slice none 0 0,.slice none 0 0]).heap[q]? =w.heap[q]? :=fun q hq=>setRow_other _ _ _ _ hq
 have hap: ∀ i,i≠3→ ∀ q∈four (bM b0 d0 g0 a0) (bM b1 d1 g1 a1) (bM b2 d2 g2 a2) [o] i,q≠o:=fun i hi q hq e=>h.pR.apart i 3 hi q hq (by subst e; simp [four])
 have hsz:=h.size
 exact ⟨below_setRow h.cd (by omega) _,(hne _ (by omega)).trans h.part,(hne _ (by omega)).trans h.ret,h.s0.same fun q hq=>hne q (hap 0 (by decide) q hq),h.s1.same fun q hq=>hne q (hap 1 (by decide) q hq),h.s2.same fun q hq=>hne q (hap 2 (by decide) q hq),fun _=>setRow_heap _ _ _ _ _ _ (h.out rfl),⟨h.cl.1,fun _=>⟨rfl,rfl⟩⟩,by rw [size_setRow]; exact h.size,by rw [size_setRow]; exact h.pR⟩
end
end Go.Proofs.YtkbcplnlehdjfaaGreat
namespace Go.Proofs.YtkbcplnlehdjfaaGreat
open Go.RowKit Go.Maps
attribute [local go_sem ↓] Go.wp_at_zero Go.wp_at_succ

end Go.Proofs.YtkbcplnlehdjfaaGreat
