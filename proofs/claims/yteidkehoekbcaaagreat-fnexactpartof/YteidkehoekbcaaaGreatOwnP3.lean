/- What the proof leans on, part 3. -/
import Derived.Test.YteidkehoekbcaaaGreatOwnK24
import Derived.Test.YteidkehoekbcaaaGreatOwnP1
import Derived.Test.YteidkehoekbcaaaGreatOwnP2
import Derived.Laws.CopyOwn
set_option maxRecDepth 100000
set_option maxHeartbeats 8000000
open Go renaming block_lt_of_cell->Le,bodyPost_ret->KT,heap_alloc_new->Kj,setRow_heap->KU
open Go.Proofs.Tryz renaming prog->J3
open Go.RowKit.Below renaming refl->Kp
open Go.World renaming cell?_of_block->J1
open List renaming append_assoc->Lm,append_nil->QO,getElem?_eq_getElem->Kz,length_take->Lk,take_length->LQ,take_of_length_le->KF
open Nat renaming add_zero->PT,le_refl->Ki,zero_le->Ky
open Option.some renaming inj->KC

namespace Go.Proofs.YteidkehoekbcaaaGreat
section
open Go.RowKit
def four (a b c d:List Nat):Nat→List Nat
 | 0=>a
 | 1=>b
 | 2=>c
 | 3=>d
 | _=> []
structure mJ (n0 n:Nat) (X:Nat→List Nat):Prop where
 apart: ∀ i j,i≠j→ ∀ q∈X i,q∉X j
 xy: ∀ i,∀ q∈X i,n0≤q∧q < n
theorem mJ.up {n0 n n':Nat} {X X':Nat→List Nat} (h:mJ n0 n X) (k:Nat) (hk: ∀ j,j≠k→X' j=X j) (hx: ∀ q∈X' k,q∈X k∨q=n) (hn:n < n') (h0:n0≤n):mJ n0 n' X':=by
 refine ⟨fun i j hij q hi hj=> ?_,fun i q hi=> ?_⟩
 ·by_cases ei:i=k
  ·subst ei
   rw [hk j (Ne.symm hij)] at hj;rcases hx q hi with h1 | rfl
   ·exact h.apart i j hij q h1 hj
   ·have:=(h.xy j q hj).2; omega
  ·rw [hk i ei] at hi
   by_cases ej:j=k
   ·subst ej
    rcases hx q hj with h1 | rfl
    ·exact h.apart i j hij q hi h1
    ·have:=(h.xy i q hi).2; omega
   ·rw [hk j ej] at hj
    exact h.apart i j hij q hi hj
 ·by_cases ei:i=k
  ·subst ei
   rcases hx q hi with h1 | rfl
   ·have:=h.xy i q h1; omega
   ·omega
  ·rw [hk i ei] at hi
   have:=h.xy i q hi
   omega
theorem mJ.mono {n0 n n':Nat} {X:Nat→List Nat} (h:mJ n0 n X) (hn:n≤n'):mJ n0 n' X:=⟨h.apart,fun i q hq=>by have:=h.xy i q hq; omega⟩
structure fI (p:af) (We w:World) (b0 d0 b1 d1 b2 d2 b3 d3 e:Bool) (g0 g1 g2 o:Nat) (a0 a1 a2:Option Addr) (c0 c1 c2:Nat):Prop where
 cd:Below We.heap.size We w
 part:av w We.heap.size p
 ret:w.heap[We.heap.size+1]? =some (.cells ar 48 (0,0))
 s0:su w (We.heap.size+2) 184 3 p.aj.length (dm.flat p.aj) b0 d0 g0 a0 c0
 s1:su w (We.heap.size+2) 187 2 p.L9.length (bJ.flat p.L9) b1 d1 g1 a1 c1
 s2:su w (We.heap.size+2) 190 3 p.ag.length (bG.flat p.ag) b2 d2 g2 a2 c2
 I:b3=true→w.heap[o]? =some (.cells (bif d3 then #[.int .i64 p.id,.int .i64 p.next,.slice none 0 0,.slice a0 p.aj.length c0,.slice a1 p.L9.length c1,.slice a2 p.ag.length c2,.slice none 0 0,.slice none 0 0] else ar) 48 (0,0))
 cl:(e=true→d0=true∧d1=true∧d2=true)∧(d3=true→e=true∧b3=true)
 size:We.heap.size+2≤w.heap.size
 pR:mJ (We.heap.size+2) w.heap.size (four (bM b0 d0 g0 a0) (bM b1 d1 g1 a1) (bM b2 d2 g2 a2) (bif b3 then [o] else []))
section
variable {p:af} {We w:World} {b0 d0 b1 d1 b2 d2 b3 d3 e:Bool} {g0 g1 g2 o:Nat} {a0 a1 a2:Option Addr} {c0 c1 c2:Nat}
theorem fI.make0 (h:fI p We w false d0 b1 d1 b2 d2 b3 d3 e g0 g1 g2 o a0 a1 a2 c0 c1 c2):fI p We (w.alloc (.cells #[] 184)) true d0 b1 d1 b2 d2 b3 d3 e w.heap.size g1 g2 o a0 a1 a2 c0 c1 c2:=by
 have hb:Below w.heap.size w (w.alloc (.cells #[] 184)):=(Kp _ _).alloc (Ki _) _;have hlt: ∀ i,∀ q∈four (bM false d0 g0 a0) (bM b1 d1 g1 a1) (bM b2 d2 g2 a2) (bif b3 then [o] else []) i,q < w.heap.size:=fun i q hq=>(h.pR.xy i q hq).2
 exact ⟨h.cd.trans (hb.mono h.cd.size),h.part.below hb,(hb.block _ (by have:=h.size; omega)).trans h.ret,⟨fun _ hd=>⟨Kj _ _,h.size⟩,fun hd=>aL (h.s0.done hd) fun q hq=>hb.block q (hlt 0 q (by subst hd; simpa [four,bM] using hq))⟩,h.s1.same fun q hq=>hb.block q (hlt 1 q hq),h.s2.same fun q hq=>hb.block q (hlt 2 q hq),fun e=>(hb.block _ (hlt 3 o (by simp [four,e]))).trans (h.I e),h.cl,by have:=h.size; simp; omega,h.pR.up 0 (fun j hj=>by rcases j with _ | _ | _ | _ | _ <;> first | rfl | exact absurd rfl hj) (fun q hq=>by cases d0 with | true=>exact .inl (by simpa [four,bM] using hq) | false=>exact .inr (by simpa [four,bM] using hq)) (by simp) h.size⟩
theorem fI.make1 (h:fI p We w b0 d0 false d1 b2 d2 b3 d3 e g0 g1 g2 o a0 a1 a2 c0 c1 c2):fI p We (w.alloc (.cells #[] 187)) b0 d0 true d1 b2 d2 b3 d3 e g0 w.heap.size g2 o a0 a1 a2 c0 c1 c2:=by
 have hb:Below w.heap.size w (w.alloc (.cells #[] 187)):=(Kp _ _).alloc (Ki _) _;have hlt: ∀ i,∀ q∈four (bM b0 d0 g0 a0) (bM false d1 g1 a1) (bM b2 d2 g2 a2) (bif b3 then [o] else []) i,q < w.heap.size:=fun i q hq=>(h.pR.xy i q hq).2
 exact ⟨h.cd.trans (hb.mono h.cd.size),h.part.below hb,(hb.block _ (by have:=h.size; omega)).trans h.ret,h.s0.same fun q hq=>hb.block q (hlt 0 q hq),⟨fun _ hd=>⟨Kj _ _,h.size⟩,fun hd=>aL (h.s1.done hd) fun q hq=>hb.block q (hlt 1 q (by subst hd; simpa [four,bM] using hq))⟩,h.s2.same fun q hq=>hb.block q (hlt 2 q hq),fun e=>(hb.block _ (hlt 3 o (by simp [four,e]))).trans (h.I e),h.cl,by have:=h.size; simp; omega,h.pR.up 1 (fun j hj=>by rcases j with _ | _ | _ | _ | _ <;> first | rfl | exact absurd rfl hj) (fun q hq=>by cases d1 with | true=>exact .inl (by simpa [four,bM] using hq) | false=>exact .inr (by simpa [four,bM] using hq)) (by simp) h.size⟩
theorem fI.make2 (h:fI p We w b0 d0 b1 d1 false d2 b3 d3 e g0 g1 g2 o a0 a1 a2 c0 c1 c2):fI p We (w.alloc (.cells #[] 190)) b0 d0 b1 d1 true d2 b3 d3 e g0 g1 w.heap.size o a0 a1 a2 c0 c1 c2:=by
 have hb:Below w.heap.size w (w.alloc (.cells #[] 190)):=(Kp _ _).alloc (Ki _) _;have hlt: ∀ i,∀ q∈four (bM b0 d0 g0 a0) (bM b1 d1 g1 a1) (bM false d2 g2 a2) (bif b3 then [o] else []) i,q < w.heap.size:=fun i q hq=>(h.pR.xy i q hq).2
 exact ⟨h.cd.trans (hb.mono h.cd.size),h.part.below hb,(hb.block _ (by have:=h.size; omega)).trans h.ret,h.s0.same fun q hq=>hb.block q (hlt 0 q hq),h.s1.same fun q hq=>hb.block q (hlt 1 q hq),⟨fun _ hd=>⟨Kj _ _,h.size⟩,fun hd=>aL (h.s2.done hd) fun q hq=>hb.block q (hlt 2 q (by subst hd; simpa [four,bM] using hq))⟩,fun e=>(hb.block _ (hlt 3 o (by simp [four,e]))).trans (h.I e),h.cl,by have:=h.size; simp; omega,h.pR.up 2 (fun j hj=>by rcases j with _ | _ | _ | _ | _ <;> first | rfl | exact absurd rfl hj) (fun q hq=>by cases d2 with | true=>exact .inl (by simpa [four,bM] using hq) | false=>exact .inr (by simpa [four,bM] using hq)) (by simp) h.size⟩
theorem fI.copy0 {w2:World} {a:Option Addr} {c:Nat} (h:fI p We w true false b1 d1 b2 d2 b3 d3 e g0 g1 g2 o a0 a1 a2 c0 c1 c2) (ho:w2.ownsRow (We.heap.size+2) 184 3 (.slice a p.aj.length c) p.aj.length (dm.flat p.aj)) (hg:w.grownBy w2 (some g0)) (hq: ∀ q∈blk a,q=g0∨q=w.heap.size):fI p We w2 true true b1 d1 b2 d2 b3 d3 e g0 g1 g2 o a a1 a2 c c1 c2:=by
 have hlt: ∀ i,∀ q∈four (bM true false g0 a0) (bM b1 d1 g1 a1) (bM b2 d2 g2 a2) (bif b3 then [o] else []) i,q < w.heap.size:=fun i q hq=>(h.pR.xy i q hq).2
 have hgl:We.heap.size+2≤g0∧g0 < w.heap.size:=h.pR.xy 0 g0 (by simp [four,bM]);have hne: ∀ i,i≠0→ ∀ q∈four (bM true false g0 a0) (bM b1 d1 g1 a1) (bM b2 d2 g2 a2) (bif b3 then [o] else []) i,w2.heap[q]? =w.heap[q]? :=fun i hi q hq=>hg.block q (hlt i q hq) fun e=>h.pR.apart i 0 hi q hq (by rw [KC e]; simp [four,bM])
 have hbe:Below We.heap.size We w2:=h.cd.grown hg (by have:=h.size; omega) (fun k hk=>by cases hk; omega);have he:e=false:=by cases e with | false=>rfl | true=>have:=h.cl.1 rfl; simp at this
 have hd:d3=false:=by cases hx:d3 with | false=>rfl | true=>rw [(h.cl.2 hx).1] at he; cases he
 subst he hd;have hz:=hg.size;have hsz:=h.size;refine ⟨hbe,(hg.block _ (by omega) (fun e=>by have:=KC e; omega)).trans h.part,(hg.block _ (by omega) (fun e=>by have:=KC e; omega)).trans h.ret,⟨(fun _ hd=>by cases hd),fun _=>ho⟩,h.s1.same fun q hq=>hne 1 (by decide) q hq,h.s2.same fun q hq=>hne 2 (by decide) q hq,fun e=>(hne 3 (by decide) o (by simp [four,e])).trans (h.I e),⟨(fun e=>by cases e),fun e=>by cases e⟩,by omega,?_⟩;by_cases hnew: ∃ q∈blk a,q=w.heap.size
 ·obtain ⟨q0,nu,hqe⟩:=hnew
  have hw2:=(cf ho nu).2;refine h.pR.up 0 (fun j hj=>by rcases j with _ | _ | _ | _ | _ <;> first | rfl | exact absurd rfl hj) (fun q hq'=> ?_) (by omega) hsz;have h5:q∈blk a:=by simpa [four,bM] using hq'
  rcases hq q h5 with h6 | h6
  ·exact .inl (by rw [h6]; simp [four,bM])
  ·exact .inr h6
 ·have hall: ∀ q∈blk a,q=g0:=fun q hq'=>(hq q hq').resolve_right fun e=>hnew ⟨q,hq',e⟩
  refine mJ.mono (n:=w.heap.size) ⟨fun i i2 hij q hi hi2=> ?_,fun i q hi=> ?_⟩ hz
  ·have e1: ∀ i,∀ q∈four (bM true true g0 a) (bM b1 d1 g1 a1) (bM b2 d2 g2 a2) (bif b3 then [o] else []) i,q∈four (bM true false g0 a0) (bM b1 d1 g1 a1) (bM b2 d2 g2 a2) (bif b3 then [o] else []) i:=fun i q hq'=>by
    by_cases ei:i=0
    ·subst ei
     have h5:q∈blk a:=by simpa [four,bM] using hq'
     rw [hall q h5];simp [four,bM]
    ·rcases i with _ | _ | _ | _ | _ <;> first | exact hq' | exact absurd rfl ei
   exact h.pR.apart i i2 hij q (e1 i q hi) (e1 i2 q hi2)
  ·by_cases ei:i=0
   ·subst ei
    have h5:q∈blk a:=by simpa [four,bM] using hi
    rw [hall q h5];exact hgl
   ·exact h.pR.xy i q (by rcases i with _ | _ | _ | _ | _ <;> first | exact hi | exact absurd rfl ei)
theorem fI.copy1 {w2:World} {a:Option Addr} {c:Nat} (h:fI p We w b0 d0 true false b2 d2 b3 d3 e g0 g1 g2 o a0 a1 a2 c0 c1 c2) (ho:w2.ownsRow (We.heap.size+2) 187 2 (.slice a p.L9.length c) p.L9.length (bJ.flat p.L9)) (hg:w.grownBy w2 (some g1)) (hq: ∀ q∈blk a,q=g1∨q=w.heap.size):fI p We w2 b0 d0 true true b2 d2 b3 d3 e g0 g1 g2 o a0 a a2 c0 c c2:=by
 have hlt: ∀ i,∀ q∈four (bM b0 d0 g0 a0) (bM true false g1 a1) (bM b2 d2 g2 a2) (bif b3 then [o] else []) i,q < w.heap.size:=fun i q hq=>(h.pR.xy i q hq).2
 have hgl:We.heap.size+2≤g1∧g1 < w.heap.size:=h.pR.xy 1 g1 (by simp [four,bM]);have hne: ∀ i,i≠1→ ∀ q∈four (bM b0 d0 g0 a0) (bM true false g1 a1) (bM b2 d2 g2 a2) (bif b3 then [o] else []) i,w2.heap[q]? =w.heap[q]? :=fun i hi q hq=>hg.block q (hlt i q hq) fun e=>h.pR.apart i 1 hi q hq (by rw [KC e]; simp [four,bM])
 have hbe:Below We.heap.size We w2:=h.cd.grown hg (by have:=h.size; omega) (fun k hk=>by cases hk; omega);have he:e=false:=by cases e with | false=>rfl | true=>have:=h.cl.1 rfl; simp at this
 have hd:d3=false:=by cases hx:d3 with | false=>rfl | true=>rw [(h.cl.2 hx).1] at he; cases he
 subst he hd;have hz:=hg.size;have hsz:=h.size;refine ⟨hbe,(hg.block _ (by omega) (fun e=>by have:=KC e; omega)).trans h.part,(hg.block _ (by omega) (fun e=>by have:=KC e; omega)).trans h.ret,h.s0.same fun q hq=>hne 0 (by decide) q hq,⟨(fun _ hd=>by cases hd),fun _=>ho⟩,h.s2.same fun q hq=>hne 2 (by decide) q hq,fun e=>(hne 3 (by decide) o (by simp [four,e])).trans (h.I e),⟨(fun e=>by cases e),fun e=>by cases e⟩,by omega,?_⟩;by_cases hnew: ∃ q∈blk a,q=w.heap.size
 ·obtain ⟨q0,nu,hqe⟩:=hnew
  have hw2:=(cf ho nu).2;refine h.pR.up 1 (fun j hj=>by rcases j with _ | _ | _ | _ | _ <;> first | rfl | exact absurd rfl hj) (fun q hq'=> ?_) (by omega) hsz;have h5:q∈blk a:=by simpa [four,bM] using hq'
  rcases hq q h5 with h6 | h6
  ·exact .inl (by rw [h6]; simp [four,bM])
  ·exact .inr h6
 ·have hall: ∀ q∈blk a,q=g1:=fun q hq'=>(hq q hq').resolve_right fun e=>hnew ⟨q,hq',e⟩
  refine mJ.mono (n:=w.heap.size) ⟨fun i i2 hij q hi hi2=> ?_,fun i q hi=> ?_⟩ hz
  ·have e1: ∀ i,∀ q∈four (bM b0 d0 g0 a0) (bM true true g1 a) (bM b2 d2 g2 a2) (bif b3 then [o] else []) i,q∈four (bM b0 d0 g0 a0) (bM true false g1 a1) (bM b2 d2 g2 a2) (bif b3 then [o] else []) i:=fun i q hq'=>by
    by_cases ei:i=1
    ·subst ei
     have h5:q∈blk a:=by simpa [four,bM] using hq'
     rw [hall q h5];simp [four,bM]
    ·rcases i with _ | _ | _ | _ | _ <;> first | exact hq' | exact absurd rfl ei
   exact h.pR.apart i i2 hij q (e1 i q hi) (e1 i2 q hi2)
  ·by_cases ei:i=1
   ·subst ei
    have h5:q∈blk a:=by simpa [four,bM] using hi
    rw [hall q h5];exact hgl
   ·exact h.pR.xy i q (by rcases i with _ | _ | _ | _ | _ <;> first | exact hi | exact absurd rfl ei)
theorem fI.copy2 {w2:World} {a:Option Addr} {c:Nat} (h:fI p We w b0 d0 b1 d1 true false b3 d3 e g0 g1 g2 o a0 a1 a2 c0 c1 c2) (ho:w2.ownsRow (We.heap.size+2) 190 3 (.slice a p.ag.length c) p.ag.length (bG.flat p.ag)) (hg:w.grownBy w2 (some g2)) (hq: ∀ q∈blk a,q=g2∨q=w.heap.size):fI p We w2 b0 d0 b1 d1 true true b3 d3 e g0 g1 g2 o a0 a1 a c0 c1 c:=by
 have hlt: ∀ i,∀ q∈four (bM b0 d0 g0 a0) (bM b1 d1 g1 a1) (bM true false g2 a2) (bif b3 then [o] else []) i,q < w.heap.size:=fun i q hq=>(h.pR.xy i q hq).2
 have hgl:We.heap.size+2≤g2∧g2 < w.heap.size:=h.pR.xy 2 g2 (by simp [four,bM]);have hne: ∀ i,i≠2→ ∀ q∈four (bM b0 d0 g0 a0) (bM b1 d1 g1 a1) (bM true false g2 a2) (bif b3 then [o] else []) i,w2.heap[q]? =w.heap[q]? :=fun i hi q hq=>hg.block q (hlt i q hq) fun e=>h.pR.apart i 2 hi q hq (by rw [KC e]; simp [four,bM])
 have hbe:Below We.heap.size We w2:=h.cd.grown hg (by have:=h.size; omega) (fun k hk=>by cases hk; omega);have he:e=false:=by cases e with | false=>rfl | true=>have:=h.cl.1 rfl; simp at this
 have hd:d3=false:=by cases hx:d3 with | false=>rfl | true=>rw [(h.cl.2 hx).1] at he; cases he
 subst he hd;have hz:=hg.size;have hsz:=h.size;refine ⟨hbe,(hg.block _ (by omega) (fun e=>by have:=KC e; omega)).trans h.part,(hg.block _ (by omega) (fun e=>by have:=KC e; omega)).trans h.ret,h.s0.same fun q hq=>hne 0 (by decide) q hq,h.s1.same fun q hq=>hne 1 (by decide) q hq,⟨(fun _ hd=>by cases hd),fun _=>ho⟩,fun e=>(hne 3 (by decide) o (by simp [four,e])).trans (h.I e),⟨(fun e=>by cases e),fun e=>by cases e⟩,by omega,?_⟩;by_cases hnew: ∃ q∈blk a,q=w.heap.size
 ·obtain ⟨q0,nu,hqe⟩:=hnew
  have hw2:=(cf ho nu).2;refine h.pR.up 2 (fun j hj=>by rcases j with _ | _ | _ | _ | _ <;> first | rfl | exact absurd rfl hj) (fun q hq'=> ?_) (by omega) hsz;have h5:q∈blk a:=by simpa [four,bM] using hq'
  rcases hq q h5 with h6 | h6
  ·exact .inl (by rw [h6]; simp [four,bM])
  ·exact .inr h6
 ·have hall: ∀ q∈blk a,q=g2:=fun q hq'=>(hq q hq').resolve_right fun e=>hnew ⟨q,hq',e⟩
  refine mJ.mono (n:=w.heap.size) ⟨fun i i2 hij q hi hi2=> ?_,fun i q hi=> ?_⟩ hz
  ·have e1: ∀ i,∀ q∈four (bM b0 d0 g0 a0) (bM b1 d1 g1 a1) (bM true true g2 a) (bif b3 then [o] else []) i,q∈four (bM b0 d0 g0 a0) (bM b1 d1 g1 a1) (bM true false g2 a2) (bif b3 then [o] else []) i:=fun i q hq'=>by
    by_cases ei:i=2
    ·subst ei
     have h5:q∈blk a:=by simpa [four,bM] using hq'
     rw [hall q h5];simp [four,bM]
    ·rcases i with _ | _ | _ | _ | _ <;> first | exact hq' | exact absurd rfl ei
   exact h.pR.apart i i2 hij q (e1 i q hi) (e1 i2 q hi2)
  ·by_cases ei:i=2
   ·subst ei
    have h5:q∈blk a:=by simpa [four,bM] using hi
    rw [hall q h5];exact hgl
   ·exact h.pR.xy i q (by rcases i with _ | _ | _ | _ | _ <;> first | exact hi | exact absurd rfl ei)
theorem fI.make3 (h:fI p We w b0 d0 b1 d1 b2 d2 false false e g0 g1 g2 o a0 a1 a2 c0 c1 c2):fI p We (w.alloc (.cells ar 48)) b0 d0 b1 d1 b2 d2 true false e g0 g1 g2 w.heap.size a0 a1 a2 c0 c1 c2:=by
 have hb:Below w.heap.size w (w.alloc (.cells ar 48)):=(Kp _ _).alloc (Ki _) _;have hlt: ∀ i,∀ q∈four (bM b0 d0 g0 a0) (bM b1 d1 g1 a1) (bM b2 d2 g2 a2) (bif false then [o] else []) i,q < w.heap.size:=fun i q hq=>(h.pR.xy i q hq).2
 exact ⟨h.cd.trans (hb.mono h.cd.size),h.part.below hb,(hb.block _ (by have:=h.size; omega)).trans h.ret,h.s0.same fun q hq=>hb.block q (hlt 0 q hq),h.s1.same fun q hq=>hb.block q (hlt 1 q hq),h.s2.same fun q hq=>hb.block q (hlt 2 q hq),fun _=>Kj _ _,⟨h.cl.1,fun e=>by cases e⟩,by have:=h.size; simp; omega,h.pR.up 3 (fun j hj=>by rcases j with _ | _ | _ | _ | _ <;> first | rfl | exact absurd rfl hj) (fun q hq=> .inr (by simpa [four] using hq)) (by simp) h.size⟩
theorem fI.build (h:fI p We w b0 d0 b1 d1 b2 d2 b3 d3 false g0 g1 g2 o a0 a1 a2 c0 c1 c2) (h0:d0=true) (h1:d1=true) (h2:d2=true):fI p We w b0 d0 b1 d1 b2 d2 b3 d3 true g0 g1 g2 o a0 a1 a2 c0 c1 c2:=⟨h.cd,h.part,h.ret,h.s0,h.s1,h.s2,h.I,⟨fun _=>⟨h0,h1,h2⟩,fun hd=>⟨rfl,(h.cl.2 hd).2⟩⟩,h.size,h.pR⟩
theorem fI.store (h:fI p We w b0 d0 b1 d1 b2 d2 true false true g0 g1 g2 o a0 a1 a2 c0 c1 c2):fI p We (w.setRow o #[.int .i64 p.id,.int .i64 p.next,.slice none 0 0,.slice a0 p.aj.length c0,.slice a1 p.L9.length c1,.slice a2 p.ag.length c2,.slice none 0 0,.slice none 0 0]) b0 d0 b1 d1 b2 d2 true true true g0 g1 g2 o a0 a1 a2 c0 c1 c2:=by
 have ho:=h.pR.xy 3 o (by simp [four]);have hne: ∀ q,q≠o→(w.setRow o #[.int .i64 p.id,.int .i64 p.next,.slice none 0 0,.slice a0 p.aj.length c0,.slice a1 p.L9.length c1,.slice a2 p.ag.length c2,.slice none 0 0,.slice none 0 0]).heap[q]? =w.heap[q]? :=fun q hq=>setRow_other _ _ _ _ hq
 have hap: ∀ i,i≠3→ ∀ q∈four (bM b0 d0 g0 a0) (bM b1 d1 g1 a1) (bM b2 d2 g2 a2) [o] i,q≠o:=fun i hi q hq e=>h.pR.apart i 3 hi q hq (by subst e; simp [four])
 have hsz:=h.size;exact ⟨kz h.cd (by omega) _,(hne _ (by omega)).trans h.part,(hne _ (by omega)).trans h.ret,h.s0.same fun q hq=>hne q (hap 0 (by decide) q hq),h.s1.same fun q hq=>hne q (hap 1 (by decide) q hq),h.s2.same fun q hq=>hne q (hap 2 (by decide) q hq),fun _=>KU _ _ _ _ _ _ (h.I rfl),⟨h.cl.1,fun _=>⟨rfl,rfl⟩⟩,by rw [size_setRow]; exact h.size,by rw [size_setRow]; exact h.pR⟩
end
end
section
open Go.RowKit
attribute [local go_sem ↓] Go.wp_at_zero Go.wp_at_succ
def fj (k:Int) (_:dN):dN:=(k,k+1,k+1+1,cu (k+1+1+1))
theorem xP (a:Option Addr) (l:List dN) (cap:Nat) (k:Int) (w:World) (base:Nat) (hl:l.length≤1048576) (h0:1≤k) (h1:k+(aF (fun _=>4) l:Nat)≤90000000) (ho:w.ownsRow base 234 4 (.slice a l.length cap) l.length (fk.flat l)):
  Calls J3 117 #[.slice a l.length cap,.int .i64 k] w fun e w'=>e= .returned (.int .i64 (k+(aF (fun _=>4) l:Nat)))∧w'.ownsRow base 234 4 (.slice a l.length cap) l.length (fk.flat (aJ fj (fun _=>4) k l))∧aI w w' (blk a):=by
 by_cases hz:l.length=0
 ·have hl0:l= [] :=List.eq_nil_of_length_eq_zero hz
  subst hl0;have HO:Hid (w.ownsRow base 234 4 (.slice a 0 cap) 0 (fk.flat [])):=ho;clear ho
  go_enter Tryz.func117,Tryz.ntmps117
  go_wp2_with fail
  go_loopw [1,5] (fun q i wr=>q= .int .i64 k∧i= .int .i64 0∧wr=w) (fun _ _ _=>0)
  case atStart=>exact ⟨rfl,rfl,rfl⟩
  case round=>
   obtain ⟨rfl,rfl,rfl⟩:=hrel;go_wp2;go_ret;exact ⟨ck (by simp [aF]),HO.I,aI.refl _ _⟩
 obtain ⟨g,rfl,hrow⟩:=bl.fX (K:=fk) ho hz;have HR:Hid (bl fk 234 w base g cap l):=hrow;have HB:Hid (k+(aF (fun _:dN=>4) l:Nat)≤90000000):=h1;clear ho hrow h1 hz
 go_enter Tryz.func117,Tryz.ntmps117
 go_wp2_with fail
 go_loopw [1,5] (fun q i wr=> ∃ (j:Nat) (m:Int),j≤l.length∧i= .int .i64 j∧q= .int .i64 m∧1≤m∧m≤90000000∧Hid (m=k+(aF (fun _:dN=>4) (l.take j):Nat)∧bl fk 234 wr base g cap (aJ fj (fun _=>4) k (l.take j) ++ l.drop j)∧aI w wr [g])) (fun _ i _=>l.length - (intOf i).toNat)
 case atStart=>exact ⟨0,k,Ky _,rfl,rfl,h0,by have:=HB.I; omega,⟨by simp [aF],HR.I,aI.refl _ _⟩⟩
 case round=>
  clear HR;obtain ⟨j,m,hj,rfl,rfl,m0,m1,HA⟩:=hrel;by_cases hlt:j < l.length
  ·have i0:(0:Int)≤(j:Int):=by omega
   have i1:(j:Int) < (l.length:Int):=by omega
   obtain ⟨x,hx⟩: ∃ x,l[j]? =some x:=⟨_,Kz hlt⟩
   have pI:l.drop j=x :: l.drop (j+1):=mz hx;have qw:=du (c:=fun _:dN=>4) hx;have hup:=gK (c:=fun _:dN=>4) hx;have HX:Hid (l[j]? =some x∧m+4≤90000000∧m+4=k+(aF (fun _:dN=>4) (l.take (j+1)):Nat)):=⟨hx,by have:=HB.I; have:=HA.I.1; omega,by have:=HA.I.1; omega⟩
   have HW:Hid (bl fk 234 wr base g cap (aJ fj (fun _=>4) k (l.take j) ++ x :: l.drop (j+1))∧(aJ fj (fun _=>4) k (l.take j)).length=j):=⟨by have:=HA.I.2.1; rwa [pI] at this,by rw [bE,Lk]; omega⟩
   clear hx pI qw hup;have m2:m+4≤90000000:=HX.I.2.1;have hgl:g < wr.heap.size:=HW.I.1.lt;have q0:=bl.eO HW.I.1 HW.I.2 (r:=0) (by decide:0 < fk.n);obtain ⟨⟨u0,c0⟩,f0⟩:(∃ u,wr.cell? ⟨g,j * 4,none⟩=some u)∧wr.frozen? ⟨g,j * 4,none⟩=false:=q0;have q1:=bl.eO HW.I.1 HW.I.2 (r:=1) (by decide:1 < fk.n);obtain ⟨⟨u1,c1⟩,f1⟩:(∃ u,wr.cell? ⟨g,j * 4+1,none⟩=some u)∧wr.frozen? ⟨g,j * 4+1,none⟩=false:=q1;have q2:=bl.eO HW.I.1 HW.I.2 (r:=2) (by decide:2 < fk.n);obtain ⟨⟨u2,c2⟩,f2⟩:(∃ u,wr.cell? ⟨g,j * 4+2,none⟩=some u)∧wr.frozen? ⟨g,j * 4+2,none⟩=false:=q2;have h5:=bl.part (K:=fk) (x:=(x.1,x.2.1,x.2.2.1,x.2.2.2)) (y:=(m,m+1,m+1+1,x.2.2.2)) (j:=0) (vs:= [.int .i64 (m),.int .i64 (m+1),.int .i64 (m+1+1)]) HW.I.1 (by show 0+3≤4; omega) (fun r hr=>by match r,hr with | 0,_=>rfl | 1,_=>rfl | 2,_=>rfl) (fun r hr hn=>by match r,hr,hn with | 0,_,hn=>exact absurd ⟨by omega,by show 0 < 0+3; omega⟩ hn | 1,_,hn=>exact absurd ⟨by omega,by show 1 < 0+3; omega⟩ hn | 2,_,hn=>exact absurd ⟨by omega,by show 2 < 0+3; omega⟩ hn | 3,_,_=>rfl );rw [HW.I.2,show fk.n=4 from rfl] at h5;simp only [bn,Nat.add_assoc,Nat.reduceAdd,PT] at h5;have ES:Hid (bl fk 234 (((wr.setCell ⟨g,j * 4,none⟩ (.int .i64 (m))).setCell ⟨g,j * 4+1,none⟩ (.int .i64 (m+1))).setCell ⟨g,j * 4+2,none⟩ (.int .i64 (m+1+1))) base g cap (aJ fj (fun _=>4) k (l.take j) ++ (m,m+1,m+1+1,x.2.2.2) :: l.drop (j+1))∧(aJ fj (fun _=>4) k (l.take j)).length=j):=⟨h5,HW.I.2⟩
   have h6:aI w (bn wr g (j * 4) [.int .i64 (m),.int .i64 (m+1),.int .i64 (m+1+1)]) [g] :=HA.I.2.2.trans (aI.set _ (by simp));simp only [bn,Nat.add_assoc,Nat.reduceAdd] at h6;have zy:Hid (aI w (((wr.setCell ⟨g,j * 4,none⟩ (.int .i64 (m))).setCell ⟨g,j * 4+1,none⟩ (.int .i64 (m+1))).setCell ⟨g,j * 4+2,none⟩ (.int .i64 (m+1+1))) [g]):=h6;clear h6;clear h5;go_wp2_with fail;refine (fh (m+1+1+1) (by omega) (by omega) _).mono ?_;rintro e v3 ⟨rfl,hb3⟩;have Fx:Hid (bl fk 234 v3 base g cap (aJ fj (fun _=>4) k (l.take j) ++ (m,m+1,m+1+1,x.2.2.2) :: l.drop (j+1))∧(aJ fj (fun _=>4) k (l.take j)).length=j):=⟨ES.I.1.same (hb3.block g ES.I.1.lt),ES.I.2⟩
   have HV3K:Hid (aI w v3 [g]):=zy.I.trans (aI.dI hb3);clear hb3;have q3:=bl.eO Fx.I.1 Fx.I.2 (r:=3) (by decide:3 < fk.n);obtain ⟨⟨u3,c3⟩,f3⟩:(∃ u,v3.cell? ⟨g,j * 4+3,none⟩=some u)∧v3.frozen? ⟨g,j * 4+3,none⟩=false:=q3;have h5:=bl.part (K:=fk) (x:=(m,m+1,m+1+1,x.2.2.2)) (y:=(m,m+1,m+1+1,cu (m+1+1+1))) (j:=3) (vs:= [.string (cu (m+1+1+1))]) Fx.I.1 (by show 3+1≤4; omega) (fun r hr=>by match r,hr with | 0,_=>rfl) (fun r hr hn=>by match r,hr,hn with | 0,_,_=>rfl | 1,_,_=>rfl | 2,_,_=>rfl | 3,_,hn=>exact absurd ⟨by omega,by show 3 < 3+1; omega⟩ hn );rw [Fx.I.2,show fk.n=4 from rfl] at h5;simp only [bn] at h5;have mH:Hid (bl fk 234 (v3.setCell ⟨g,j * 4+3,none⟩ (.string (cu (m+1+1+1)))) base g cap (aJ fj (fun _=>4) k (l.take j) ++ (m,m+1,m+1+1,cu (m+1+1+1)) :: l.drop (j+1))∧(aJ fj (fun _=>4) k (l.take j)).length=j):=⟨h5,Fx.I.2⟩
   have h6:aI w (bn v3 g (j * 4+3) [.string (cu (m+1+1+1))]) [g] :=HV3K.I.trans (aI.set _ (by simp));simp only [bn] at h6;have HS1K:Hid (aI w (v3.setCell ⟨g,j * 4+3,none⟩ (.string (cu (m+1+1+1)))) [g]):=h6;clear h6;clear h5;have HN:Hid (bl fk 234 (v3.setCell ⟨g,j * 4+3,none⟩ (.string (cu (m+1+1+1)))) base g cap (aJ fj (fun _=>4) k (l.take (j+1)) ++ l.drop (j+1))∧aI w (v3.setCell ⟨g,j * 4+3,none⟩ (.string (cu (m+1+1+1)))) [g]):=⟨by rw [kE HX.I.1,Lm,← HA.I.1]; exact mH.I.1,HS1K.I⟩
   go_wp2;go_roundw
   case rel=>exact ⟨j+1,m+4,by omega,by go_num,by go_num,by omega,by omega,⟨HX.I.2.2,HN.I.1,HN.I.2⟩⟩
   case measure=>simp [intOf]; omega
  ·have i1: ¬ (j:Int) < (l.length:Int):=by omega
   have ej:j=l.length:=by omega
   subst ej;have HE:Hid (bl fk 234 wr base g cap (aJ fj (fun _=>4) k l)∧m=k+(aF (fun _:dN=>4) l:Nat)):=by have h5:=HA.I.2.1; have h6:=HA.I.1; rw [LQ,List.drop_length,QO] at h5; rw [LQ] at h6; exact ⟨h5,h6⟩
   go_wp2;go_ret;refine ⟨ck HE.I.2,?_,HA.I.2.2.mono (by simp [blk])⟩;have h7:=HE.I.1.owns;rw [bE] at h7;exact h7
def DI (w:World) (a:Option Addr) (l:List dN) (g j:Nat) (m:Int) (w':World):Prop:=w'.cell? ⟨g,j * 4+3,none⟩=some (.string (cu m))∧Hid (fk.bU w' a l∧Below w.heap.size w w')
theorem xg (a:Option Addr) (l:List dN) (cap:Nat) (k:Int) (w:World) (hl:l.length≤1048576) (h0:1≤k) (h1:k+(aF (fun _=>4) l:Nat)≤90000000) (hr:fk.bU w a (aJ fj (fun _=>4) k l)):
  Calls J3 120 #[.slice a l.length cap,.int .i64 k] w fun e w'=>e= .returned (.int .i64 (k+(aF (fun _=>4) l:Nat)))∧Below w.heap.size w w':=by
 have HR:Hid (fk.bU w a (aJ fj (fun _=>4) k l)∧k+(aF (fun _:dN=>4) l:Nat)≤90000000):=⟨hr,h1⟩
 clear hr h1
 go_enter Tryz.func120,Tryz.ntmps120
 go_wp2_with fail
 go_loopw [1,5] (fun q i wr=> ∃ (j:Nat) (m:Int),j≤l.length∧i= .int .i64 j∧q= .int .i64 m∧1≤m∧m≤90000000∧Hid (m=k+(aF (fun _:dN=>4) (l.take j):Nat)∧Below w.heap.size w wr)) (fun _ i _=>l.length - (intOf i).toNat)
 case atStart=>exact ⟨0,k,Ky _,rfl,rfl,h0,by have:=HR.I.2; omega,⟨by simp [aF],Kp _ _⟩⟩
 case round=>
  obtain ⟨j,m,hj,rfl,rfl,m0,m1,HA⟩:=hrel;by_cases hlt:j < l.length
  ·have i0:(0:Int)≤(j:Int):=by omega
   have i1:(j:Int) < (l.length:Int):=by omega
   obtain ⟨x,hx⟩: ∃ x,l[j]? =some x:=⟨_,Kz hlt⟩
   have qw:=du (c:=fun _:dN=>4) hx;have hup:=gK (c:=fun _:dN=>4) hx;have hg:=jK (f:=fj) (c:=fun _:dN=>4) (k:=k) hx;rw [← HA.I.1] at hg;obtain ⟨g,ha,hat⟩:=(HR.I.1.below HA.I.2).at hg;have c0:wr.cell? ⟨g,j * 4,none⟩=some (.int .i64 (m)):=hat 0 _ rfl;have c1:wr.cell? ⟨g,j * 4+1,none⟩=some (.int .i64 (m+1)):=hat 1 _ rfl;have c2:wr.cell? ⟨g,j * 4+2,none⟩=some (.int .i64 (m+1+1)):=hat 2 _ rfl;have c3:wr.cell? ⟨g,j * 4+3,none⟩=some (.string (cu (m+1+1+1))):=hat 3 _ rfl;have HX:Hid (m+4≤90000000∧m+4=k+(aF (fun _:dN=>4) (l.take (j+1)):Nat)∧a=some ⟨g,0,none⟩∧(aJ fj (fun _=>4) k l)[j]? =some (fj m x)):=⟨by have:=HR.I.2; have:=HA.I.1; omega,by have:=HA.I.1; omega,ha,hg⟩
   have m2:m+4≤90000000:=HX.I.1;subst ha;clear hx qw hup hg hat;go_wp2_with fail;have HT:Hid (DI w (some ⟨g,0,none⟩) (aJ fj (fun _=>4) k l) g j (m+1+1+1) wr.drew):=⟨c3,(HR.I.1.below HA.I.2).below (Kp _ _).drew,HA.I.2.drew⟩
   clear c0 c1 c2 c3;refine aT (DI w (some ⟨g,0,none⟩) (aJ fj (fun _=>4) k l) g j (m+1+1+1)) (by kernel_rfl) HT.I ?_
   iterate 6 (refine PI ?_ (hy:=fun w0 hS0=>by obtain ⟨q0,hH⟩:=hS0; go_simp; try with_reducible rfl))
   refine cl (.string (cu (m+1+1+1))) 118 #[.int .i64 (m+1+1+1)] ?_ ?_ ?_
   ·intro w0 hS0
    obtain ⟨q0,hH⟩:=hS0
    go_simp
    try with_reducible rfl
   ·intro w0 hS0
    refine (fh (m+1+1+1) (by omega) (by omega) w0).mono ?_;rintro e w2 ⟨rfl,hb2⟩;exact ⟨rfl,(J1 (hb2.block g (Le hS0.1))).trans hS0.1,hS0.2.I.1.below hb2,hS0.2.I.2.trans (hb2.mono hS0.2.I.2.size)⟩
   simp only [pt,sb,s0,s1]
   (refine PI ?_ (hy:=fun w0 hS0=>by obtain ⟨q0,hH⟩:=hS0; go_simp; try with_reducible rfl))
   refine bk (by kernel_rfl) ?_ _;intro w1 cm;have HZ:Hid (Below w.heap.size w w1):=cm.2.I.2;clear cm HT;go_wp2;go_roundw
   case rel=>exact ⟨j+1,m+4,by omega,by go_num,by go_num,by omega,by omega,⟨HX.I.2.1,HZ.I⟩⟩
   case measure=>simp [intOf]; omega
  ·have i1: ¬ (j:Int) < (l.length:Int):=by omega
   have HE:Hid (m=k+(aF (fun _:dN=>4) l:Nat)):=by have h6:=HA.I.1; rw [KF (by omega)] at h6; exact h6
   go_wp2;go_ret;exact ⟨ck HE.I,HA.I.2⟩
def dZ (k:Int) (_:az):az:=⟨k,(k+1) % 3 == 0,cu (k+1+1)⟩
theorem zB (a:Option Addr) (l:List az) (cap:Nat) (k:Int) (w:World) (base:Nat) (hl:l.length≤1048576) (h0:1≤k) (h1:k+(aF (fun _=>3) l:Nat)≤90000000) (ho:w.ownsRow base 190 3 (.slice a l.length cap) l.length (bG.flat l)):
  Calls J3 60 #[.slice a l.length cap,.int .i64 k] w fun e w'=>e= .returned (.int .i64 (k+(aF (fun _=>3) l:Nat)))∧w'.ownsRow base 190 3 (.slice a l.length cap) l.length (bG.flat (aJ dZ (fun _=>3) k l))∧aI w w' (blk a):=by
 by_cases hz:l.length=0
 ·have hl0:l= [] :=List.eq_nil_of_length_eq_zero hz
  subst hl0;have HO:Hid (w.ownsRow base 190 3 (.slice a 0 cap) 0 (bG.flat [])):=ho;clear ho
  go_enter Tryz.func60,Tryz.ntmps60
  go_wp2_with fail
  go_loopw [1,5] (fun q i wr=>q= .int .i64 k∧i= .int .i64 0∧wr=w) (fun _ _ _=>0)
  case atStart=>exact ⟨rfl,rfl,rfl⟩
  case round=>
   obtain ⟨rfl,rfl,rfl⟩:=hrel;go_wp2;go_ret;exact ⟨ck (by simp [aF]),HO.I,aI.refl _ _⟩
 obtain ⟨g,rfl,hrow⟩:=bl.fX (K:=bG) ho hz;have HR:Hid (bl bG 190 w base g cap l):=hrow;have HB:Hid (k+(aF (fun _:az=>3) l:Nat)≤90000000):=h1;clear ho hrow h1 hz
 go_enter Tryz.func60,Tryz.ntmps60
 go_wp2_with fail
 go_loopw [1,5] (fun q i wr=> ∃ (j:Nat) (m:Int),j≤l.length∧i= .int .i64 j∧q= .int .i64 m∧1≤m∧m≤90000000∧Hid (m=k+(aF (fun _:az=>3) (l.take j):Nat)∧bl bG 190 wr base g cap (aJ dZ (fun _=>3) k (l.take j) ++ l.drop j)∧aI w wr [g])) (fun _ i _=>l.length - (intOf i).toNat)
 case atStart=>exact ⟨0,k,Ky _,rfl,rfl,h0,by have:=HB.I; omega,⟨by simp [aF],HR.I,aI.refl _ _⟩⟩
 case round=>
  clear HR;obtain ⟨j,m,hj,rfl,rfl,m0,m1,HA⟩:=hrel;by_cases hlt:j < l.length
  ·have i0:(0:Int)≤(j:Int):=by omega
   have i1:(j:Int) < (l.length:Int):=by omega
   obtain ⟨x,hx⟩: ∃ x,l[j]? =some x:=⟨_,Kz hlt⟩
   have pI:l.drop j=x :: l.drop (j+1):=mz hx;have qw:=du (c:=fun _:az=>3) hx;have hup:=gK (c:=fun _:az=>3) hx;have HX:Hid (l[j]? =some x∧m+3≤90000000∧m+3=k+(aF (fun _:az=>3) (l.take (j+1)):Nat)):=⟨hx,by have:=HB.I; have:=HA.I.1; omega,by have:=HA.I.1; omega⟩
   have HW:Hid (bl bG 190 wr base g cap (aJ dZ (fun _=>3) k (l.take j) ++ x :: l.drop (j+1))∧(aJ dZ (fun _=>3) k (l.take j)).length=j):=⟨by have:=HA.I.2.1; rwa [pI] at this,by rw [bE,Lk]; omega⟩
   clear hx pI qw hup;have m2:m+3≤90000000:=HX.I.2.1;have hgl:g < wr.heap.size:=HW.I.1.lt;have q0:=bl.eO HW.I.1 HW.I.2 (r:=0) (by decide:0 < bG.n);obtain ⟨⟨u0,c0⟩,f0⟩:(∃ u,wr.cell? ⟨g,j * 3,none⟩=some u)∧wr.frozen? ⟨g,j * 3,none⟩=false:=q0;have q1:=bl.eO HW.I.1 HW.I.2 (r:=1) (by decide:1 < bG.n);obtain ⟨⟨u1,c1⟩,f1⟩:(∃ u,wr.cell? ⟨g,j * 3+1,none⟩=some u)∧wr.frozen? ⟨g,j * 3+1,none⟩=false:=q1;have h5:=bl.part (K:=bG) (x:=(⟨x.id,x.shown,x.text⟩:az)) (y:=(⟨m,(m+1) % 3 == 0,x.text⟩:az)) (j:=0) (vs:= [.int .i64 (m),.bool ((m+1) % 3 == 0)]) HW.I.1 (by show 0+2≤3; omega) (fun r hr=>by match r,hr with | 0,_=>rfl | 1,_=>rfl) (fun r hr hn=>by match r,hr,hn with | 0,_,hn=>exact absurd ⟨by omega,by show 0 < 0+2; omega⟩ hn | 1,_,hn=>exact absurd ⟨by omega,by show 1 < 0+2; omega⟩ hn | 2,_,_=>rfl );rw [HW.I.2,show bG.n=3 from rfl] at h5;simp only [bn,PT] at h5;have ES:Hid (bl bG 190 ((wr.setCell ⟨g,j * 3,none⟩ (.int .i64 (m))).setCell ⟨g,j * 3+1,none⟩ (.bool ((m+1) % 3 == 0))) base g cap (aJ dZ (fun _=>3) k (l.take j) ++ (⟨m,(m+1) % 3 == 0,x.text⟩:az) :: l.drop (j+1))∧(aJ dZ (fun _=>3) k (l.take j)).length=j):=⟨h5,HW.I.2⟩
   have h6:aI w (bn wr g (j * 3) [.int .i64 (m),.bool ((m+1) % 3 == 0)]) [g] :=HA.I.2.2.trans (aI.set _ (by simp));simp only [bn] at h6;have zy:Hid (aI w ((wr.setCell ⟨g,j * 3,none⟩ (.int .i64 (m))).setCell ⟨g,j * 3+1,none⟩ (.bool ((m+1) % 3 == 0))) [g]):=h6;clear h6;clear h5;go_wp2_with fail;refine (fh (m+1+1) (by omega) (by omega) _).mono ?_;rintro e v2 ⟨rfl,hb2⟩;have FD:Hid (bl bG 190 v2 base g cap (aJ dZ (fun _=>3) k (l.take j) ++ (⟨m,(m+1) % 3 == 0,x.text⟩:az) :: l.drop (j+1))∧(aJ dZ (fun _=>3) k (l.take j)).length=j):=⟨ES.I.1.same (hb2.block g ES.I.1.lt),ES.I.2⟩
   have HV2K:Hid (aI w v2 [g]):=zy.I.trans (aI.dI hb2);clear hb2;have q2:=bl.eO FD.I.1 FD.I.2 (r:=2) (by decide:2 < bG.n);obtain ⟨⟨u2,c2⟩,f2⟩:(∃ u,v2.cell? ⟨g,j * 3+2,none⟩=some u)∧v2.frozen? ⟨g,j * 3+2,none⟩=false:=q2;have h5:=bl.part (K:=bG) (x:=(⟨m,(m+1) % 3 == 0,x.text⟩:az)) (y:=(⟨m,(m+1) % 3 == 0,cu (m+1+1)⟩:az)) (j:=2) (vs:= [.string (cu (m+1+1))]) FD.I.1 (by show 2+1≤3; omega) (fun r hr=>by match r,hr with | 0,_=>rfl) (fun r hr hn=>by match r,hr,hn with | 0,_,_=>rfl | 1,_,_=>rfl | 2,_,hn=>exact absurd ⟨by omega,by show 2 < 2+1; omega⟩ hn );rw [FD.I.2,show bG.n=3 from rfl] at h5;simp only [bn] at h5;have mH:Hid (bl bG 190 (v2.setCell ⟨g,j * 3+2,none⟩ (.string (cu (m+1+1)))) base g cap (aJ dZ (fun _=>3) k (l.take j) ++ (⟨m,(m+1) % 3 == 0,cu (m+1+1)⟩:az) :: l.drop (j+1))∧(aJ dZ (fun _=>3) k (l.take j)).length=j):=⟨h5,FD.I.2⟩
   have h6:aI w (bn v2 g (j * 3+2) [.string (cu (m+1+1))]) [g] :=HV2K.I.trans (aI.set _ (by simp));simp only [bn] at h6;have HS1K:Hid (aI w (v2.setCell ⟨g,j * 3+2,none⟩ (.string (cu (m+1+1)))) [g]):=h6;clear h6;clear h5;have HN:Hid (bl bG 190 (v2.setCell ⟨g,j * 3+2,none⟩ (.string (cu (m+1+1)))) base g cap (aJ dZ (fun _=>3) k (l.take (j+1)) ++ l.drop (j+1))∧aI w (v2.setCell ⟨g,j * 3+2,none⟩ (.string (cu (m+1+1)))) [g]):=⟨by rw [kE HX.I.1,Lm,← HA.I.1]; exact mH.I.1,HS1K.I⟩
   go_wp2;go_roundw
   case rel=>exact ⟨j+1,m+3,by omega,by go_num,by go_num,by omega,by omega,⟨HX.I.2.2,HN.I.1,HN.I.2⟩⟩
   case measure=>simp [intOf]; omega
  ·have i1: ¬ (j:Int) < (l.length:Int):=by omega
   have ej:j=l.length:=by omega
   subst ej;have HE:Hid (bl bG 190 wr base g cap (aJ dZ (fun _=>3) k l)∧m=k+(aF (fun _:az=>3) l:Nat)):=by have h5:=HA.I.2.1; have h6:=HA.I.1; rw [LQ,List.drop_length,QO] at h5; rw [LQ] at h6; exact ⟨h5,h6⟩
   go_wp2;go_ret;refine ⟨ck HE.I.2,?_,HA.I.2.2.mono (by simp [blk])⟩;have h7:=HE.I.1.owns;rw [bE] at h7;exact h7
def vw (w:World) (a:Option Addr) (l:List az) (g j:Nat) (m:Int) (w':World):Prop:=w'.cell? ⟨g,j * 3+2,none⟩=some (.string (cu m))∧Hid (bG.bU w' a l∧Below w.heap.size w w')
theorem yF (a:Option Addr) (l:List az) (cap:Nat) (k:Int) (w:World) (hl:l.length≤1048576) (h0:1≤k) (h1:k+(aF (fun _=>3) l:Nat)≤90000000) (hr:bG.bU w a (aJ dZ (fun _=>3) k l)):
  Calls J3 66 #[.slice a l.length cap,.int .i64 k] w fun e w'=>e= .returned (.int .i64 (k+(aF (fun _=>3) l:Nat)))∧Below w.heap.size w w':=by
 have HR:Hid (bG.bU w a (aJ dZ (fun _=>3) k l)∧k+(aF (fun _:az=>3) l:Nat)≤90000000):=⟨hr,h1⟩
 clear hr h1
 go_enter Tryz.func66,Tryz.ntmps66
 go_wp2_with fail
 go_loopw [1,5] (fun q i wr=> ∃ (j:Nat) (m:Int),j≤l.length∧i= .int .i64 j∧q= .int .i64 m∧1≤m∧m≤90000000∧Hid (m=k+(aF (fun _:az=>3) (l.take j):Nat)∧Below w.heap.size w wr)) (fun _ i _=>l.length - (intOf i).toNat)
 case atStart=>exact ⟨0,k,Ky _,rfl,rfl,h0,by have:=HR.I.2; omega,⟨by simp [aF],Kp _ _⟩⟩
 case round=>
  obtain ⟨j,m,hj,rfl,rfl,m0,m1,HA⟩:=hrel;by_cases hlt:j < l.length
  ·have i0:(0:Int)≤(j:Int):=by omega
   have i1:(j:Int) < (l.length:Int):=by omega
   obtain ⟨x,hx⟩: ∃ x,l[j]? =some x:=⟨_,Kz hlt⟩
   have qw:=du (c:=fun _:az=>3) hx;have hup:=gK (c:=fun _:az=>3) hx;have hg:=jK (f:=dZ) (c:=fun _:az=>3) (k:=k) hx;rw [← HA.I.1] at hg;obtain ⟨g,ha,hat⟩:=(HR.I.1.below HA.I.2).at hg;have c0:wr.cell? ⟨g,j * 3,none⟩=some (.int .i64 (m)):=hat 0 _ rfl;have c1:wr.cell? ⟨g,j * 3+1,none⟩=some (.bool ((m+1) % 3 == 0)):=hat 1 _ rfl;have c2:wr.cell? ⟨g,j * 3+2,none⟩=some (.string (cu (m+1+1))):=hat 2 _ rfl;have HX:Hid (m+3≤90000000∧m+3=k+(aF (fun _:az=>3) (l.take (j+1)):Nat)∧a=some ⟨g,0,none⟩∧(aJ dZ (fun _=>3) k l)[j]? =some (dZ m x)):=⟨by have:=HR.I.2; have:=HA.I.1; omega,by have:=HA.I.1; omega,ha,hg⟩
   have m2:m+3≤90000000:=HX.I.1;subst ha;clear hx qw hup hg hat;go_wp2_with fail;have HT:Hid (vw w (some ⟨g,0,none⟩) (aJ dZ (fun _=>3) k l) g j (m+1+1) wr.drew):=⟨c2,(HR.I.1.below HA.I.2).below (Kp _ _).drew,HA.I.2.drew⟩
   clear c0 c1 c2;refine aT (vw w (some ⟨g,0,none⟩) (aJ dZ (fun _=>3) k l) g j (m+1+1)) (by kernel_rfl) HT.I ?_
   iterate 6 (refine PI ?_ (hy:=fun w0 hS0=>by obtain ⟨q0,hH⟩:=hS0; go_simp; try with_reducible rfl))
   refine cl (.string (cu (m+1+1))) 118 #[.int .i64 (m+1+1)] ?_ ?_ ?_
   ·intro w0 hS0
    obtain ⟨q0,hH⟩:=hS0
    go_simp
    try with_reducible rfl
   ·intro w0 hS0
    refine (fh (m+1+1) (by omega) (by omega) w0).mono ?_;rintro e w2 ⟨rfl,hb2⟩;exact ⟨rfl,(J1 (hb2.block g (Le hS0.1))).trans hS0.1,hS0.2.I.1.below hb2,hS0.2.I.2.trans (hb2.mono hS0.2.I.2.size)⟩
   simp only [pt,sb,s0,s1]
   (refine PI ?_ (hy:=fun w0 hS0=>by obtain ⟨q0,hH⟩:=hS0; go_simp; try with_reducible rfl))
   refine bk (by kernel_rfl) ?_ _;intro w1 cm;have HZ:Hid (Below w.heap.size w w1):=cm.2.I.2;clear cm HT;go_wp2;go_roundw
   case rel=>exact ⟨j+1,m+3,by omega,by go_num,by go_num,by omega,by omega,⟨HX.I.2.1,HZ.I⟩⟩
   case measure=>simp [intOf]; omega
  ·have i1: ¬ (j:Int) < (l.length:Int):=by omega
   have HE:Hid (m=k+(aF (fun _:az=>3) l:Nat)):=by have h6:=HA.I.1; rw [KF (by omega)] at h6; exact h6
   go_wp2;go_ret;exact ⟨ck HE.I,HA.I.2⟩
def mkStr (k:Int) (_:ByteArray):ByteArray:=cu (k)
theorem uu (a:Option Addr) (l:List ByteArray) (cap:Nat) (k:Int) (w:World) (base:Nat) (hl:l.length≤1048576) (h0:1≤k) (h1:k+(aF (fun _=>1) l:Nat)≤90000000) (ho:w.ownsRow base 9 1 (.slice a l.length cap) l.length (bT.flat l)):
  Calls J3 119 #[.slice a l.length cap,.int .i64 k] w fun e w'=>e= .returned (.int .i64 (k+(aF (fun _=>1) l:Nat)))∧w'.ownsRow base 9 1 (.slice a l.length cap) l.length (bT.flat (aJ mkStr (fun _=>1) k l))∧aI w w' (blk a):=by
 by_cases hz:l.length=0
 ·have hl0:l= [] :=List.eq_nil_of_length_eq_zero hz
  subst hl0;have HO:Hid (w.ownsRow base 9 1 (.slice a 0 cap) 0 (bT.flat [])):=ho;clear ho
  go_enter Tryz.func119,Tryz.ntmps119
  go_wp2_with fail
  go_loopw [1,5] (fun q i wr=>q= .int .i64 k∧i= .int .i64 0∧wr=w) (fun _ _ _=>0)
  case atStart=>exact ⟨rfl,rfl,rfl⟩
  case round=>
   obtain ⟨rfl,rfl,rfl⟩:=hrel;go_wp2;go_ret;exact ⟨ck (by simp [aF]),HO.I,aI.refl _ _⟩
 obtain ⟨g,rfl,hrow⟩:=bl.fX (K:=bT) ho hz;have HR:Hid (bl bT 9 w base g cap l):=hrow;have HB:Hid (k+(aF (fun _:ByteArray=>1) l:Nat)≤90000000):=h1;clear ho hrow h1 hz
 go_enter Tryz.func119,Tryz.ntmps119
 go_wp2_with fail
 go_loopw [1,5] (fun q i wr=> ∃ (j:Nat) (m:Int),j≤l.length∧i= .int .i64 j∧q= .int .i64 m∧1≤m∧m≤90000000∧Hid (m=k+(aF (fun _:ByteArray=>1) (l.take j):Nat)∧bl bT 9 wr base g cap (aJ mkStr (fun _=>1) k (l.take j) ++ l.drop j)∧aI w wr [g])) (fun _ i _=>l.length - (intOf i).toNat)
 case atStart=>exact ⟨0,k,Ky _,rfl,rfl,h0,by have:=HB.I; omega,⟨by simp [aF],HR.I,aI.refl _ _⟩⟩
 case round=>
  clear HR;obtain ⟨j,m,hj,rfl,rfl,m0,m1,HA⟩:=hrel;by_cases hlt:j < l.length
  ·have i0:(0:Int)≤(j:Int):=by omega
   have i1:(j:Int) < (l.length:Int):=by omega
   obtain ⟨x,hx⟩: ∃ x,l[j]? =some x:=⟨_,Kz hlt⟩
   have pI:l.drop j=x :: l.drop (j+1):=mz hx;have qw:=du (c:=fun _:ByteArray=>1) hx;have hup:=gK (c:=fun _:ByteArray=>1) hx;have HX:Hid (l[j]? =some x∧m+1≤90000000∧m+1=k+(aF (fun _:ByteArray=>1) (l.take (j+1)):Nat)):=⟨hx,by have:=HB.I; have:=HA.I.1; omega,by have:=HA.I.1; omega⟩
   have HW:Hid (bl bT 9 wr base g cap (aJ mkStr (fun _=>1) k (l.take j) ++ x :: l.drop (j+1))∧(aJ mkStr (fun _=>1) k (l.take j)).length=j):=⟨by have:=HA.I.2.1; rwa [pI] at this,by rw [bE,Lk]; omega⟩
   clear hx pI qw hup;have m2:m+1≤90000000:=HX.I.2.1;have hgl:g < wr.heap.size:=HW.I.1.lt;go_wp2_with fail;refine (fh (m) (by omega) (by omega) _).mono ?_;rintro e v0 ⟨rfl,hb0⟩;have HV0:Hid (bl bT 9 v0 base g cap (aJ mkStr (fun _=>1) k (l.take j) ++ (x) :: l.drop (j+1))∧(aJ mkStr (fun _=>1) k (l.take j)).length=j):=⟨HW.I.1.same (hb0.block g HW.I.1.lt),HW.I.2⟩
   have HV0K:Hid (aI w v0 [g]):=HA.I.2.2.trans (aI.dI hb0);clear hb0;have q0:=bl.eO HV0.I.1 HV0.I.2 (r:=0) (by decide:0 < bT.n);obtain ⟨⟨u0,c0⟩,f0⟩:(∃ u,v0.cell? ⟨g,j,none⟩=some u)∧v0.frozen? ⟨g,j,none⟩=false:=by have h5:=q0; rw [show j * bT.n+0=j by show j * 1+0=j; omega] at h5; exact h5
   have h5:=bl.part (K:=bT) (x:=x) (y:=(cu (m))) (j:=0) (vs:= [.string (cu (m))]) HV0.I.1 (by show 0+1≤1; omega) (fun r hr=>by match r,hr with | 0,_=>rfl) (fun r hr hn=>by match r,hr,hn with | 0,_,hn=>exact absurd ⟨by omega,by show 0 < 0+1; omega⟩ hn );rw [HV0.I.2,show bT.n=1 from rfl] at h5;simp only [bn,Nat.mul_one,PT] at h5;have ES:Hid (bl bT 9 (v0.setCell ⟨g,j,none⟩ (.string (cu (m)))) base g cap (aJ mkStr (fun _=>1) k (l.take j) ++ (cu (m)) :: l.drop (j+1))∧(aJ mkStr (fun _=>1) k (l.take j)).length=j):=⟨h5,HV0.I.2⟩
   have h6:aI w (bn v0 g (j) [.string (cu (m))]) [g] :=HV0K.I.trans (aI.set _ (by simp));simp only [bn] at h6;have zy:Hid (aI w (v0.setCell ⟨g,j,none⟩ (.string (cu (m)))) [g]):=h6;clear h6;clear h5;have HN:Hid (bl bT 9 (v0.setCell ⟨g,j,none⟩ (.string (cu (m)))) base g cap (aJ mkStr (fun _=>1) k (l.take (j+1)) ++ l.drop (j+1))∧aI w (v0.setCell ⟨g,j,none⟩ (.string (cu (m)))) [g]):=⟨by rw [kE HX.I.1,Lm,← HA.I.1]; exact ES.I.1,zy.I⟩
   go_wp2;go_roundw
   case rel=>exact ⟨j+1,m+1,by omega,by go_num,by go_num,by omega,by omega,⟨HX.I.2.2,HN.I.1,HN.I.2⟩⟩
   case measure=>simp [intOf]; omega
  ·have i1: ¬ (j:Int) < (l.length:Int):=by omega
   have ej:j=l.length:=by omega
   subst ej;have HE:Hid (bl bT 9 wr base g cap (aJ mkStr (fun _=>1) k l)∧m=k+(aF (fun _:ByteArray=>1) l:Nat)):=by have h5:=HA.I.2.1; have h6:=HA.I.1; rw [LQ,List.drop_length,QO] at h5; rw [LQ] at h6; exact ⟨h5,h6⟩
   go_wp2;go_ret;refine ⟨ck HE.I.2,?_,HA.I.2.2.mono (by simp [blk])⟩;have h7:=HE.I.1.owns;rw [bE] at h7;exact h7
def B7 (w:World) (a:Option Addr) (l:List ByteArray) (g j:Nat) (m:Int) (w':World):Prop:=w'.cell? ⟨g,j,none⟩=some (.string (cu m))∧Hid (bT.bU w' a l∧Below w.heap.size w w')
theorem uo (a:Option Addr) (l:List ByteArray) (cap:Nat) (k:Int) (w:World) (hl:l.length≤1048576) (h0:1≤k) (h1:k+(aF (fun _=>1) l:Nat)≤90000000) (hr:bT.bU w a (aJ mkStr (fun _=>1) k l)):
  Calls J3 121 #[.slice a l.length cap,.int .i64 k] w fun e w'=>e= .returned (.int .i64 (k+(aF (fun _=>1) l:Nat)))∧Below w.heap.size w w':=by
 have HR:Hid (bT.bU w a (aJ mkStr (fun _=>1) k l)∧k+(aF (fun _:ByteArray=>1) l:Nat)≤90000000):=⟨hr,h1⟩
 clear hr h1
 go_enter Tryz.func121,Tryz.ntmps121
 go_wp2_with fail
 go_loopw [1,5] (fun q i wr=> ∃ (j:Nat) (m:Int),j≤l.length∧i= .int .i64 j∧q= .int .i64 m∧1≤m∧m≤90000000∧Hid (m=k+(aF (fun _:ByteArray=>1) (l.take j):Nat)∧Below w.heap.size w wr)) (fun _ i _=>l.length - (intOf i).toNat)
 case atStart=>exact ⟨0,k,Ky _,rfl,rfl,h0,by have:=HR.I.2; omega,⟨by simp [aF],Kp _ _⟩⟩
 case round=>
  obtain ⟨j,m,hj,rfl,rfl,m0,m1,HA⟩:=hrel;by_cases hlt:j < l.length
  ·have i0:(0:Int)≤(j:Int):=by omega
   have i1:(j:Int) < (l.length:Int):=by omega
   obtain ⟨x,hx⟩: ∃ x,l[j]? =some x:=⟨_,Kz hlt⟩
   have qw:=du (c:=fun _:ByteArray=>1) hx;have hup:=gK (c:=fun _:ByteArray=>1) hx;have hg:=jK (f:=mkStr) (c:=fun _:ByteArray=>1) (k:=k) hx;rw [← HA.I.1] at hg;obtain ⟨g,ha,hat⟩:=(HR.I.1.below HA.I.2).at hg;have c0:wr.cell? ⟨g,j,none⟩=some (.string (cu (m))):=by have h5:=hat 0 _ rfl; rw [show j * bT.n+0=j by show j * 1+0=j; omega] at h5; exact h5
   have HX:Hid (m+1≤90000000∧m+1=k+(aF (fun _:ByteArray=>1) (l.take (j+1)):Nat)∧a=some ⟨g,0,none⟩∧(aJ mkStr (fun _=>1) k l)[j]? =some (mkStr m x)):=⟨by have:=HR.I.2; have:=HA.I.1; omega,by have:=HA.I.1; omega,ha,hg⟩
   have m2:m+1≤90000000:=HX.I.1;subst ha;clear hx qw hup hg hat;go_wp2_with fail;have HT:Hid (B7 w (some ⟨g,0,none⟩) (aJ mkStr (fun _=>1) k l) g j (m) wr.drew):=⟨c0,(HR.I.1.below HA.I.2).below (Kp _ _).drew,HA.I.2.drew⟩
   clear c0;refine aT (B7 w (some ⟨g,0,none⟩) (aJ mkStr (fun _=>1) k l) g j (m)) (by kernel_rfl) HT.I ?_
   iterate 5 (refine PI ?_ (hy:=fun w0 hS0=>by obtain ⟨q0,hH⟩:=hS0; go_simp; try with_reducible rfl))
   refine cl (.string (cu (m))) 118 #[.int .i64 (m)] ?_ ?_ ?_
   ·intro w0 hS0
    obtain ⟨q0,hH⟩:=hS0
    go_simp
    try with_reducible rfl
   ·intro w0 hS0
    refine (fh (m) (by omega) (by omega) w0).mono ?_;rintro e w2 ⟨rfl,hb2⟩;exact ⟨rfl,(J1 (hb2.block g (Le hS0.1))).trans hS0.1,hS0.2.I.1.below hb2,hS0.2.I.2.trans (hb2.mono hS0.2.I.2.size)⟩
   simp only [pt,sb,s0,s1]
   (refine PI ?_ (hy:=fun w0 hS0=>by obtain ⟨q0,hH⟩:=hS0; go_simp; try with_reducible rfl))
   refine bk (by kernel_rfl) ?_ _;intro w1 cm;have HZ:Hid (Below w.heap.size w w1):=cm.2.I.2;clear cm HT;go_wp2;go_roundw
   case rel=>exact ⟨j+1,m+1,by omega,by go_num,by go_num,by omega,by omega,⟨HX.I.2.1,HZ.I⟩⟩
   case measure=>simp [intOf]; omega
  ·have i1: ¬ (j:Int) < (l.length:Int):=by omega
   have HE:Hid (m=k+(aF (fun _:ByteArray=>1) l:Nat)):=by have h6:=HA.I.1; rw [KF (by omega)] at h6; exact h6
   go_wp2;go_ret;exact ⟨ck HE.I,HA.I.2⟩
end
section
open Go.RowKit
section
variable {ops:Array Oper} {rest:List Oper} {o:Oper} {a:Act} {w:World} {Q:Exit→Act→World→Prop} {fn:Func} {R:Ending→World→Prop} {p u:Tmp} {old:Array Value}
theorem ec (n m:Nat) {g:Nat} (cs:Array Value) (hg:w.heap[g]? =some (.cells old 48 (0,0))) (h:wpList J3 ops Q rest (a.put o.dst undef) (w.setRow g cs)) (hgd:o.guard=none:=by exact rfl) (ho:o.op= .store 48 (.tmp n) (.tmp m):=by exact rfl)
  (hx:a.eval (.tmp n)= .pointer (some ⟨g,0,none⟩):=by exact rfl) (hy:a.eval (.tmp m)= .agg cs:=by exact rfl) (hi:(Tryz.prog.info? 48).map (·.size)=some cs.size:=by kernel_rfl) (hs:old.size=cs.size:=by exact rfl) (h1:cs.all (·.oneCell')=true:=by kernel_rfl):wpList J3 ops Q (o :: rest) a w:=
 wpList_store_row hgd 48 (.tmp n) (.tmp m) ho g _ old cs hx hy hg hi hs h1 h
theorem gZ (hr:fn.results= #[.cell p 48]) {g:Nat} {cs:Array Value} (hg:w.heap[g]? =some (.cells old 48 (0,0))) (h:R (.returned (.agg cs)) (w.setRow g cs)) (hp:a.tmps.getD p undef= .pointer (some ⟨g,0,none⟩):=by exact rfl) (hd:a.defers= [] :=by exact rfl)
  (hi:(Tryz.prog.info? 48).map (·.size)=some cs.size:=by kernel_rfl):bodyPost J3 fn R .ret a (w.setRow g cs):=
 KT (v:= .agg cs) (results_cell_row hr _ _ g _ _ (0,0) _ hp (KU _ _ _ _ _ _ hg) Tryz.underlying48 rfl hi) hd h
theorem mG (hr:fn.results= #[.cell p 48,.tmp u]) {g:Nat} {cs:Array Value} (v:Value) (hg:w.heap[g]? =some (.cells old 48 (0,0))) (h:R (.returned (.tuple #[.agg cs,v])) (w.setRow g cs)) (hp:a.tmps.getD p undef= .pointer (some ⟨g,0,none⟩):=by rfl) (hv:a.tmps.getD u undef=v:=by exact rfl) (hd:a.defers= [] :=by exact rfl)
  (hi:(Tryz.prog.info? 48).map (·.size)=some cs.size:=by kernel_rfl):bodyPost J3 fn R .ret a (w.setRow g cs):=
 KT (v:= .tuple #[.agg cs,v]) (by rw [← hv]; exact bL hr _ _ g _ _ _ _ hp (KU _ _ _ _ _ _ hg) Tryz.underlying48 rfl hi) hd h
end
def mY {α:Type} (K:Kind α) (T:TypeId) (w:World) (l:List α) (e:Ending) (w':World):Prop:= ∃ a cap,e= .returned (.slice a l.length cap)∧w'.ownsRow w.heap.size T K.n (.slice a l.length cap) l.length (K.flat l)∧Below w.heap.size w w'
end
end Go.Proofs.YteidkehoekbcaaaGreat
