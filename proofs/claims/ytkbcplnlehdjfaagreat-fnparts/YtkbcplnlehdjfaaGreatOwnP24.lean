/- What the proof leans on, part 24. -/
import Derived.Test.YtkbcplnlehdjfaaGreatOwnP23
import Derived.Laws.CopyOwn
set_option maxRecDepth 100000
set_option maxHeartbeats 8000000
open Array renaming getElem?_eq_some_iff->J2
open Function renaming comp_def->Ls
open Go renaming heap_alloc_new->Kj,setRow_other->KH,wp_at_succ->Kd,wp_at_zero->Kc
open Go.RowKit.Below renaming refl->Kp
open List renaming getElem_cons_succ->K1,getElem_cons_zero->K0,getElem_toArray->KZ,mem_append->Kg,mem_map->Lr,nodup_append->Kf,setIfInBounds_toArray->Qr,set_cons_succ->Lo,set_cons_zero->Ln
open Nat renaming le_refl->Ki
open Option.some renaming inj->KC

namespace Go.Proofs.YtkbcplnlehdjfaaGreat
section
open Go.RowKit
attribute [local go_sem ↓] Kc Kd

end
section
open Go.RowKit
def four (a b c d:List Nat):Nat→List Nat
 | 0=>a
 | 1=>b
 | 2=>c
 | 3=>d
 | _=> []
structure mJ (n0 n:Nat) (X:Nat→List Nat):Prop where
 apart: ∀ i j,i≠j→ ∀ q∈X i,q∉X j
 xy: ∀ i,∀ q∈X i,n0≤q∧q < n
theorem mJ.up {n0 n n':Nat} {X X':Nat→List Nat} (h:mJ n0 n X) (k:Nat) (hk: ∀ j,j≠k→X' j=X j) (hx: ∀ q∈X' k,q∈X k∨q=n) (hn:n < n') (h0:n0≤n):mJ n0 n' X':=by
 refine ⟨fun i j hij q hi hj=> ?_,fun i q hi=> ?_⟩
 ·by_cases ei:i=k
  ·subst ei
   rw [hk j (Ne.symm hij)] at hj;rcases hx q hi with h1 | rfl
   ·exact h.apart i j hij q h1 hj
   ·have:=(h.xy j q hj).2; omega
  ·rw [hk i ei] at hi
   by_cases ej:j=k
   ·subst ej
    rcases hx q hj with h1 | rfl
    ·exact h.apart i j hij q hi h1
    ·have:=(h.xy i q hi).2; omega
   ·rw [hk j ej] at hj
    exact h.apart i j hij q hi hj
 ·by_cases ei:i=k
  ·subst ei
   rcases hx q hi with h1 | rfl
   ·have:=h.xy i q h1; omega
   ·omega
  ·rw [hk i ei] at hi
   have:=h.xy i q hi
   omega
theorem mJ.mono {n0 n n':Nat} {X:Nat→List Nat} (h:mJ n0 n X) (hn:n≤n'):mJ n0 n' X:=⟨h.apart,fun i q hq=>by have:=h.xy i q hq; omega⟩
structure fI (p:af) (We w:World) (b0 d0 b1 d1 b2 d2 b3 d3 e:Bool) (g0 g1 g2 o:Nat) (a0 a1 a2:Option Addr) (c0 c1 c2:Nat):Prop where
 cd:Below We.heap.size We w
 part:av w We.heap.size p
 ret:w.heap[We.heap.size+1]? =some (.cells ar 32 (0,0))
 s0:su w (We.heap.size+2) 49 3 p.aj.length (dm.flat p.aj) b0 d0 g0 a0 c0
 s1:su w (We.heap.size+2) 138 2 p.L9.length (bJ.flat p.L9) b1 d1 g1 a1 c1
 s2:su w (We.heap.size+2) 141 3 p.ag.length (bG.flat p.ag) b2 d2 g2 a2 c2
 I:b3=true→w.heap[o]? =some (.cells (bif d3 then #[.int .i64 p.id,.int .i64 p.next,.slice none 0 0,.slice a0 p.aj.length c0,.slice a1 p.L9.length c1,.slice a2 p.ag.length c2,.slice none 0 0,.slice none 0 0] else ar) 32 (0,0))
 cl:(e=true→d0=true∧d1=true∧d2=true)∧(d3=true→e=true∧b3=true)
 size:We.heap.size+2≤w.heap.size
 pR:mJ (We.heap.size+2) w.heap.size (four (bM b0 d0 g0 a0) (bM b1 d1 g1 a1) (bM b2 d2 g2 a2) (bif b3 then [o] else []))
section
variable {p:af} {We w:World} {b0 d0 b1 d1 b2 d2 b3 d3 e:Bool} {g0 g1 g2 o:Nat} {a0 a1 a2:Option Addr} {c0 c1 c2:Nat}
theorem fI.make0 (h:fI p We w false d0 b1 d1 b2 d2 b3 d3 e g0 g1 g2 o a0 a1 a2 c0 c1 c2):fI p We (w.alloc (.cells #[] 49)) true d0 b1 d1 b2 d2 b3 d3 e w.heap.size g1 g2 o a0 a1 a2 c0 c1 c2:=by
 have hb:Below w.heap.size w (w.alloc (.cells #[] 49)):=(Kp _ _).alloc (Ki _) _;have hlt: ∀ i,∀ q∈four (bM false d0 g0 a0) (bM b1 d1 g1 a1) (bM b2 d2 g2 a2) (bif b3 then [o] else []) i,q < w.heap.size:=fun i q hq=>(h.pR.xy i q hq).2
 exact ⟨h.cd.trans (hb.mono h.cd.size),h.part.below hb,(hb.block _ (by have:=h.size; omega)).trans h.ret,⟨fun _ hd=>⟨Kj _ _,h.size⟩,fun hd=>aL (h.s0.done hd) fun q hq=>hb.block q (hlt 0 q (by subst hd; simpa [four,bM] using hq))⟩,h.s1.same fun q hq=>hb.block q (hlt 1 q hq),h.s2.same fun q hq=>hb.block q (hlt 2 q hq),fun e=>(hb.block _ (hlt 3 o (by simp [four,e]))).trans (h.I e),h.cl,by have:=h.size; simp; omega,h.pR.up 0 (fun j hj=>by rcases j with _ | _ | _ | _ | _ <;> first | rfl | exact absurd rfl hj) (fun q hq=>by cases d0 with | true=>exact .inl (by simpa [four,bM] using hq) | false=>exact .inr (by simpa [four,bM] using hq)) (by simp) h.size⟩
theorem fI.make1 (h:fI p We w b0 d0 false d1 b2 d2 b3 d3 e g0 g1 g2 o a0 a1 a2 c0 c1 c2):fI p We (w.alloc (.cells #[] 138)) b0 d0 true d1 b2 d2 b3 d3 e g0 w.heap.size g2 o a0 a1 a2 c0 c1 c2:=by
 have hb:Below w.heap.size w (w.alloc (.cells #[] 138)):=(Kp _ _).alloc (Ki _) _;have hlt: ∀ i,∀ q∈four (bM b0 d0 g0 a0) (bM false d1 g1 a1) (bM b2 d2 g2 a2) (bif b3 then [o] else []) i,q < w.heap.size:=fun i q hq=>(h.pR.xy i q hq).2
 exact ⟨h.cd.trans (hb.mono h.cd.size),h.part.below hb,(hb.block _ (by have:=h.size; omega)).trans h.ret,h.s0.same fun q hq=>hb.block q (hlt 0 q hq),⟨fun _ hd=>⟨Kj _ _,h.size⟩,fun hd=>aL (h.s1.done hd) fun q hq=>hb.block q (hlt 1 q (by subst hd; simpa [four,bM] using hq))⟩,h.s2.same fun q hq=>hb.block q (hlt 2 q hq),fun e=>(hb.block _ (hlt 3 o (by simp [four,e]))).trans (h.I e),h.cl,by have:=h.size; simp; omega,h.pR.up 1 (fun j hj=>by rcases j with _ | _ | _ | _ | _ <;> first | rfl | exact absurd rfl hj) (fun q hq=>by cases d1 with | true=>exact .inl (by simpa [four,bM] using hq) | false=>exact .inr (by simpa [four,bM] using hq)) (by simp) h.size⟩
theorem fI.make2 (h:fI p We w b0 d0 b1 d1 false d2 b3 d3 e g0 g1 g2 o a0 a1 a2 c0 c1 c2):fI p We (w.alloc (.cells #[] 141)) b0 d0 b1 d1 true d2 b3 d3 e g0 g1 w.heap.size o a0 a1 a2 c0 c1 c2:=by
 have hb:Below w.heap.size w (w.alloc (.cells #[] 141)):=(Kp _ _).alloc (Ki _) _;have hlt: ∀ i,∀ q∈four (bM b0 d0 g0 a0) (bM b1 d1 g1 a1) (bM false d2 g2 a2) (bif b3 then [o] else []) i,q < w.heap.size:=fun i q hq=>(h.pR.xy i q hq).2
 exact ⟨h.cd.trans (hb.mono h.cd.size),h.part.below hb,(hb.block _ (by have:=h.size; omega)).trans h.ret,h.s0.same fun q hq=>hb.block q (hlt 0 q hq),h.s1.same fun q hq=>hb.block q (hlt 1 q hq),⟨fun _ hd=>⟨Kj _ _,h.size⟩,fun hd=>aL (h.s2.done hd) fun q hq=>hb.block q (hlt 2 q (by subst hd; simpa [four,bM] using hq))⟩,fun e=>(hb.block _ (hlt 3 o (by simp [four,e]))).trans (h.I e),h.cl,by have:=h.size; simp; omega,h.pR.up 2 (fun j hj=>by rcases j with _ | _ | _ | _ | _ <;> first | rfl | exact absurd rfl hj) (fun q hq=>by cases d2 with | true=>exact .inl (by simpa [four,bM] using hq) | false=>exact .inr (by simpa [four,bM] using hq)) (by simp) h.size⟩
theorem fI.copy0 {w2:World} {a:Option Addr} {c:Nat} (h:fI p We w true false b1 d1 b2 d2 b3 d3 e g0 g1 g2 o a0 a1 a2 c0 c1 c2) (ho:w2.ownsRow (We.heap.size+2) 49 3 (.slice a p.aj.length c) p.aj.length (dm.flat p.aj)) (hg:w.grownBy w2 (some g0)) (hq: ∀ q∈blk a,q=g0∨q=w.heap.size):fI p We w2 true true b1 d1 b2 d2 b3 d3 e g0 g1 g2 o a a1 a2 c c1 c2:=by
 have hlt: ∀ i,∀ q∈four (bM true false g0 a0) (bM b1 d1 g1 a1) (bM b2 d2 g2 a2) (bif b3 then [o] else []) i,q < w.heap.size:=fun i q hq=>(h.pR.xy i q hq).2
 have hgl:We.heap.size+2≤g0∧g0 < w.heap.size:=h.pR.xy 0 g0 (by simp [four,bM]);have hne: ∀ i,i≠0→ ∀ q∈four (bM true false g0 a0) (bM b1 d1 g1 a1) (bM b2 d2 g2 a2) (bif b3 then [o] else []) i,w2.heap[q]? =w.heap[q]? :=fun i hi q hq=>hg.block q (hlt i q hq) fun e=>h.pR.apart i 0 hi q hq (by rw [KC e]; simp [four,bM])
 have hbe:Below We.heap.size We w2:=h.cd.grown hg (by have:=h.size; omega) (fun k hk=>by cases hk; omega);have he:e=false:=by cases e with | false=>rfl | true=>have:=h.cl.1 rfl; simp at this
 have hd:d3=false:=by cases hx:d3 with | false=>rfl | true=>rw [(h.cl.2 hx).1] at he; cases he
 subst he hd;have hz:=hg.size;have hsz:=h.size;refine ⟨hbe,(hg.block _ (by omega) (fun e=>by have:=KC e; omega)).trans h.part,(hg.block _ (by omega) (fun e=>by have:=KC e; omega)).trans h.ret,⟨(fun _ hd=>by cases hd),fun _=>ho⟩,h.s1.same fun q hq=>hne 1 (by decide) q hq,h.s2.same fun q hq=>hne 2 (by decide) q hq,fun e=>(hne 3 (by decide) o (by simp [four,e])).trans (h.I e),⟨(fun e=>by cases e),fun e=>by cases e⟩,by omega,?_⟩;by_cases hnew: ∃ q∈blk a,q=w.heap.size
 ·obtain ⟨q0,nu,hqe⟩:=hnew
  have hw2:=(cf ho nu).2;refine h.pR.up 0 (fun j hj=>by rcases j with _ | _ | _ | _ | _ <;> first | rfl | exact absurd rfl hj) (fun q hq'=> ?_) (by omega) hsz;have h5:q∈blk a:=by simpa [four,bM] using hq'
  rcases hq q h5 with h6 | h6
  ·exact .inl (by rw [h6]; simp [four,bM])
  ·exact .inr h6
 ·have hall: ∀ q∈blk a,q=g0:=fun q hq'=>(hq q hq').resolve_right fun e=>hnew ⟨q,hq',e⟩
  refine mJ.mono (n:=w.heap.size) ⟨fun i i2 hij q hi hi2=> ?_,fun i q hi=> ?_⟩ hz
  ·have e1: ∀ i,∀ q∈four (bM true true g0 a) (bM b1 d1 g1 a1) (bM b2 d2 g2 a2) (bif b3 then [o] else []) i,q∈four (bM true false g0 a0) (bM b1 d1 g1 a1) (bM b2 d2 g2 a2) (bif b3 then [o] else []) i:=fun i q hq'=>by
    by_cases ei:i=0
    ·subst ei
     have h5:q∈blk a:=by simpa [four,bM] using hq'
     rw [hall q h5];simp [four,bM]
    ·rcases i with _ | _ | _ | _ | _ <;> first | exact hq' | exact absurd rfl ei
   exact h.pR.apart i i2 hij q (e1 i q hi) (e1 i2 q hi2)
  ·by_cases ei:i=0
   ·subst ei
    have h5:q∈blk a:=by simpa [four,bM] using hi
    rw [hall q h5];exact hgl
   ·exact h.pR.xy i q (by rcases i with _ | _ | _ | _ | _ <;> first | exact hi | exact absurd rfl ei)
theorem fI.copy1 {w2:World} {a:Option Addr} {c:Nat} (h:fI p We w b0 d0 true false b2 d2 b3 d3 e g0 g1 g2 o a0 a1 a2 c0 c1 c2) (ho:w2.ownsRow (We.heap.size+2) 138 2 (.slice a p.L9.length c) p.L9.length (bJ.flat p.L9)) (hg:w.grownBy w2 (some g1)) (hq: ∀ q∈blk a,q=g1∨q=w.heap.size):fI p We w2 b0 d0 true true b2 d2 b3 d3 e g0 g1 g2 o a0 a a2 c0 c c2:=by
 have hlt: ∀ i,∀ q∈four (bM b0 d0 g0 a0) (bM true false g1 a1) (bM b2 d2 g2 a2) (bif b3 then [o] else []) i,q < w.heap.size:=fun i q hq=>(h.pR.xy i q hq).2
 have hgl:We.heap.size+2≤g1∧g1 < w.heap.size:=h.pR.xy 1 g1 (by simp [four,bM]);have hne: ∀ i,i≠1→ ∀ q∈four (bM b0 d0 g0 a0) (bM true false g1 a1) (bM b2 d2 g2 a2) (bif b3 then [o] else []) i,w2.heap[q]? =w.heap[q]? :=fun i hi q hq=>hg.block q (hlt i q hq) fun e=>h.pR.apart i 1 hi q hq (by rw [KC e]; simp [four,bM])
 have hbe:Below We.heap.size We w2:=h.cd.grown hg (by have:=h.size; omega) (fun k hk=>by cases hk; omega);have he:e=false:=by cases e with | false=>rfl | true=>have:=h.cl.1 rfl; simp at this
 have hd:d3=false:=by cases hx:d3 with | false=>rfl | true=>rw [(h.cl.2 hx).1] at he; cases he
 subst he hd;have hz:=hg.size;have hsz:=h.size;refine ⟨hbe,(hg.block _ (by omega) (fun e=>by have:=KC e; omega)).trans h.part,(hg.block _ (by omega) (fun e=>by have:=KC e; omega)).trans h.ret,h.s0.same fun q hq=>hne 0 (by decide) q hq,⟨(fun _ hd=>by cases hd),fun _=>ho⟩,h.s2.same fun q hq=>hne 2 (by decide) q hq,fun e=>(hne 3 (by decide) o (by simp [four,e])).trans (h.I e),⟨(fun e=>by cases e),fun e=>by cases e⟩,by omega,?_⟩;by_cases hnew: ∃ q∈blk a,q=w.heap.size
 ·obtain ⟨q0,nu,hqe⟩:=hnew
  have hw2:=(cf ho nu).2;refine h.pR.up 1 (fun j hj=>by rcases j with _ | _ | _ | _ | _ <;> first | rfl | exact absurd rfl hj) (fun q hq'=> ?_) (by omega) hsz;have h5:q∈blk a:=by simpa [four,bM] using hq'
  rcases hq q h5 with h6 | h6
  ·exact .inl (by rw [h6]; simp [four,bM])
  ·exact .inr h6
 ·have hall: ∀ q∈blk a,q=g1:=fun q hq'=>(hq q hq').resolve_right fun e=>hnew ⟨q,hq',e⟩
  refine mJ.mono (n:=w.heap.size) ⟨fun i i2 hij q hi hi2=> ?_,fun i q hi=> ?_⟩ hz
  ·have e1: ∀ i,∀ q∈four (bM b0 d0 g0 a0) (bM true true g1 a) (bM b2 d2 g2 a2) (bif b3 then [o] else []) i,q∈four (bM b0 d0 g0 a0) (bM true false g1 a1) (bM b2 d2 g2 a2) (bif b3 then [o] else []) i:=fun i q hq'=>by
    by_cases ei:i=1
    ·subst ei
     have h5:q∈blk a:=by simpa [four,bM] using hq'
     rw [hall q h5];simp [four,bM]
    ·rcases i with _ | _ | _ | _ | _ <;> first | exact hq' | exact absurd rfl ei
   exact h.pR.apart i i2 hij q (e1 i q hi) (e1 i2 q hi2)
  ·by_cases ei:i=1
   ·subst ei
    have h5:q∈blk a:=by simpa [four,bM] using hi
    rw [hall q h5];exact hgl
   ·exact h.pR.xy i q (by rcases i with _ | _ | _ | _ | _ <;> first | exact hi | exact absurd rfl ei)
theorem fI.copy2 {w2:World} {a:Option Addr} {c:Nat} (h:fI p We w b0 d0 b1 d1 true false b3 d3 e g0 g1 g2 o a0 a1 a2 c0 c1 c2) (ho:w2.ownsRow (We.heap.size+2) 141 3 (.slice a p.ag.length c) p.ag.length (bG.flat p.ag)) (hg:w.grownBy w2 (some g2)) (hq: ∀ q∈blk a,q=g2∨q=w.heap.size):fI p We w2 b0 d0 b1 d1 true true b3 d3 e g0 g1 g2 o a0 a1 a c0 c1 c:=by
 have hlt: ∀ i,∀ q∈four (bM b0 d0 g0 a0) (bM b1 d1 g1 a1) (bM true false g2 a2) (bif b3 then [o] else []) i,q < w.heap.size:=fun i q hq=>(h.pR.xy i q hq).2
 have hgl:We.heap.size+2≤g2∧g2 < w.heap.size:=h.pR.xy 2 g2 (by simp [four,bM]);have hne: ∀ i,i≠2→ ∀ q∈four (bM b0 d0 g0 a0) (bM b1 d1 g1 a1) (bM true false g2 a2) (bif b3 then [o] else []) i,w2.heap[q]? =w.heap[q]? :=fun i hi q hq=>hg.block q (hlt i q hq) fun e=>h.pR.apart i 2 hi q hq (by rw [KC e]; simp [four,bM])
 have hbe:Below We.heap.size We w2:=h.cd.grown hg (by have:=h.size; omega) (fun k hk=>by cases hk; omega);have he:e=false:=by cases e with | false=>rfl | true=>have:=h.cl.1 rfl; simp at this
 have hd:d3=false:=by cases hx:d3 with | false=>rfl | true=>rw [(h.cl.2 hx).1] at he; cases he
 subst he hd;have hz:=hg.size;have hsz:=h.size;refine ⟨hbe,(hg.block _ (by omega) (fun e=>by have:=KC e; omega)).trans h.part,(hg.block _ (by omega) (fun e=>by have:=KC e; omega)).trans h.ret,h.s0.same fun q hq=>hne 0 (by decide) q hq,h.s1.same fun q hq=>hne 1 (by decide) q hq,⟨(fun _ hd=>by cases hd),fun _=>ho⟩,fun e=>(hne 3 (by decide) o (by simp [four,e])).trans (h.I e),⟨(fun e=>by cases e),fun e=>by cases e⟩,by omega,?_⟩;by_cases hnew: ∃ q∈blk a,q=w.heap.size
 ·obtain ⟨q0,nu,hqe⟩:=hnew
  have hw2:=(cf ho nu).2;refine h.pR.up 2 (fun j hj=>by rcases j with _ | _ | _ | _ | _ <;> first | rfl | exact absurd rfl hj) (fun q hq'=> ?_) (by omega) hsz;have h5:q∈blk a:=by simpa [four,bM] using hq'
  rcases hq q h5 with h6 | h6
  ·exact .inl (by rw [h6]; simp [four,bM])
  ·exact .inr h6
 ·have hall: ∀ q∈blk a,q=g2:=fun q hq'=>(hq q hq').resolve_right fun e=>hnew ⟨q,hq',e⟩
  refine mJ.mono (n:=w.heap.size) ⟨fun i i2 hij q hi hi2=> ?_,fun i q hi=> ?_⟩ hz
  ·have e1: ∀ i,∀ q∈four (bM b0 d0 g0 a0) (bM b1 d1 g1 a1) (bM true true g2 a) (bif b3 then [o] else []) i,q∈four (bM b0 d0 g0 a0) (bM b1 d1 g1 a1) (bM true false g2 a2) (bif b3 then [o] else []) i:=fun i q hq'=>by
    by_cases ei:i=2
    ·subst ei
     have h5:q∈blk a:=by simpa [four,bM] using hq'
     rw [hall q h5];simp [four,bM]
    ·rcases i with _ | _ | _ | _ | _ <;> first | exact hq' | exact absurd rfl ei
   exact h.pR.apart i i2 hij q (e1 i q hi) (e1 i2 q hi2)
  ·by_cases ei:i=2
   ·subst ei
    have h5:q∈blk a:=by simpa [four,bM] using hi
    rw [hall q h5];exact hgl
   ·exact h.pR.xy i q (by rcases i with _ | _ | _ | _ | _ <;> first | exact hi | exact absurd rfl ei)
theorem fI.make3 (h:fI p We w b0 d0 b1 d1 b2 d2 false false e g0 g1 g2 o a0 a1 a2 c0 c1 c2):fI p We (w.alloc (.cells ar 32)) b0 d0 b1 d1 b2 d2 true false e g0 g1 g2 w.heap.size a0 a1 a2 c0 c1 c2:=by
 have hb:Below w.heap.size w (w.alloc (.cells ar 32)):=(Kp _ _).alloc (Ki _) _;have hlt: ∀ i,∀ q∈four (bM b0 d0 g0 a0) (bM b1 d1 g1 a1) (bM b2 d2 g2 a2) (bif false then [o] else []) i,q < w.heap.size:=fun i q hq=>(h.pR.xy i q hq).2
 exact ⟨h.cd.trans (hb.mono h.cd.size),h.part.below hb,(hb.block _ (by have:=h.size; omega)).trans h.ret,h.s0.same fun q hq=>hb.block q (hlt 0 q hq),h.s1.same fun q hq=>hb.block q (hlt 1 q hq),h.s2.same fun q hq=>hb.block q (hlt 2 q hq),fun _=>Kj _ _,⟨h.cl.1,fun e=>by cases e⟩,by have:=h.size; simp; omega,h.pR.up 3 (fun j hj=>by rcases j with _ | _ | _ | _ | _ <;> first | rfl | exact absurd rfl hj) (fun q hq=> .inr (by simpa [four] using hq)) (by simp) h.size⟩
theorem fI.build (h:fI p We w b0 d0 b1 d1 b2 d2 b3 d3 false g0 g1 g2 o a0 a1 a2 c0 c1 c2) (h0:d0=true) (h1:d1=true) (h2:d2=true):fI p We w b0 d0 b1 d1 b2 d2 b3 d3 true g0 g1 g2 o a0 a1 a2 c0 c1 c2:=⟨h.cd,h.part,h.ret,h.s0,h.s1,h.s2,h.I,⟨fun _=>⟨h0,h1,h2⟩,fun hd=>⟨rfl,(h.cl.2 hd).2⟩⟩,h.size,h.pR⟩
theorem fI.store (h:fI p We w b0 d0 b1 d1 b2 d2 true false true g0 g1 g2 o a0 a1 a2 c0 c1 c2):fI p We (w.setRow o #[.int .i64 p.id,.int .i64 p.next,.slice none 0 0,.slice a0 p.aj.length c0,.slice a1 p.L9.length c1,.slice a2 p.ag.length c2,.slice none 0 0,.slice none 0 0]) b0 d0 b1 d1 b2 d2 true true true g0 g1 g2 o a0 a1 a2 c0 c1 c2:=by
 have ho:=h.pR.xy 3 o (by simp [four]);have hne: ∀ q,q≠o→(w.setRow o #[.int .i64 p.id,.int .i64 p.next,.slice none 0 0,.slice a0 p.aj.length c0,.slice a1 p.L9.length c1,.slice a2 p.ag.length c2,.slice none 0 0,.slice none 0 0]).heap[q]? =w.heap[q]? :=fun q hq=>KH _ _ _ _ hq
 have hap: ∀ i,i≠3→ ∀ q∈four (bM b0 d0 g0 a0) (bM b1 d1 g1 a1) (bM b2 d2 g2 a2) [o] i,q≠o:=fun i hi q hq e=>h.pR.apart i 3 hi q hq (by subst e; simp [four])
 have hsz:=h.size;exact ⟨below_setRow h.cd (by omega) _,(hne _ (by omega)).trans h.part,(hne _ (by omega)).trans h.ret,h.s0.same fun q hq=>hne q (hap 0 (by decide) q hq),h.s1.same fun q hq=>hne q (hap 1 (by decide) q hq),h.s2.same fun q hq=>hne q (hap 2 (by decide) q hq),fun _=>setRow_heap _ _ _ _ _ _ (h.I rfl),⟨h.cl.1,fun _=>⟨rfl,rfl⟩⟩,by rw [size_setRow]; exact h.size,by rw [size_setRow]; exact h.pR⟩
end
end
section
open Go.RowKit Go.Maps
attribute [local go_sem ↓] Kc Kd
theorem Dv {kp kf kq r1 r2 r3 r4 r5 r6:List Nat} {N n1 n2 n3 n4 n5 n6:Nat} (hk:(kp ++ (kf ++ kq)).Nodup) (hkl: ∀ g∈kp ++ (kf ++ kq),g < N) (h1:nU N n1 r1) (h2:nU n1 n2 r2) (h3:nU n2 n3 r3) (h4:nU n3 n4 r4) (h5:nU n4 n5 r5) (h6:nU n5 n6 r6)
  (e:N≤n1∧n1≤n2∧n2≤n3∧n3≤n4∧n4≤n5∧n5≤n6):(r1 ++ (kp ++ (r2 ++ (r3 ++ (r4 ++ (r5 ++ (kf ++ (r6 ++ kq)))))))).Nodup:=by
 have hp:(r1 ++ (kp ++ (r2 ++ (r3 ++ (r4 ++ (r5 ++ (kf ++ (r6 ++ kq)))))))).Perm ((kp ++ (kf ++ kq)) ++ (r1 ++ (r2 ++ (r3 ++ (r4 ++ (r5 ++ r6)))))):=by
  rw [List.perm_iff_count];intro x;simp only [List.count_append];omega
 rw [hp.nodup_iff,Kf];have hr:nU N n6 (r1 ++ (r2 ++ (r3 ++ (r4 ++ (r5 ++ r6))))):=h1.append (h2.append (h3.append (h4.append (h5.append h6 (by omega) (by omega) (by omega)) (by omega) (by omega) (by omega)) (by omega) (by omega) (by omega)) (by omega) (by omega) (by omega)) (by omega) (by omega) (by omega);refine ⟨hk,hr.1,fun a ha b hb e=> ?_⟩
 have:=hkl a ha
 have:=(hr.2 b hb).1
 omega
theorem px {w:World} {base n size cap:Nat} {e:TypeId} {a:Option Addr} {xs:List Value} (h:w.ownsRow base e size (.slice a n cap) n xs):nU base w.heap.size (blk a):=⟨fN a,fun _ hg=>cf h hg⟩
structure aZ.Fits (S:aZ):Prop where
 dl:S.lp.length≤1048576
 Jl: ∀ p∈RW (fun x:ao=>x.id) S.lp,(Lit.int .i64 p.1).wf=true
 fx:S.ls.length≤1048576
 wSem: ∀ p∈RW (fun x:bD=>x.id) S.ls,(Lit.int .i64 p.1).wf=true
 cD:S.le.length≤1048576
 G4: ∀ p∈RW (fun x:aB=>x.id) S.le,(Lit.int .i64 p.1).wf=true
 cC:S.lb.length≤1048576
 FP: ∀ p∈RW (fun x:az=>x.id) S.lb,(Lit.int .i64 p.1).wf=true
 cb:S.lf.length≤1048576
 DW: ∀ p∈RW (fun x:au=>x.id) S.lf,(Lit.int .i64 p.1).wf=true
 dH:S.lq.length≤1048576
 Jz: ∀ p∈RW (fun x:aM=>x.id) S.lq,(Lit.int .i64 p.1).wf=true
def GR (o:Nat) (S:aZ) (w':World):Prop:=w'.cell? ⟨o,0,none⟩=some (.int .i64 S.q.id)∧w'.cell? ⟨o,1,none⟩=some (.int .i64 S.q.next)∧w'.cell? ⟨o,2,none⟩=some (.int .i64 6)∧w'.cell? ⟨o,3,none⟩=some (.map (some S.q.bp))∧w'.cell? ⟨o,4,none⟩=some (.int .i64 5)∧w'.cell? ⟨o,5,none⟩=some (.map (some S.q.bs))∧w'.cell? ⟨o,6,none⟩=some (.int .i64 5)∧w'.cell? ⟨o,7,none⟩=some (.map (some S.q.be))∧w'.cell? ⟨o,8,none⟩=some (.int .i64 5)∧w'.cell? ⟨o,9,none⟩=some (.map (some S.q.bb))∧w'.cell? ⟨o,10,none⟩=some (.int .i64 5)∧w'.cell? ⟨o,11,none⟩=some (.map (some S.q.bf))∧w'.cell? ⟨o,12,none⟩=some (.int .i64 5)∧w'.cell? ⟨o,13,none⟩=some (.map (some S.q.bq))
theorem kP {o:Nat} {S:aZ} {w:World} (h:fa w o S.q):GR o S w:=⟨h.cell 0,h.cell 1,h.cell 2,h.cell 3,h.cell 4,h.cell 5,h.cell 6,h.cell 7,h.cell 8,h.cell 9,h.cell 10,h.cell 11,h.cell 12,h.cell 13⟩
def Hc (w:World) (base:Nat) (v:aE) (e:Ending) (w':World):Prop:= ∃ r:af,e= .returned (.agg r.cells)∧ap w' base r∧r.pure=v∧Below w.heap.size w w'
theorem jR (o base:Nat) (S:aZ) (w:World) (h:cJ w base o S) (hf:S.Fits):Calls Tryz.prog 85 #[.pointer (some ⟨o,0,none⟩)] w fun e w'=>Hc w base S.pure e w':=by
 have hb0:Below w.heap.size w (w.alloc (.cells ar 32)):=(Kp _ _).alloc (Ki _) _;have HZ:Hid (cJ w base o S∧S.Fits∧Below w.heap.size w (w.alloc (.cells ar 32)).drew∧(w.alloc (.cells ar 32)).drew.heap[w.heap.size]? =some (.cells ar 32 (0,0))∧w.heap.size < (w.alloc (.cells ar 32)).drew.heap.size):=⟨h,hf,hb0.drew,Kj _ _,by simp⟩
 have HS:Hid (GR o S (w.alloc (.cells ar 32)).drew):=kP (h.opn.below hb0.drew);clear h hf hb0
 go_enter Tryz.func85,Tryz.ntmps85
 go_wp2_with fail;generalize w.alloc (.cells ar 32)=W at *;refine wp_region_held_drew (S:=GR o S) (by kernel_rfl) HS.I (fun hHeld=> ?_);refine tt 0 hHeld ?_ (hy:=fun w0 hS0=>by obtain ⟨q0,q1,q2,q3,q4,q5,q6,q7,q8,q9,kY,kV,lB,lz⟩:=hS0; go_simp; try with_reducible rfl);refine tt 1 hHeld ?_ (hy:=fun w0 hS0=>by obtain ⟨q0,q1,q2,q3,q4,q5,q6,q7,q8,q9,kY,kV,lB,lz⟩:=hS0; go_simp; try with_reducible rfl);refine tt 2 hHeld ?_ (hy:=fun w0 hS0=>by obtain ⟨q0,q1,q2,q3,q4,q5,q6,q7,q8,q9,kY,kV,lB,lz⟩:=hS0; go_simp; try with_reducible rfl);refine tt 3 hHeld ?_ (hy:=fun w0 hS0=>by obtain ⟨q0,q1,q2,q3,q4,q5,q6,q7,q8,q9,kY,kV,lB,lz⟩:=hS0; go_simp; try with_reducible rfl);refine tt 4 hHeld ?_ (hy:=fun w0 hS0=>by obtain ⟨q0,q1,q2,q3,q4,q5,q6,q7,q8,q9,kY,kV,lB,lz⟩:=hS0; go_simp; try with_reducible rfl);refine tt 5 hHeld ?_ (hy:=fun w0 hS0=>by obtain ⟨q0,q1,q2,q3,q4,q5,q6,q7,q8,q9,kY,kV,lB,lz⟩:=hS0; go_simp; try with_reducible rfl);refine tt 6 hHeld ?_ (hy:=fun w0 hS0=>by obtain ⟨q0,q1,q2,q3,q4,q5,q6,q7,q8,q9,kY,kV,lB,lz⟩:=hS0; go_simp; try with_reducible rfl);refine tt 7 hHeld ?_ (hy:=fun w0 hS0=>by obtain ⟨q0,q1,q2,q3,q4,q5,q6,q7,q8,q9,kY,kV,lB,lz⟩:=hS0; go_simp; try with_reducible rfl);refine tt 8 hHeld ?_ (hy:=fun w0 hS0=>by obtain ⟨q0,q1,q2,q3,q4,q5,q6,q7,q8,q9,kY,kV,lB,lz⟩:=hS0; go_simp; try with_reducible rfl);refine tt 9 hHeld ?_ (hy:=fun w0 hS0=>by obtain ⟨q0,q1,q2,q3,q4,q5,q6,q7,q8,q9,kY,kV,lB,lz⟩:=hS0; go_simp; try with_reducible rfl);refine tt 10 hHeld ?_ (hy:=fun w0 hS0=>by obtain ⟨q0,q1,q2,q3,q4,q5,q6,q7,q8,q9,kY,kV,lB,lz⟩:=hS0; go_simp; try with_reducible rfl);refine tt 11 hHeld ?_ (hy:=fun w0 hS0=>by obtain ⟨q0,q1,q2,q3,q4,q5,q6,q7,q8,q9,kY,kV,lB,lz⟩:=hS0; go_simp; try with_reducible rfl);refine tt 13 hHeld ?_ (hy:=fun w0 hS0=>by obtain ⟨q0,q1,q2,q3,q4,q5,q6,q7,q8,q9,kY,kV,lB,lz⟩:=hS0; go_simp; try with_reducible rfl);refine tt 14 hHeld ?_ (hy:=fun w0 hS0=>by obtain ⟨q0,q1,q2,q3,q4,q5,q6,q7,q8,q9,kY,kV,lB,lz⟩:=hS0; go_simp; try with_reducible rfl);refine tt 15 hHeld ?_ (hy:=fun w0 hS0=>by obtain ⟨q0,q1,q2,q3,q4,q5,q6,q7,q8,q9,kY,kV,lB,lz⟩:=hS0; go_simp; try with_reducible rfl);refine tt 16 hHeld ?_ (hy:=fun w0 hS0=>by obtain ⟨q0,q1,q2,q3,q4,q5,q6,q7,q8,q9,kY,kV,lB,lz⟩:=hS0; go_simp; try with_reducible rfl);refine tt 18 hHeld ?_ (hy:=fun w0 hS0=>by obtain ⟨q0,q1,q2,q3,q4,q5,q6,q7,q8,q9,kY,kV,lB,lz⟩:=hS0; go_simp; try with_reducible rfl);refine tt 19 hHeld ?_ (hy:=fun w0 hS0=>by obtain ⟨q0,q1,q2,q3,q4,q5,q6,q7,q8,q9,kY,kV,lB,lz⟩:=hS0; go_simp; try with_reducible rfl);refine tt 20 hHeld ?_ (hy:=fun w0 hS0=>by obtain ⟨q0,q1,q2,q3,q4,q5,q6,q7,q8,q9,kY,kV,lB,lz⟩:=hS0; go_simp; try with_reducible rfl);refine tt 21 hHeld ?_ (hy:=fun w0 hS0=>by obtain ⟨q0,q1,q2,q3,q4,q5,q6,q7,q8,q9,kY,kV,lB,lz⟩:=hS0; go_simp; try with_reducible rfl);refine tt 23 hHeld ?_ (hy:=fun w0 hS0=>by obtain ⟨q0,q1,q2,q3,q4,q5,q6,q7,q8,q9,kY,kV,lB,lz⟩:=hS0; go_simp; try with_reducible rfl);refine tt 24 hHeld ?_ (hy:=fun w0 hS0=>by obtain ⟨q0,q1,q2,q3,q4,q5,q6,q7,q8,q9,kY,kV,lB,lz⟩:=hS0; go_simp; try with_reducible rfl);refine tt 25 hHeld ?_ (hy:=fun w0 hS0=>by obtain ⟨q0,q1,q2,q3,q4,q5,q6,q7,q8,q9,kY,kV,lB,lz⟩:=hS0; go_simp; try with_reducible rfl);refine tt 26 hHeld ?_ (hy:=fun w0 hS0=>by obtain ⟨q0,q1,q2,q3,q4,q5,q6,q7,q8,q9,kY,kV,lB,lz⟩:=hS0; go_simp; try with_reducible rfl);refine tt 28 hHeld ?_ (hy:=fun w0 hS0=>by obtain ⟨q0,q1,q2,q3,q4,q5,q6,q7,q8,q9,kY,kV,lB,lz⟩:=hS0; go_simp; try with_reducible rfl);refine tt 29 hHeld ?_ (hy:=fun w0 hS0=>by obtain ⟨q0,q1,q2,q3,q4,q5,q6,q7,q8,q9,kY,kV,lB,lz⟩:=hS0; go_simp; try with_reducible rfl);refine tt 30 hHeld ?_ (hy:=fun w0 hS0=>by obtain ⟨q0,q1,q2,q3,q4,q5,q6,q7,q8,q9,kY,kV,lB,lz⟩:=hS0; go_simp; try with_reducible rfl);refine tt 31 hHeld ?_ (hy:=fun w0 hS0=>by obtain ⟨q0,q1,q2,q3,q4,q5,q6,q7,q8,q9,kY,kV,lB,lz⟩:=hS0; go_simp; try with_reducible rfl)
 refine tt 33 hHeld ?_ (hy:=fun w0 hS0=>by obtain ⟨q0,q1,q2,q3,q4,q5,q6,q7,q8,q9,kY,kV,lB,lz⟩:=hS0; go_simp; try with_reducible rfl);refine tt 34 hHeld ?_ (hy:=fun w0 hS0=>by obtain ⟨q0,q1,q2,q3,q4,q5,q6,q7,q8,q9,kY,kV,lB,lz⟩:=hS0; go_simp; try with_reducible rfl);refine tt 35 hHeld ?_ (hy:=fun w0 hS0=>by obtain ⟨q0,q1,q2,q3,q4,q5,q6,q7,q8,q9,kY,kV,lB,lz⟩:=hS0; go_simp; try with_reducible rfl);refine tt 36 hHeld ?_ (hy:=fun w0 hS0=>by obtain ⟨q0,q1,q2,q3,q4,q5,q6,q7,q8,q9,kY,kV,lB,lz⟩:=hS0; go_simp; try with_reducible rfl);clear HS;generalize hWd:W.drew=W0 at *;clear hWd;refine L7 12 (fun K hK=> ?_);go_wp2_with fail;refine (zj 6 base S.q.bp S.lp W0 (HZ.I.1.L8.below HZ.I.2.2.1) HZ.I.2.1.dl HZ.I.2.1.Jl).mono ?_;rintro e W1 ⟨a1,c1,rfl,hown,hb⟩;have wm:Hid (nU W0.heap.size W1.heap.size (blk a1)∧W0.heap.size≤W1.heap.size):=⟨px hown,hb.size⟩
 have HY:Hid (W1.ownsRow W0.heap.size 43 12 (.slice a1 (S.lp.map (·.1)).length c1) (S.lp.map (·.1)).length (bg.flat (S.lp.map (·.1)))∧W0.heap.size≤W1.heap.size):=⟨hown,hb.size⟩
 have HR:=HY;clear HY;have iP:Hid (cJ w base o S∧S.Fits∧Below w.heap.size w W1∧W1.heap[w.heap.size]? =some (.cells ar 32 (0,0))∧w.heap.size < W0.heap.size):=⟨HZ.I.1,HZ.I.2.1,HZ.I.2.2.1.trans (hb.mono HZ.I.2.2.1.size),(hb.block _ (J2.1 HZ.I.2.2.2.1).1).trans HZ.I.2.2.2.1,HZ.I.2.2.2.2⟩
 clear HZ hown hb;have HZ:=iP;clear iP hHeld;refine hK.out _ _ (kP (HZ.I.1.opn.below HZ.I.2.2.1)) (fun hHeld=> ?_);clear hK K
 try simp only [KZ,K0,K1,Act.put,Qr,Ln,Lo]
 refine L7 17 (fun K hK=> ?_);go_wp2_with fail;refine (AN 5 base S.q.bs S.ls W1 (HZ.I.1.aj.below HZ.I.2.2.1) HZ.I.2.1.fx HZ.I.2.1.wSem).mono ?_;rintro e W2 ⟨a2,c2,rfl,hown,hb⟩;have xD:Hid (nU W1.heap.size W2.heap.size (blk a2)∧W1.heap.size≤W2.heap.size):=⟨px hown,hb.size⟩
 have HY:Hid (W2.ownsRow W0.heap.size 43 12 (.slice a1 (S.lp.map (·.1)).length c1) (S.lp.map (·.1)).length (bg.flat (S.lp.map (·.1)))∧W2.ownsRow W1.heap.size 49 3 (.slice a2 (S.ls.map (·.1)).length c2) (S.ls.map (·.1)).length (dm.flat (S.ls.map (·.1)))∧W0.heap.size≤W1.heap.size∧W1.heap.size≤W2.heap.size):=⟨cR HR.I.1 hb,hown,HR.I.2,hb.size⟩
 clear HR;have HR:=HY;clear HY;have iP:Hid (cJ w base o S∧S.Fits∧Below w.heap.size w W2∧W2.heap[w.heap.size]? =some (.cells ar 32 (0,0))∧w.heap.size < W0.heap.size):=⟨HZ.I.1,HZ.I.2.1,HZ.I.2.2.1.trans (hb.mono HZ.I.2.2.1.size),(hb.block _ (J2.1 HZ.I.2.2.2.1).1).trans HZ.I.2.2.2.1,HZ.I.2.2.2.2⟩
 clear HZ hown hb;have HZ:=iP;clear iP hHeld;refine hK.out _ _ (kP (HZ.I.1.opn.below HZ.I.2.2.1)) (fun hHeld=> ?_);clear hK K
 try simp only [KZ,K0,K1,Act.put,Qr,Ln,Lo]
 refine L7 22 (fun K hK=> ?_);go_wp2_with fail;refine (wN 5 base S.q.be S.le W2 (HZ.I.1.L9.below HZ.I.2.2.1) HZ.I.2.1.cD HZ.I.2.1.G4).mono ?_;rintro e W3 ⟨a3,c3,rfl,hown,hb⟩;have Fz:Hid (nU W2.heap.size W3.heap.size (blk a3)∧W2.heap.size≤W3.heap.size):=⟨px hown,hb.size⟩
 have HY:Hid (W3.ownsRow W0.heap.size 43 12 (.slice a1 (S.lp.map (·.1)).length c1) (S.lp.map (·.1)).length (bg.flat (S.lp.map (·.1)))∧W3.ownsRow W1.heap.size 49 3 (.slice a2 (S.ls.map (·.1)).length c2) (S.ls.map (·.1)).length (dm.flat (S.ls.map (·.1)))∧W3.ownsRow W2.heap.size 138 2 (.slice a3 (S.le.map (·.1)).length c3) (S.le.map (·.1)).length (bJ.flat (S.le.map (·.1)))∧W0.heap.size≤W1.heap.size∧W1.heap.size≤W2.heap.size∧W2.heap.size≤W3.heap.size):=⟨cR HR.I.1 hb,cR HR.I.2.1 hb,hown,HR.I.2.2.1,HR.I.2.2.2,hb.size⟩
 clear HR;have HR:=HY;clear HY;have iP:Hid (cJ w base o S∧S.Fits∧Below w.heap.size w W3∧W3.heap[w.heap.size]? =some (.cells ar 32 (0,0))∧w.heap.size < W0.heap.size):=⟨HZ.I.1,HZ.I.2.1,HZ.I.2.2.1.trans (hb.mono HZ.I.2.2.1.size),(hb.block _ (J2.1 HZ.I.2.2.2.1).1).trans HZ.I.2.2.2.1,HZ.I.2.2.2.2⟩
 clear HZ hown hb;have HZ:=iP;clear iP hHeld;refine hK.out _ _ (kP (HZ.I.1.opn.below HZ.I.2.2.1)) (fun hHeld=> ?_);clear hK K
 try simp only [KZ,K0,K1,Act.put,Qr,Ln,Lo]
 refine L7 27 (fun K hK=> ?_);go_wp2_with fail;refine (wC 5 base S.q.bb S.lb W3 (HZ.I.1.ag.below HZ.I.2.2.1) HZ.I.2.1.cC HZ.I.2.1.FP).mono ?_;rintro e W4 ⟨a4,c4,rfl,hown,hb⟩;have FA:Hid (nU W3.heap.size W4.heap.size (blk a4)∧W3.heap.size≤W4.heap.size):=⟨px hown,hb.size⟩
 have HY:Hid (W4.ownsRow W0.heap.size 43 12 (.slice a1 (S.lp.map (·.1)).length c1) (S.lp.map (·.1)).length (bg.flat (S.lp.map (·.1)))∧W4.ownsRow W1.heap.size 49 3 (.slice a2 (S.ls.map (·.1)).length c2) (S.ls.map (·.1)).length (dm.flat (S.ls.map (·.1)))∧W4.ownsRow W2.heap.size 138 2 (.slice a3 (S.le.map (·.1)).length c3) (S.le.map (·.1)).length (bJ.flat (S.le.map (·.1)))∧W4.ownsRow W3.heap.size 141 3 (.slice a4 (S.lb.map (·.1)).length c4) (S.lb.map (·.1)).length (bG.flat (S.lb.map (·.1)))∧W0.heap.size≤W1.heap.size∧W1.heap.size≤W2.heap.size∧W2.heap.size≤W3.heap.size∧W3.heap.size≤W4.heap.size):=⟨cR HR.I.1 hb,cR HR.I.2.1 hb,cR HR.I.2.2.1 hb,hown,HR.I.2.2.2.1,HR.I.2.2.2.2.1,HR.I.2.2.2.2.2,hb.size⟩
 clear HR;have HR:=HY;clear HY;have iP:Hid (cJ w base o S∧S.Fits∧Below w.heap.size w W4∧W4.heap[w.heap.size]? =some (.cells ar 32 (0,0))∧w.heap.size < W0.heap.size):=⟨HZ.I.1,HZ.I.2.1,HZ.I.2.2.1.trans (hb.mono HZ.I.2.2.1.size),(hb.block _ (J2.1 HZ.I.2.2.2.1).1).trans HZ.I.2.2.2.1,HZ.I.2.2.2.2⟩
 clear HZ hown hb;have HZ:=iP;clear iP hHeld;refine hK.out _ _ (kP (HZ.I.1.opn.below HZ.I.2.2.1)) (fun hHeld=> ?_);clear hK K
 try simp only [KZ,K0,K1,Act.put,Qr,Ln,Lo]
 refine L7 32 (fun K hK=> ?_);go_wp2_with fail;refine (uk 5 base S.q.bf S.lf W4 (HZ.I.1.ae.below HZ.I.2.2.1) HZ.I.2.1.cb HZ.I.2.1.DW).mono ?_;rintro e W5 ⟨a5,c5,rfl,hown,hb⟩;have Ik:Hid (nU W4.heap.size W5.heap.size (blk a5)∧W4.heap.size≤W5.heap.size):=⟨px hown,hb.size⟩
 have HY:Hid (W5.ownsRow W0.heap.size 43 12 (.slice a1 (S.lp.map (·.1)).length c1) (S.lp.map (·.1)).length (bg.flat (S.lp.map (·.1)))∧W5.ownsRow W1.heap.size 49 3 (.slice a2 (S.ls.map (·.1)).length c2) (S.ls.map (·.1)).length (dm.flat (S.ls.map (·.1)))∧W5.ownsRow W2.heap.size 138 2 (.slice a3 (S.le.map (·.1)).length c3) (S.le.map (·.1)).length (bJ.flat (S.le.map (·.1)))∧W5.ownsRow W3.heap.size 141 3 (.slice a4 (S.lb.map (·.1)).length c4) (S.lb.map (·.1)).length (bG.flat (S.lb.map (·.1)))∧W5.ownsRow W4.heap.size 144 3 (.slice a5 (S.lf.map (·.1)).length c5) (S.lf.map (·.1)).length (bm.flat (S.lf.map (·.1)))∧W0.heap.size≤W1.heap.size∧W1.heap.size≤W2.heap.size∧W2.heap.size≤W3.heap.size∧W3.heap.size≤W4.heap.size∧W4.heap.size≤W5.heap.size):=⟨cR HR.I.1 hb,cR HR.I.2.1 hb,cR HR.I.2.2.1 hb,cR HR.I.2.2.2.1 hb,hown,HR.I.2.2.2.2.1,HR.I.2.2.2.2.2.1,HR.I.2.2.2.2.2.2.1,HR.I.2.2.2.2.2.2.2,hb.size⟩
 clear HR;have HR:=HY;clear HY;have iP:Hid (cJ w base o S∧S.Fits∧Below w.heap.size w W5∧W5.heap[w.heap.size]? =some (.cells ar 32 (0,0))∧w.heap.size < W0.heap.size):=⟨HZ.I.1,HZ.I.2.1,HZ.I.2.2.1.trans (hb.mono HZ.I.2.2.1.size),(hb.block _ (J2.1 HZ.I.2.2.2.1).1).trans HZ.I.2.2.2.1,HZ.I.2.2.2.2⟩
 clear HZ hown hb;have HZ:=iP;clear iP hHeld;refine hK.out _ _ (kP (HZ.I.1.opn.below HZ.I.2.2.1)) (fun hHeld=> ?_);clear hK K
 try simp only [KZ,K0,K1,Act.put,Qr,Ln,Lo]
 refine L7 37 (fun K hK=> ?_);go_wp2_with fail;refine (zf 5 base S.q.bq S.lq W5 (HZ.I.1.ai.below HZ.I.2.2.1) HZ.I.2.1.dH HZ.I.2.1.Jz).mono ?_;rintro e W6 ⟨a6,c6,rfl,hown,hb⟩;have Jw:Hid (nU W5.heap.size W6.heap.size (blk a6)∧W5.heap.size≤W6.heap.size):=⟨px hown,hb.size⟩
 have HY:Hid (W6.ownsRow W0.heap.size 43 12 (.slice a1 (S.lp.map (·.1)).length c1) (S.lp.map (·.1)).length (bg.flat (S.lp.map (·.1)))∧W6.ownsRow W1.heap.size 49 3 (.slice a2 (S.ls.map (·.1)).length c2) (S.ls.map (·.1)).length (dm.flat (S.ls.map (·.1)))∧W6.ownsRow W2.heap.size 138 2 (.slice a3 (S.le.map (·.1)).length c3) (S.le.map (·.1)).length (bJ.flat (S.le.map (·.1)))∧W6.ownsRow W3.heap.size 141 3 (.slice a4 (S.lb.map (·.1)).length c4) (S.lb.map (·.1)).length (bG.flat (S.lb.map (·.1)))∧W6.ownsRow W4.heap.size 144 3 (.slice a5 (S.lf.map (·.1)).length c5) (S.lf.map (·.1)).length (bm.flat (S.lf.map (·.1)))∧W6.ownsRow W5.heap.size 61 5 (.slice a6 (S.lq.map (·.1)).length c6) (S.lq.map (·.1)).length (bX.flat (S.lq.map (·.1)))∧W0.heap.size≤W1.heap.size∧W1.heap.size≤W2.heap.size∧W2.heap.size≤W3.heap.size∧W3.heap.size≤W4.heap.size∧W4.heap.size≤W5.heap.size∧W5.heap.size≤W6.heap.size):=⟨cR HR.I.1 hb,cR HR.I.2.1 hb,cR HR.I.2.2.1 hb,cR HR.I.2.2.2.1 hb,cR HR.I.2.2.2.2.1 hb,hown,HR.I.2.2.2.2.2.1,HR.I.2.2.2.2.2.2.1,HR.I.2.2.2.2.2.2.2.1,HR.I.2.2.2.2.2.2.2.2.1,HR.I.2.2.2.2.2.2.2.2.2,hb.size⟩
 clear HR;have HR:=HY;clear HY;have iP:Hid (cJ w base o S∧S.Fits∧Below w.heap.size w W6∧W6.heap[w.heap.size]? =some (.cells ar 32 (0,0))∧w.heap.size < W0.heap.size):=⟨HZ.I.1,HZ.I.2.1,HZ.I.2.2.1.trans (hb.mono HZ.I.2.2.1.size),(hb.block _ (J2.1 HZ.I.2.2.2.1).1).trans HZ.I.2.2.2.1,HZ.I.2.2.2.2⟩
 clear HZ hown hb;have HZ:=iP;clear iP hHeld;refine hK.out _ _ (kP (HZ.I.1.opn.below HZ.I.2.2.1)) (fun hHeld=> ?_);clear hK K
 try simp only [KZ,K0,K1,Act.put,Qr,Ln,Lo]
 refine wpAnyH_take (i:=38) (v:= .agg #[.int .i64 S.q.id,.int .i64 S.q.next,.slice a1 S.lp.length c1,.slice a2 S.ls.length c2,.slice a3 S.le.length c3,.slice a4 S.lb.length c4,.slice a5 S.lf.length c5,.slice a6 S.lq.length c6]) rfl (by kernel_rfl) (by kernel_rfl) (by kernel_rfl) (fun _ _ _ h=>h) (Or.inl ⟨by kernel_rfl,?_⟩) hHeld ?_
 ·intro w0 hS0
  go_simp
  try with_reducible rfl
 simp only [KZ,K0,K1,Act.put,Qr,Ln,Lo];refine L7 39 (fun K hK=> ?_);refine qd _ _ _ rfl w.heap.size _ _ #[.int .i64 S.q.id,.int .i64 S.q.next,.slice a1 S.lp.length c1,.slice a2 S.ls.length c2,.slice a3 S.le.length c3,.slice a4 S.lb.length c4,.slice a5 S.lf.length c5,.slice a6 S.lq.length c6] rfl rfl HZ.I.2.2.2.1 (by kernel_rfl) rfl (by simp [Value.oneCell']) ?_;have p7:o < w.heap.size:=(J2.1 HZ.I.1.opn).1;have hbs:Below w.heap.size w (W6.setRow w.heap.size #[.int .i64 S.q.id,.int .i64 S.q.next,.slice a1 S.lp.length c1,.slice a2 S.ls.length c2,.slice a3 S.le.length c3,.slice a4 S.lb.length c4,.slice a5 S.lf.length c5,.slice a6 S.lq.length c6]):=below_setRow HZ.I.2.2.1 (Ki _) _;refine hK.out _ _ (kP (HZ.I.1.opn.below hbs)) (fun hHeld=> ?_);clear hK K hHeld;refine wpAnyH_done (by kernel_rfl) ?_ _
 repeat (first | go_values | go_skip | go_guarded | go_step | go_upon)
 refine gZ Tryz.results85 HZ.I.2.2.2.1 ?_;have hA:=HZ.I.1;have kj:=HZ.I.2.2.1;have hlo:=hA.low;have hw0:=HZ.I.2.2.2.2;have t1:=wm.I.2;have t2:=xD.I.2;have t3:=Fz.I.2;have t4:=FA.I.2;have t5:=Ik.I.2;have t6:=Jw.I.2;have hmP: ∀ q∈S.lp,aR.cO W6 base q.1:=fun q hq=>(hA.eI q hq).same fun g hk=>kj.block g ((hA.eI q hq).lt hk).2
 have hmF: ∀ q∈S.lf,aC.cO W6 base q.1:=fun q hq=>(hA.eE q hq).same fun g hk=>kj.block g ((hA.eE q hq).lt hk).2
 have hmQ: ∀ q∈S.lq,aU.cO W6 base q.1:=fun q hq=>(hA.eR q hq).same fun g hk=>kj.block g ((hA.eR q hq).lt hk).2
 have hkn:S.kids.Nodup:=(Kf.1 (List.nodup_cons.1 hA.nodup).2).2.1;have hkl: ∀ g∈S.kids,g < w.heap.size:=fun g hg=>by
  simp only [aZ.kids,Kg,kids,List.mem_filterMap] at hg;rcases hg with ⟨q,hq,hk⟩ | ⟨q,hq,hk⟩ | ⟨q,hq,hk⟩
  ·exact ((hA.eI q hq).lt hk).2
  ·exact ((hA.eE q hq).lt hk).2
  ·exact ((hA.eR q hq).lt hk).2
 have eP:(S.lp.map (·.1)).filterMap aR.bt=kids aR S.lp:=by rw [List.filterMap_map]; rfl
 have eF:(S.lf.map (·.1)).filterMap aC.bt=kids aC S.lf:=by rw [List.filterMap_map]; rfl
 have eQ:(S.lq.map (·.1)).filterMap aU.bt=kids aU S.lq:=by rw [List.filterMap_map]; rfl
 have hown:ap W6 base (⟨S.q.id,S.q.next,S.lp.map (·.1),a1,c1,S.ls.map (·.1),a2,c2,S.le.map (·.1),a3,c3,S.lb.map (·.1),a4,c4,S.lf.map (·.1),a5,c5,S.lq.map (·.1),a6,c6⟩:af):=by
  refine ⟨cq HR.I.1 (by omega),cq HR.I.2.1 (by omega),cq HR.I.2.2.1 (by omega),cq HR.I.2.2.2.1 (by omega),cq HR.I.2.2.2.2.1 (by omega),cq HR.I.2.2.2.2.2.1 (by omega),?_,?_,?_,?_⟩
  ·intro x hx
   obtain ⟨q,hq,rfl⟩:=Lr.1 hx;exact hmP q hq
  ·intro x hx
   obtain ⟨q,hq,rfl⟩:=Lr.1 hx;exact hmF q hq
  ·intro x hx
   obtain ⟨q,hq,rfl⟩:=Lr.1 hx;exact hmQ q hq
  ·simp only [af.Mc,eP,eF,eQ]
   exact Dv (N:=W0.heap.size) hkn (fun g hg=>by have:=hkl g hg; omega) wm.I.1 xD.I.1 Fz.I.1 FA.I.1 Ik.I.1 Jw.I.1 ⟨t1,t2,t3,t4,t5,t6⟩
 have hne: ∀ g∈(⟨S.q.id,S.q.next,S.lp.map (·.1),a1,c1,S.ls.map (·.1),a2,c2,S.le.map (·.1),a3,c3,S.lb.map (·.1),a4,c4,S.lf.map (·.1),a5,c5,S.lq.map (·.1),a6,c6⟩:af).Mc,g≠w.heap.size:=fun g hg e=>by
  simp only [af.Mc,eP,eF,eQ,Kg] at hg;have hk: ∀ g,(g∈kids aR S.lp∨g∈kids aC S.lf∨g∈kids aU S.lq)→g < w.heap.size:=fun g h5=>hkl g (by simp only [aZ.kids,Kg]; exact h5)
  rcases hg with hg | hg | hg | hg | hg | hg | hg | hg | hg
  ·have:=(wm.I.1.2 g hg).1; omega
  ·have:=hk g (.inl hg); omega
  ·have:=(xD.I.1.2 g hg).1; omega
  ·have:=(Fz.I.1.2 g hg).1; omega
  ·have:=(FA.I.1.2 g hg).1; omega
  ·have:=(Ik.I.1.2 g hg).1; omega
  ·have:=hk g (.inr (.inl hg)); omega
  ·have:=(Jw.I.1.2 g hg).1; omega
  ·have:=hk g (.inr (.inr hg)); omega
 exact ⟨(⟨S.q.id,S.q.next,S.lp.map (·.1),a1,c1,S.ls.map (·.1),a2,c2,S.le.map (·.1),a3,c3,S.lb.map (·.1),a4,c4,S.lf.map (·.1),a5,c5,S.lq.map (·.1),a6,c6⟩:af),by simp [af.cells],hown.same fun g hg=>KH _ _ _ _ (hne g hg),by simp [af.pure,aZ.pure,Ls],hbs⟩
end
end Go.Proofs.YtkbcplnlehdjfaaGreat
