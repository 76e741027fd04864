/- What the proof leans on, part 4. -/
import Derived.Test.YteidkehoekbcaaaGreatOwnC3
import Derived.Laws.CopyOwn
import Derived.Lib.SmallJoins
set_option maxRecDepth 100000
set_option maxHeartbeats 8000000
open Array renaming getElem?_eq_some_iff->J2
open Bool renaming true_and->aeN
open Go renaming heap_alloc_new->Kj,wpAnyH_done->K3,wp_at_succ->Kd,wp_at_zero->Kc,wp_region_held_drew->Kr
open Go.AllReadyH renaming cons->KX,nil->KY
open Go.DataW renaming trod_bool->adS,trod_int->adQ,trod_string->adO
open Go.Deep renaming blk_setCell_other->ac5
open Go.Proofs.Tryz renaming prog->J3,underlying2->KN,underlying4->Q6,underlying83->adT,underlying9->adP
open Go.RowKit.Below renaming refl->Kp
open Go.World renaming putObj_heap_other->adX
open List renaming append_assoc->Lm,append_nil->QO,drop_length->adW,eq_nil_of_length_eq_zero->adU,getElem?_eq_getElem->Kz,getElem?_eq_some_iff->Lj,getElem_cons_succ->K1,getElem_cons_zero->K0,getElem_toArray->KZ,length_take->Lk,map_append->Kl,mem_cons->Kt,mem_cons_of_mem->LB,mem_filterMap->Lq,mem_of_getElem?->KA,mem_singleton->KB,not_mem_nil->Ku,take_length->LQ,take_of_length_le->KF
open List.cons renaming injEq->adK
open Nat renaming add_assoc->adV,add_zero->PT,le_refl->Ki,mul_comm->adM,mul_le_mul->acA,zero_le->Ky
open Option renaming isSome_none->aeH,isSome_some->Qk,map_eq_some_iff->Kw,map_some->J9
open Option.some renaming inj->KC,injEq->LF
open Prod.mk renaming injEq->Kx

namespace Go.Proofs.YteidkehoekbcaaaGreat
section
open Go.RowKit
def four (a b c d:List Nat):Nat→List Nat
 | 0=>a
 | 1=>b
 | 2=>c
 | 3=>d
 | _=> []
structure mJ (n0 n:Nat) (X:Nat→List Nat):Prop where
 apart: ∀ i j,i≠j→ ∀ q∈X i,q∉X j
 xy: ∀ i,∀ q∈X i,n0≤q∧q < n
theorem mJ.up {n0 n n':Nat} {X X':Nat→List Nat} (h:mJ n0 n X) (k:Nat) (hk: ∀ j,j≠k→X' j=X j) (hx: ∀ q∈X' k,q∈X k∨q=n) (hn:n < n') (h0:n0≤n):mJ n0 n' X':=by
 refine ⟨fun i j hij q hi hj=> ?_,fun i q hi=> ?_⟩
 ·by_cases ei:i=k
  ·subst ei
   rw [hk j (Ne.symm hij)] at hj;rcases hx q hi with h1 | rfl
   ·exact h.apart i j hij q h1 hj
   ·have:=(h.xy j q hj).2; omega
  ·rw [hk i ei] at hi
   by_cases ej:j=k
   ·subst ej
    rcases hx q hj with h1 | rfl
    ·exact h.apart i j hij q hi h1
    ·have:=(h.xy i q hi).2; omega
   ·rw [hk j ej] at hj
    exact h.apart i j hij q hi hj
 ·by_cases ei:i=k
  ·subst ei
   rcases hx q hi with h1 | rfl
   ·have:=h.xy i q h1; omega
   ·omega
  ·rw [hk i ei] at hi
   have:=h.xy i q hi
   omega
theorem mJ.mono {n0 n n':Nat} {X:Nat→List Nat} (h:mJ n0 n X) (hn:n≤n'):mJ n0 n' X:=⟨h.apart,fun i q hq=>by have:=h.xy i q hq; omega⟩
structure fI (p:af) (We w:World) (b0 d0 b1 d1 b2 d2 b3 d3 e:Bool) (g0 g1 g2 o:Nat) (a0 a1 a2:Option Addr) (c0 c1 c2:Nat):Prop where
 cd:Below We.heap.size We w
 part:av w We.heap.size p
 ret:w.heap[We.heap.size+1]? =some (.cells ar 48 (0,0))
 s0:su w (We.heap.size+2) 184 3 p.aj.length (dm.flat p.aj) b0 d0 g0 a0 c0
 s1:su w (We.heap.size+2) 187 2 p.L9.length (bJ.flat p.L9) b1 d1 g1 a1 c1
 s2:su w (We.heap.size+2) 190 3 p.ag.length (bG.flat p.ag) b2 d2 g2 a2 c2
 I:b3=true→w.heap[o]? =some (.cells (bif d3 then #[.int .i64 p.id,.int .i64 p.next,.slice none 0 0,.slice a0 p.aj.length c0,.slice a1 p.L9.length c1,.slice a2 p.ag.length c2,.slice none 0 0,.slice none 0 0] else ar) 48 (0,0))
 cl:(e=true→d0=true∧d1=true∧d2=true)∧(d3=true→e=true∧b3=true)
 size:We.heap.size+2≤w.heap.size
 pR:mJ (We.heap.size+2) w.heap.size (four (bM b0 d0 g0 a0) (bM b1 d1 g1 a1) (bM b2 d2 g2 a2) (bif b3 then [o] else []))
section
variable {p:af} {We w:World} {b0 d0 b1 d1 b2 d2 b3 d3 e:Bool} {g0 g1 g2 o:Nat} {a0 a1 a2:Option Addr} {c0 c1 c2:Nat}
theorem fI.aaZ (h:fI p We w false d0 b1 d1 b2 d2 b3 d3 e g0 g1 g2 o a0 a1 a2 c0 c1 c2):fI p We (w.alloc (.cells #[] 184)) true d0 b1 d1 b2 d2 b3 d3 e w.heap.size g1 g2 o a0 a1 a2 c0 c1 c2:=by
 have hb:Below w.heap.size w (w.alloc (.cells #[] 184)):=(Kp _ _).alloc (Ki _) _;have hlt: ∀ i,∀ q∈four (bM false d0 g0 a0) (bM b1 d1 g1 a1) (bM b2 d2 g2 a2) (bif b3 then [o] else []) i,q < w.heap.size:=fun i q hq=>(h.pR.xy i q hq).2
 exact ⟨h.cd.trans (hb.mono h.cd.size),h.part.below hb,(hb.block _ (by have:=h.size; omega)).trans h.ret,⟨fun _ hd=>⟨Kj _ _,h.size⟩,fun hd=>aL (h.s0.done hd) fun q hq=>hb.block q (hlt 0 q (by subst hd; simpa [four,bM] using hq))⟩,h.s1.same fun q hq=>hb.block q (hlt 1 q hq),h.s2.same fun q hq=>hb.block q (hlt 2 q hq),fun e=>(hb.block _ (hlt 3 o (by simp [four,e]))).trans (h.I e),h.cl,by have:=h.size; simp; omega,h.pR.up 0 (fun j hj=>by rcases j with _ | _ | _ | _ | _ <;> first | rfl | exact absurd rfl hj) (fun q hq=>by cases d0 with | true=>exact .inl (by simpa [four,bM] using hq) | false=>exact .inr (by simpa [four,bM] using hq)) (by simp) h.size⟩
theorem fI.abg (h:fI p We w b0 d0 false d1 b2 d2 b3 d3 e g0 g1 g2 o a0 a1 a2 c0 c1 c2):fI p We (w.alloc (.cells #[] 187)) b0 d0 true d1 b2 d2 b3 d3 e g0 w.heap.size g2 o a0 a1 a2 c0 c1 c2:=by
 have hb:Below w.heap.size w (w.alloc (.cells #[] 187)):=(Kp _ _).alloc (Ki _) _;have hlt: ∀ i,∀ q∈four (bM b0 d0 g0 a0) (bM false d1 g1 a1) (bM b2 d2 g2 a2) (bif b3 then [o] else []) i,q < w.heap.size:=fun i q hq=>(h.pR.xy i q hq).2
 exact ⟨h.cd.trans (hb.mono h.cd.size),h.part.below hb,(hb.block _ (by have:=h.size; omega)).trans h.ret,h.s0.same fun q hq=>hb.block q (hlt 0 q hq),⟨fun _ hd=>⟨Kj _ _,h.size⟩,fun hd=>aL (h.s1.done hd) fun q hq=>hb.block q (hlt 1 q (by subst hd; simpa [four,bM] using hq))⟩,h.s2.same fun q hq=>hb.block q (hlt 2 q hq),fun e=>(hb.block _ (hlt 3 o (by simp [four,e]))).trans (h.I e),h.cl,by have:=h.size; simp; omega,h.pR.up 1 (fun j hj=>by rcases j with _ | _ | _ | _ | _ <;> first | rfl | exact absurd rfl hj) (fun q hq=>by cases d1 with | true=>exact .inl (by simpa [four,bM] using hq) | false=>exact .inr (by simpa [four,bM] using hq)) (by simp) h.size⟩
theorem fI.make2 (h:fI p We w b0 d0 b1 d1 false d2 b3 d3 e g0 g1 g2 o a0 a1 a2 c0 c1 c2):fI p We (w.alloc (.cells #[] 190)) b0 d0 b1 d1 true d2 b3 d3 e g0 g1 w.heap.size o a0 a1 a2 c0 c1 c2:=by
 have hb:Below w.heap.size w (w.alloc (.cells #[] 190)):=(Kp _ _).alloc (Ki _) _;have hlt: ∀ i,∀ q∈four (bM b0 d0 g0 a0) (bM b1 d1 g1 a1) (bM false d2 g2 a2) (bif b3 then [o] else []) i,q < w.heap.size:=fun i q hq=>(h.pR.xy i q hq).2
 exact ⟨h.cd.trans (hb.mono h.cd.size),h.part.below hb,(hb.block _ (by have:=h.size; omega)).trans h.ret,h.s0.same fun q hq=>hb.block q (hlt 0 q hq),h.s1.same fun q hq=>hb.block q (hlt 1 q hq),⟨fun _ hd=>⟨Kj _ _,h.size⟩,fun hd=>aL (h.s2.done hd) fun q hq=>hb.block q (hlt 2 q (by subst hd; simpa [four,bM] using hq))⟩,fun e=>(hb.block _ (hlt 3 o (by simp [four,e]))).trans (h.I e),h.cl,by have:=h.size; simp; omega,h.pR.up 2 (fun j hj=>by rcases j with _ | _ | _ | _ | _ <;> first | rfl | exact absurd rfl hj) (fun q hq=>by cases d2 with | true=>exact .inl (by simpa [four,bM] using hq) | false=>exact .inr (by simpa [four,bM] using hq)) (by simp) h.size⟩
theorem fI.aa1 {w2:World} {a:Option Addr} {c:Nat} (h:fI p We w true false b1 d1 b2 d2 b3 d3 e g0 g1 g2 o a0 a1 a2 c0 c1 c2) (ho:w2.ownsRow (We.heap.size+2) 184 3 (.slice a p.aj.length c) p.aj.length (dm.flat p.aj)) (hg:w.grownBy w2 (some g0)) (hq: ∀ q∈blk a,q=g0∨q=w.heap.size):fI p We w2 true true b1 d1 b2 d2 b3 d3 e g0 g1 g2 o a a1 a2 c c1 c2:=by
 have hlt: ∀ i,∀ q∈four (bM true false g0 a0) (bM b1 d1 g1 a1) (bM b2 d2 g2 a2) (bif b3 then [o] else []) i,q < w.heap.size:=fun i q hq=>(h.pR.xy i q hq).2
 have hgl:We.heap.size+2≤g0∧g0 < w.heap.size:=h.pR.xy 0 g0 (by simp [four,bM]);have hne: ∀ i,i≠0→ ∀ q∈four (bM true false g0 a0) (bM b1 d1 g1 a1) (bM b2 d2 g2 a2) (bif b3 then [o] else []) i,w2.heap[q]? =w.heap[q]? :=fun i hi q hq=>hg.block q (hlt i q hq) fun e=>h.pR.apart i 0 hi q hq (by rw [KC e]; simp [four,bM])
 have hbe:Below We.heap.size We w2:=h.cd.grown hg (by have:=h.size; omega) (fun k hk=>by cases hk; omega);have he:e=false:=by cases e with | false=>rfl | true=>have:=h.cl.1 rfl; simp at this
 have hd:d3=false:=by cases hx:d3 with | false=>rfl | true=>rw [(h.cl.2 hx).1] at he; cases he
 subst he hd;have hz:=hg.size;have hsz:=h.size;refine ⟨hbe,(hg.block _ (by omega) (fun e=>by have:=KC e; omega)).trans h.part,(hg.block _ (by omega) (fun e=>by have:=KC e; omega)).trans h.ret,⟨(fun _ hd=>by cases hd),fun _=>ho⟩,h.s1.same fun q hq=>hne 1 (by decide) q hq,h.s2.same fun q hq=>hne 2 (by decide) q hq,fun e=>(hne 3 (by decide) o (by simp [four,e])).trans (h.I e),⟨(fun e=>by cases e),fun e=>by cases e⟩,by omega,?_⟩;by_cases hnew: ∃ q∈blk a,q=w.heap.size
 ·obtain ⟨q0,nu,hqe⟩:=hnew
  have hw2:=(cf ho nu).2;refine h.pR.up 0 (fun j hj=>by rcases j with _ | _ | _ | _ | _ <;> first | rfl | exact absurd rfl hj) (fun q hq'=> ?_) (by omega) hsz;have h5:q∈blk a:=by simpa [four,bM] using hq'
  rcases hq q h5 with h6 | h6
  ·exact .inl (by rw [h6]; simp [four,bM])
  ·exact .inr h6
 ·have hall: ∀ q∈blk a,q=g0:=fun q hq'=>(hq q hq').resolve_right fun e=>hnew ⟨q,hq',e⟩
  refine mJ.mono (n:=w.heap.size) ⟨fun i i2 hij q hi hi2=> ?_,fun i q hi=> ?_⟩ hz
  ·have e1: ∀ i,∀ q∈four (bM true true g0 a) (bM b1 d1 g1 a1) (bM b2 d2 g2 a2) (bif b3 then [o] else []) i,q∈four (bM true false g0 a0) (bM b1 d1 g1 a1) (bM b2 d2 g2 a2) (bif b3 then [o] else []) i:=fun i q hq'=>by
    by_cases ei:i=0
    ·subst ei
     have h5:q∈blk a:=by simpa [four,bM] using hq'
     rw [hall q h5];simp [four,bM]
    ·rcases i with _ | _ | _ | _ | _ <;> first | exact hq' | exact absurd rfl ei
   exact h.pR.apart i i2 hij q (e1 i q hi) (e1 i2 q hi2)
  ·by_cases ei:i=0
   ·subst ei
    have h5:q∈blk a:=by simpa [four,bM] using hi
    rw [hall q h5];exact hgl
   ·exact h.pR.xy i q (by rcases i with _ | _ | _ | _ | _ <;> first | exact hi | exact absurd rfl ei)
theorem fI.aa2 {w2:World} {a:Option Addr} {c:Nat} (h:fI p We w b0 d0 true false b2 d2 b3 d3 e g0 g1 g2 o a0 a1 a2 c0 c1 c2) (ho:w2.ownsRow (We.heap.size+2) 187 2 (.slice a p.L9.length c) p.L9.length (bJ.flat p.L9)) (hg:w.grownBy w2 (some g1)) (hq: ∀ q∈blk a,q=g1∨q=w.heap.size):fI p We w2 b0 d0 true true b2 d2 b3 d3 e g0 g1 g2 o a0 a a2 c0 c c2:=by
 have hlt: ∀ i,∀ q∈four (bM b0 d0 g0 a0) (bM true false g1 a1) (bM b2 d2 g2 a2) (bif b3 then [o] else []) i,q < w.heap.size:=fun i q hq=>(h.pR.xy i q hq).2
 have hgl:We.heap.size+2≤g1∧g1 < w.heap.size:=h.pR.xy 1 g1 (by simp [four,bM]);have hne: ∀ i,i≠1→ ∀ q∈four (bM b0 d0 g0 a0) (bM true false g1 a1) (bM b2 d2 g2 a2) (bif b3 then [o] else []) i,w2.heap[q]? =w.heap[q]? :=fun i hi q hq=>hg.block q (hlt i q hq) fun e=>h.pR.apart i 1 hi q hq (by rw [KC e]; simp [four,bM])
 have hbe:Below We.heap.size We w2:=h.cd.grown hg (by have:=h.size; omega) (fun k hk=>by cases hk; omega);have he:e=false:=by cases e with | false=>rfl | true=>have:=h.cl.1 rfl; simp at this
 have hd:d3=false:=by cases hx:d3 with | false=>rfl | true=>rw [(h.cl.2 hx).1] at he; cases he
 subst he hd;have hz:=hg.size;have hsz:=h.size;refine ⟨hbe,(hg.block _ (by omega) (fun e=>by have:=KC e; omega)).trans h.part,(hg.block _ (by omega) (fun e=>by have:=KC e; omega)).trans h.ret,h.s0.same fun q hq=>hne 0 (by decide) q hq,⟨(fun _ hd=>by cases hd),fun _=>ho⟩,h.s2.same fun q hq=>hne 2 (by decide) q hq,fun e=>(hne 3 (by decide) o (by simp [four,e])).trans (h.I e),⟨(fun e=>by cases e),fun e=>by cases e⟩,by omega,?_⟩;by_cases hnew: ∃ q∈blk a,q=w.heap.size
 ·obtain ⟨q0,nu,hqe⟩:=hnew
  have hw2:=(cf ho nu).2;refine h.pR.up 1 (fun j hj=>by rcases j with _ | _ | _ | _ | _ <;> first | rfl | exact absurd rfl hj) (fun q hq'=> ?_) (by omega) hsz;have h5:q∈blk a:=by simpa [four,bM] using hq'
  rcases hq q h5 with h6 | h6
  ·exact .inl (by rw [h6]; simp [four,bM])
  ·exact .inr h6
 ·have hall: ∀ q∈blk a,q=g1:=fun q hq'=>(hq q hq').resolve_right fun e=>hnew ⟨q,hq',e⟩
  refine mJ.mono (n:=w.heap.size) ⟨fun i i2 hij q hi hi2=> ?_,fun i q hi=> ?_⟩ hz
  ·have e1: ∀ i,∀ q∈four (bM b0 d0 g0 a0) (bM true true g1 a) (bM b2 d2 g2 a2) (bif b3 then [o] else []) i,q∈four (bM b0 d0 g0 a0) (bM true false g1 a1) (bM b2 d2 g2 a2) (bif b3 then [o] else []) i:=fun i q hq'=>by
    by_cases ei:i=1
    ·subst ei
     have h5:q∈blk a:=by simpa [four,bM] using hq'
     rw [hall q h5];simp [four,bM]
    ·rcases i with _ | _ | _ | _ | _ <;> first | exact hq' | exact absurd rfl ei
   exact h.pR.apart i i2 hij q (e1 i q hi) (e1 i2 q hi2)
  ·by_cases ei:i=1
   ·subst ei
    have h5:q∈blk a:=by simpa [four,bM] using hi
    rw [hall q h5];exact hgl
   ·exact h.pR.xy i q (by rcases i with _ | _ | _ | _ | _ <;> first | exact hi | exact absurd rfl ei)
theorem fI.copy2 {w2:World} {a:Option Addr} {c:Nat} (h:fI p We w b0 d0 b1 d1 true false b3 d3 e g0 g1 g2 o a0 a1 a2 c0 c1 c2) (ho:w2.ownsRow (We.heap.size+2) 190 3 (.slice a p.ag.length c) p.ag.length (bG.flat p.ag)) (hg:w.grownBy w2 (some g2)) (hq: ∀ q∈blk a,q=g2∨q=w.heap.size):fI p We w2 b0 d0 b1 d1 true true b3 d3 e g0 g1 g2 o a0 a1 a c0 c1 c:=by
 have hlt: ∀ i,∀ q∈four (bM b0 d0 g0 a0) (bM b1 d1 g1 a1) (bM true false g2 a2) (bif b3 then [o] else []) i,q < w.heap.size:=fun i q hq=>(h.pR.xy i q hq).2
 have hgl:We.heap.size+2≤g2∧g2 < w.heap.size:=h.pR.xy 2 g2 (by simp [four,bM]);have hne: ∀ i,i≠2→ ∀ q∈four (bM b0 d0 g0 a0) (bM b1 d1 g1 a1) (bM true false g2 a2) (bif b3 then [o] else []) i,w2.heap[q]? =w.heap[q]? :=fun i hi q hq=>hg.block q (hlt i q hq) fun e=>h.pR.apart i 2 hi q hq (by rw [KC e]; simp [four,bM])
 have hbe:Below We.heap.size We w2:=h.cd.grown hg (by have:=h.size; omega) (fun k hk=>by cases hk; omega);have he:e=false:=by cases e with | false=>rfl | true=>have:=h.cl.1 rfl; simp at this
 have hd:d3=false:=by cases hx:d3 with | false=>rfl | true=>rw [(h.cl.2 hx).1] at he; cases he
 subst he hd;have hz:=hg.size;have hsz:=h.size;refine ⟨hbe,(hg.block _ (by omega) (fun e=>by have:=KC e; omega)).trans h.part,(hg.block _ (by omega) (fun e=>by have:=KC e; omega)).trans h.ret,h.s0.same fun q hq=>hne 0 (by decide) q hq,h.s1.same fun q hq=>hne 1 (by decide) q hq,⟨(fun _ hd=>by cases hd),fun _=>ho⟩,fun e=>(hne 3 (by decide) o (by simp [four,e])).trans (h.I e),⟨(fun e=>by cases e),fun e=>by cases e⟩,by omega,?_⟩;by_cases hnew: ∃ q∈blk a,q=w.heap.size
 ·obtain ⟨q0,nu,hqe⟩:=hnew
  have hw2:=(cf ho nu).2;refine h.pR.up 2 (fun j hj=>by rcases j with _ | _ | _ | _ | _ <;> first | rfl | exact absurd rfl hj) (fun q hq'=> ?_) (by omega) hsz;have h5:q∈blk a:=by simpa [four,bM] using hq'
  rcases hq q h5 with h6 | h6
  ·exact .inl (by rw [h6]; simp [four,bM])
  ·exact .inr h6
 ·have hall: ∀ q∈blk a,q=g2:=fun q hq'=>(hq q hq').resolve_right fun e=>hnew ⟨q,hq',e⟩
  refine mJ.mono (n:=w.heap.size) ⟨fun i i2 hij q hi hi2=> ?_,fun i q hi=> ?_⟩ hz
  ·have e1: ∀ i,∀ q∈four (bM b0 d0 g0 a0) (bM b1 d1 g1 a1) (bM true true g2 a) (bif b3 then [o] else []) i,q∈four (bM b0 d0 g0 a0) (bM b1 d1 g1 a1) (bM true false g2 a2) (bif b3 then [o] else []) i:=fun i q hq'=>by
    by_cases ei:i=2
    ·subst ei
     have h5:q∈blk a:=by simpa [four,bM] using hq'
     rw [hall q h5];simp [four,bM]
    ·rcases i with _ | _ | _ | _ | _ <;> first | exact hq' | exact absurd rfl ei
   exact h.pR.apart i i2 hij q (e1 i q hi) (e1 i2 q hi2)
  ·by_cases ei:i=2
   ·subst ei
    have h5:q∈blk a:=by simpa [four,bM] using hi
    rw [hall q h5];exact hgl
   ·exact h.pR.xy i q (by rcases i with _ | _ | _ | _ | _ <;> first | exact hi | exact absurd rfl ei)
theorem fI.aa9 (h:fI p We w b0 d0 b1 d1 b2 d2 false false e g0 g1 g2 o a0 a1 a2 c0 c1 c2):fI p We (w.alloc (.cells ar 48)) b0 d0 b1 d1 b2 d2 true false e g0 g1 g2 w.heap.size a0 a1 a2 c0 c1 c2:=by
 have hb:Below w.heap.size w (w.alloc (.cells ar 48)):=(Kp _ _).alloc (Ki _) _;have hlt: ∀ i,∀ q∈four (bM b0 d0 g0 a0) (bM b1 d1 g1 a1) (bM b2 d2 g2 a2) (bif false then [o] else []) i,q < w.heap.size:=fun i q hq=>(h.pR.xy i q hq).2
 exact ⟨h.cd.trans (hb.mono h.cd.size),h.part.below hb,(hb.block _ (by have:=h.size; omega)).trans h.ret,h.s0.same fun q hq=>hb.block q (hlt 0 q hq),h.s1.same fun q hq=>hb.block q (hlt 1 q hq),h.s2.same fun q hq=>hb.block q (hlt 2 q hq),fun _=>Kj _ _,⟨h.cl.1,fun e=>by cases e⟩,by have:=h.size; simp; omega,h.pR.up 3 (fun j hj=>by rcases j with _ | _ | _ | _ | _ <;> first | rfl | exact absurd rfl hj) (fun q hq=> .inr (by simpa [four] using hq)) (by simp) h.size⟩
theorem fI.build (h:fI p We w b0 d0 b1 d1 b2 d2 b3 d3 false g0 g1 g2 o a0 a1 a2 c0 c1 c2) (h0:d0=true) (h1:d1=true) (h2:d2=true):fI p We w b0 d0 b1 d1 b2 d2 b3 d3 true g0 g1 g2 o a0 a1 a2 c0 c1 c2:=⟨h.cd,h.part,h.ret,h.s0,h.s1,h.s2,h.I,⟨fun _=>⟨h0,h1,h2⟩,fun hd=>⟨rfl,(h.cl.2 hd).2⟩⟩,h.size,h.pR⟩
theorem fI.store (h:fI p We w b0 d0 b1 d1 b2 d2 true false true g0 g1 g2 o a0 a1 a2 c0 c1 c2):fI p We (w.setRow o #[.int .i64 p.id,.int .i64 p.next,.slice none 0 0,.slice a0 p.aj.length c0,.slice a1 p.L9.length c1,.slice a2 p.ag.length c2,.slice none 0 0,.slice none 0 0]) b0 d0 b1 d1 b2 d2 true true true g0 g1 g2 o a0 a1 a2 c0 c1 c2:=by
 have ho:=h.pR.xy 3 o (by simp [four]);have hne: ∀ q,q≠o→(w.setRow o #[.int .i64 p.id,.int .i64 p.next,.slice none 0 0,.slice a0 p.aj.length c0,.slice a1 p.L9.length c1,.slice a2 p.ag.length c2,.slice none 0 0,.slice none 0 0]).heap[q]? =w.heap[q]? :=fun q hq=>setRow_other _ _ _ _ hq
 have hap: ∀ i,i≠3→ ∀ q∈four (bM b0 d0 g0 a0) (bM b1 d1 g1 a1) (bM b2 d2 g2 a2) [o] i,q≠o:=fun i hi q hq e=>h.pR.apart i 3 hi q hq (by subst e; simp [four])
 have hsz:=h.size;exact ⟨kz h.cd (by omega) _,(hne _ (by omega)).trans h.part,(hne _ (by omega)).trans h.ret,h.s0.same fun q hq=>hne q (hap 0 (by decide) q hq),h.s1.same fun q hq=>hne q (hap 1 (by decide) q hq),h.s2.same fun q hq=>hne q (hap 2 (by decide) q hq),fun _=>setRow_heap _ _ _ _ _ _ (h.I rfl),⟨h.cl.1,fun _=>⟨rfl,rfl⟩⟩,by rw [size_setRow]; exact h.size,by rw [size_setRow]; exact h.pR⟩
end
end
section
open Go.RowKit
attribute [local go_sem ↓] Kc Kd
def bj (x:ao):Nat:=2+aF (fun _:dN=>4) x.prog+9
def rI (k k2:Int) (x:ao):ao:= { x with id:=k,RX:=k+1,prog:=aJ fj (fun _=>4) (k+1+1) x.prog,Md:=k2,pc:=k2+1,left:=k2+1+1,Mg:=k2+1+1+1,on:=k2+1+1+1+1,held:=cu (k2+1+1+1+1+1),got:=cu (k2+1+1+1+1+1+1),code:=k2+1+1+1+1+1+1+1,RU:=k2+1+1+1+1+1+1+1+1 }
def cw (k:Int) (x:ao):ao:=rI k (k+1+1+(aF (fun _:dN=>4) x.prog:Nat)) x
abbrev ado (x:ao) (m m':Int):ao:= { x with id:=m,RX:=m+1,prog:=aJ fj (fun _=>4) (m+1+1) x.prog,Md:=m',pc:=m'+1,left:=m'+1+1,Mg:=m'+1+1+1,on:=m'+1+1+1+1 }
abbrev afj (v2:World) (g j:Nat) (m':Int):World:=((v2.setCell ⟨g,j * 12+9,none⟩ (.string (cu (m'+1+1+1+1+1+1)))).setCell ⟨g,j * 12+10,none⟩ (.int .i64 (m'+1+1+1+1+1+1+1))).setCell ⟨g,j * 12+11,none⟩ (.int .i64 (m'+1+1+1+1+1+1+1+1))
abbrev adi (x:ao) (m m':Int):ao:= { x with id:=m,RX:=m+1,prog:=aJ fj (fun _=>4) (m+1+1) x.prog,Md:=m',pc:=m'+1,left:=m'+1+1,Mg:=m'+1+1+1,on:=m'+1+1+1+1,held:=cu (m'+1+1+1+1+1) }
theorem BB (a:Option Addr) (l:List ao) (cap:Nat) (k:Int) (w:World) (base:Nat) (hl:l.length≤1048576) (hk: ∀ x∈l,x.prog.length≤1048576) (h0:1≤k) (h1:k+(aF bj l:Nat)≤90000000) (ho:w.ownsRow base 148 12 (.slice a l.length cap) l.length (bg.flat l)) (hm: ∀ x∈l,aR.cO w base x) (hn:(blk a ++ l.filterMap aR.bt).Nodup):
  Calls J3 57 #[.slice a l.length cap,.int .i64 k] w fun e w'=>e= .returned (.int .i64 (k+(aF bj l:Nat)))∧w'.ownsRow base 148 12 (.slice a l.length cap) l.length (bg.flat (aJ cw bj k l))∧(∀ y∈aJ cw bj k l,aR.cO w' base y)∧aI w w' (blk a ++ l.filterMap aR.bt):=by
 by_cases hz:l.length=0
 ·have hl0:l= [] :=adU hz
  subst hl0;have HO:Hid (w.ownsRow base 148 12 (.slice a 0 cap) 0 (bg.flat [])):=ho;clear ho
  go_enter Tryz.func57,Tryz.ntmps57
  go_wp2_with fail
  go_loopw [1,5] (fun q i wr=>q= .int .i64 k∧i= .int .i64 0∧wr=w) (fun _ _ _=>0)
  case atStart=>exact ⟨rfl,rfl,rfl⟩
  case round=>
   obtain ⟨rfl,rfl,rfl⟩:=hrel;go_wp2;go_ret;exact ⟨ck (by simp [aF]),HO.I,(fun y hy=>by cases hy),aI.refl _ _⟩
 obtain ⟨g,rfl,hrow⟩:=bl.fX (K:=bg) ho hz;have HR:Hid (bl bg 148 w base g cap l∧fp aR w base g l):=⟨hrow,hm,hn⟩
 have HB:Hid (k+(aF bj l:Nat)≤90000000∧ ∀ x∈l,x.prog.length≤1048576):=⟨h1,hk⟩
 clear ho hrow h1 hz hm hn hk
 go_enter Tryz.func57,Tryz.ntmps57
 go_wp2_with fail
 go_loopw [1,5] (fun q i wr=> ∃ (j:Nat) (m:Int),j≤l.length∧i= .int .i64 j∧q= .int .i64 m∧1≤m∧m≤90000000∧Hid (m=k+(aF bj (l.take j):Nat)∧bl bg 148 wr base g cap (aJ cw bj k (l.take j) ++ l.drop j)∧fp aR wr base g (aJ cw bj k (l.take j) ++ l.drop j)∧aI w wr (g :: l.filterMap aR.bt))) (fun _ i _=>l.length - (intOf i).toNat)
 case atStart=>exact ⟨0,k,Ky _,rfl,rfl,h0,by have:=HB.I.1; omega,⟨by simp [aF],HR.I.1,HR.I.2,aI.refl _ _⟩⟩
 case round=>
  clear HR;obtain ⟨j,m,hj,rfl,rfl,m0,m1,HA⟩:=hrel;by_cases hlt:j < l.length
  ·have i0:(0:Int)≤(j:Int):=by omega
   have i1:(j:Int) < (l.length:Int):=by omega
   obtain ⟨x,hx⟩: ∃ x,l[j]? =some x:=⟨_,Kz hlt⟩
   have pI:l.drop j=x :: l.drop (j+1):=mz hx;have qw:=du (c:=bj) hx;have hup:=gK (c:=bj) hx;have hcx:bj x=2+aF (fun _:dN=>4) x.prog+9:=rfl;have HX:Hid (l[j]? =some x∧x.prog.length≤1048576∧m+1+1+(aF (fun _:dN=>4) x.prog:Nat)+9≤90000000∧m+1+1+(aF (fun _:dN=>4) x.prog:Nat)+9=k+(aF bj (l.take (j+1)):Nat)):=⟨hx,HB.I.2 x (KA hx),by have:=HB.I.1; have:=HA.I.1; omega,by have:=HA.I.1; omega⟩
   have HW:Hid (bl bg 148 wr base g cap (aJ cw bj k (l.take j) ++ x :: l.drop (j+1))∧(aJ cw bj k (l.take j)).length=j):=⟨by have:=HA.I.2.1; rwa [pI] at this,by rw [bE,Lk]; omega⟩
   have HM:Hid (fp aR wr base g (aJ cw bj k (l.take j) ++ x :: l.drop (j+1))):=by have:=HA.I.2.2.1; rwa [pI] at this
   have m2:m+1+1≤90000000:=by have:=HX.I.2.2.1; omega
   have hgl:g < wr.heap.size:=HW.I.1.lt;clear hx pI qw hup hcx;obtain ⟨⟨u0,c0⟩,f0⟩:(∃ u,wr.cell? ⟨g,j * 12,none⟩=some u)∧wr.frozen? ⟨g,j * 12,none⟩=false:=bl.eO HW.I.1 HW.I.2 (r:=0) (by decide:0 < bg.n);obtain ⟨⟨u1,c1⟩,f1⟩:(∃ u,wr.cell? ⟨g,j * 12+1,none⟩=some u)∧wr.frozen? ⟨g,j * 12+1,none⟩=false:=bl.eO HW.I.1 HW.I.2 (r:=1) (by decide:1 < bg.n);have c2:wr.cell? ⟨g,j * 12+2,none⟩=some (.slice x.aY x.prog.length x.bH):=(bl.uD HW.I.1 HW.I.2 (r:=2) (by decide:2 < bg.n))
   have h5:=bl.part (K:=bg) (x:=x) (y:=({ x with id:=m,RX:=m+1 } :ao)) (j:=0) (vs:= [.int .i64 m,.int .i64 (m+1)]) HW.I.1 (by show 0+2≤12; omega) (fun r hr=>by match r,hr with | 0,_=>rfl | 1,_=>rfl) (fun r hr hn=>by match r,hr,hn with | 0,_,hn=>exact absurd ⟨by omega,by show 0 < 0+2; omega⟩ hn | 1,_,hn=>exact absurd ⟨by omega,by show 1 < 0+2; omega⟩ hn | 2,_,_=>rfl | 3,_,_=>rfl | 4,_,_=>rfl | 5,_,_=>rfl | 6,_,_=>rfl | 7,_,_=>rfl | 8,_,_=>rfl | 9,_,_=>rfl | 10,_,_=>rfl | 11,_,_=>rfl);rw [HW.I.2,show bg.n=12 from rfl] at h5;have h6:aI wr (bn wr g (j * 12) [.int .i64 m,.int .i64 (m+1)]) [g] :=aI.set _ (by simp);simp only [bn,PT] at h5 h6;have HS:Hid (bl bg 148 ((wr.setCell ⟨g,j * 12,none⟩ (.int .i64 m)).setCell ⟨g,j * 12+1,none⟩ (.int .i64 (m+1))) base g cap (aJ cw bj k (l.take j) ++ ({ x with id:=m,RX:=m+1 } :ao) :: l.drop (j+1))∧fp aR ((wr.setCell ⟨g,j * 12,none⟩ (.int .i64 m)).setCell ⟨g,j * 12+1,none⟩ (.int .i64 (m+1))) base g (aJ cw bj k (l.take j) ++ ({ x with id:=m,RX:=m+1 } :ao) :: l.drop (j+1))∧aI w ((wr.setCell ⟨g,j * 12,none⟩ (.int .i64 m)).setCell ⟨g,j * 12+1,none⟩ (.int .i64 (m+1))) (g :: l.filterMap aR.bt)):=⟨h5,(HM.I.keep h6).ju rfl ((HM.I.keep h6).mine x (by simp)),HA.I.2.2.2.trans (h6.mono (by simp))⟩
   clear h5 h6;go_wp2_with fail;generalize (wr.setCell ⟨g,j * 12,none⟩ (.int .i64 m)).setCell ⟨g,j * 12+1,none⟩ (.int .i64 (m+1))=W1 at *;clear c2;refine (xP x.aY x.prog x.bH (m+1+1) W1 base HX.I.2.1 (by omega) (by have:=HX.I.2.2.1; omega) (HS.I.2.1.mine ({ x with id:=m,RX:=m+1 } :ao) (by simp))).mono ?_;rintro e v ⟨rfl,hown,hkb⟩;have HV:Hid (bl bg 148 v base g cap (aJ cw bj k (l.take j) ++ ({ x with id:=m,RX:=m+1,prog:=aJ fj (fun _=>4) (m+1+1) x.prog } :ao) :: l.drop (j+1))∧fp aR v base g (aJ cw bj k (l.take j) ++ ({ x with id:=m,RX:=m+1,prog:=aJ fj (fun _=>4) (m+1+1) x.prog } :ao) :: l.drop (j+1))∧aI w v (g :: l.filterMap aR.bt)):=by
    have hap:=HS.I.2.1.apart (z:=({ x with id:=m,RX:=m+1 } :ao)) (by simp);have h7:=HS.I.1.same (hkb.same g HS.I.1.lt hap);have hm7:aR.cO v base ({ x with id:=m,RX:=m+1,prog:=aJ fj (fun _=>4) (m+1+1) x.prog } :ao):=by
     show v.ownsRow base _ 4 (.slice x.aY (aJ fj (fun _=>4) (m+1+1) x.prog).length x.bH) (aJ fj (fun _=>4) (m+1+1) x.prog).length (fk.flat (aJ fj (fun _=>4) (m+1+1) x.prog))
     rw [bE];exact hown
    refine ⟨?_,HS.I.2.1.inner hkb rfl hm7,HS.I.2.2.trans (hkb.mono fun b hb=> ?_)⟩
    ·exact bl.part (K:=bg) (x:=({ x with id:=m,RX:=m+1 } :ao)) (y:=({ x with id:=m,RX:=m+1,prog:=aJ fj (fun _=>4) (m+1+1) x.prog } :ao)) (j:=0) (vs:= []) h7 (by show 0+0≤12; omega) (fun r hr=>absurd hr (by simp)) (fun r hr _=>by match r,hr with | 0,_=>rfl | 1,_=>rfl | 2,_=>(show some (Value.slice x.aY (aJ fj (fun _=>4) (m+1+1) x.prog).length x.bH)=some (.slice x.aY x.prog.length x.bH); rw [bE]) | 3,_=>rfl | 4,_=>rfl | 5,_=>rfl | 6,_=>rfl | 7,_=>rfl | 8,_=>rfl | 9,_=>rfl | 10,_=>rfl | 11,_=>rfl)
    ·exact LB _ (Lq.2 ⟨x,KA HX.I.1,fZ.1 hb⟩)
   obtain ⟨m',hm'⟩: ∃ q:Int,q=m+1+1+(aF (fun _:dN=>4) x.prog:Nat):=⟨_,rfl⟩
   rw [← hm'];have HQ:Hid (m'=m+1+1+(aF (fun _:dN=>4) x.prog:Nat)):=hm';have p0:1≤m':=by omega
   have p1:m'+9≤90000000:=by have:=HX.I.2.2.1; omega
   clear hown hkb HS hm';obtain ⟨⟨u3,c3⟩,f3⟩:(∃ u,v.cell? ⟨g,j * 12+3,none⟩=some u)∧v.frozen? ⟨g,j * 12+3,none⟩=false:=bl.eO HV.I.1 HW.I.2 (r:=3) (by decide:3 < bg.n);obtain ⟨⟨u4,c4⟩,f4⟩:(∃ u,v.cell? ⟨g,j * 12+4,none⟩=some u)∧v.frozen? ⟨g,j * 12+4,none⟩=false:=bl.eO HV.I.1 HW.I.2 (r:=4) (by decide:4 < bg.n);obtain ⟨⟨u5,c5⟩,f5⟩:(∃ u,v.cell? ⟨g,j * 12+5,none⟩=some u)∧v.frozen? ⟨g,j * 12+5,none⟩=false:=bl.eO HV.I.1 HW.I.2 (r:=5) (by decide:5 < bg.n);obtain ⟨⟨u6,c6⟩,f6⟩:(∃ u,v.cell? ⟨g,j * 12+6,none⟩=some u)∧v.frozen? ⟨g,j * 12+6,none⟩=false:=bl.eO HV.I.1 HW.I.2 (r:=6) (by decide:6 < bg.n);obtain ⟨⟨u7,c7⟩,f7⟩:(∃ u,v.cell? ⟨g,j * 12+7,none⟩=some u)∧v.frozen? ⟨g,j * 12+7,none⟩=false:=bl.eO HV.I.1 HW.I.2 (r:=7) (by decide:7 < bg.n);have h5:=bl.part (K:=bg) (x:=({ x with id:=m,RX:=m+1,prog:=aJ fj (fun _=>4) (m+1+1) x.prog } :ao)) (y:=(ado x m m')) (j:=3) (vs:= [.int .i64 (m'),.int .i64 (m'+1),.int .i64 (m'+1+1),.int .i64 (m'+1+1+1),.int .i64 (m'+1+1+1+1)]) HV.I.1 (by show 3+5≤12; omega) (fun r hr=>by match r,hr with | 0,_=>rfl | 1,_=>rfl | 2,_=>rfl | 3,_=>rfl | 4,_=>rfl) (fun r hr hn=>by match r,hr,hn with | 0,_,_=>rfl | 1,_,_=>rfl | 2,_,_=>rfl | 3,_,hn=>exact absurd ⟨by omega,by show 3 < 3+5; omega⟩ hn | 4,_,hn=>exact absurd ⟨by omega,by show 4 < 3+5; omega⟩ hn | 5,_,hn=>exact absurd ⟨by omega,by show 5 < 3+5; omega⟩ hn | 6,_,hn=>exact absurd ⟨by omega,by show 6 < 3+5; omega⟩ hn | 7,_,hn=>exact absurd ⟨by omega,by show 7 < 3+5; omega⟩ hn | 8,_,_=>rfl | 9,_,_=>rfl | 10,_,_=>rfl | 11,_,_=>rfl);rw [HW.I.2,show bg.n=12 from rfl] at h5;have h6:aI v (bn v g (j * 12+3) [.int .i64 (m'),.int .i64 (m'+1),.int .i64 (m'+1+1),.int .i64 (m'+1+1+1),.int .i64 (m'+1+1+1+1)]) [g] :=aI.set _ (by simp);simp only [bn,adV,Nat.reduceAdd] at h5 h6;have mH:Hid (bl bg 148 (((((v.setCell ⟨g,j * 12+3,none⟩ (.int .i64 (m'))).setCell ⟨g,j * 12+4,none⟩ (.int .i64 (m'+1))).setCell ⟨g,j * 12+5,none⟩ (.int .i64 (m'+1+1))).setCell ⟨g,j * 12+6,none⟩ (.int .i64 (m'+1+1+1))).setCell ⟨g,j * 12+7,none⟩ (.int .i64 (m'+1+1+1+1))) base g cap (aJ cw bj k (l.take j) ++ (ado x m m') :: l.drop (j+1))∧fp aR (((((v.setCell ⟨g,j * 12+3,none⟩ (.int .i64 (m'))).setCell ⟨g,j * 12+4,none⟩ (.int .i64 (m'+1))).setCell ⟨g,j * 12+5,none⟩ (.int .i64 (m'+1+1))).setCell ⟨g,j * 12+6,none⟩ (.int .i64 (m'+1+1+1))).setCell ⟨g,j * 12+7,none⟩ (.int .i64 (m'+1+1+1+1))) base g (aJ cw bj k (l.take j) ++ (ado x m m') :: l.drop (j+1))∧aI w (((((v.setCell ⟨g,j * 12+3,none⟩ (.int .i64 (m'))).setCell ⟨g,j * 12+4,none⟩ (.int .i64 (m'+1))).setCell ⟨g,j * 12+5,none⟩ (.int .i64 (m'+1+1))).setCell ⟨g,j * 12+6,none⟩ (.int .i64 (m'+1+1+1))).setCell ⟨g,j * 12+7,none⟩ (.int .i64 (m'+1+1+1+1))) (g :: l.filterMap aR.bt)):=⟨h5,(HV.I.2.1.keep h6).ju rfl ((HV.I.2.1.keep h6).mine ({ x with id:=m,RX:=m+1,prog:=aJ fj (fun _=>4) (m+1+1) x.prog } :ao) (by simp)),HV.I.2.2.trans (h6.mono (by simp))⟩
   clear h5 h6;go_wp2_with fail;refine (fh (m'+1+1+1+1+1) (by omega) (by omega) _).mono ?_;rintro e v1 ⟨rfl,hb⟩;have wm:Hid (bl bg 148 v1 base g cap (aJ cw bj k (l.take j) ++ (ado x m m') :: l.drop (j+1))∧fp aR v1 base g (aJ cw bj k (l.take j) ++ (ado x m m') :: l.drop (j+1))∧aI w v1 (g :: l.filterMap aR.bt)):=⟨mH.I.1.same (hb.block g mH.I.1.lt),mH.I.2.1.keep (aI.dI hb),mH.I.2.2.trans (aI.dI hb)⟩
   clear hb;obtain ⟨⟨u8,c8⟩,f8⟩:(∃ u,v1.cell? ⟨g,j * 12+8,none⟩=some u)∧v1.frozen? ⟨g,j * 12+8,none⟩=false:=bl.eO wm.I.1 HW.I.2 (r:=8) (by decide:8 < bg.n);have h5:=bl.part (K:=bg) (x:=(ado x m m')) (y:=(adi x m m')) (j:=8) (vs:= [.string (cu (m'+1+1+1+1+1))]) wm.I.1 (by show 8+1≤12; omega) (fun r hr=>by match r,hr with | 0,_=>rfl) (fun r hr hn=>by match r,hr,hn with | 0,_,_=>rfl | 1,_,_=>rfl | 2,_,_=>rfl | 3,_,_=>rfl | 4,_,_=>rfl | 5,_,_=>rfl | 6,_,_=>rfl | 7,_,_=>rfl | 8,_,hn=>exact absurd ⟨by omega,by show 8 < 8+1; omega⟩ hn | 9,_,_=>rfl | 10,_,_=>rfl | 11,_,_=>rfl);rw [HW.I.2,show bg.n=12 from rfl] at h5;have h6:aI v1 (bn v1 g (j * 12+8) [.string (cu (m'+1+1+1+1+1))]) [g] :=aI.set _ (by simp);simp only [bn] at h5 h6;have mO:Hid (bl bg 148 (v1.setCell ⟨g,j * 12+8,none⟩ (.string (cu (m'+1+1+1+1+1)))) base g cap (aJ cw bj k (l.take j) ++ (adi x m m') :: l.drop (j+1))∧fp aR (v1.setCell ⟨g,j * 12+8,none⟩ (.string (cu (m'+1+1+1+1+1)))) base g (aJ cw bj k (l.take j) ++ (adi x m m') :: l.drop (j+1))∧aI w (v1.setCell ⟨g,j * 12+8,none⟩ (.string (cu (m'+1+1+1+1+1)))) (g :: l.filterMap aR.bt)):=⟨h5,(wm.I.2.1.keep h6).ju rfl ((wm.I.2.1.keep h6).mine (ado x m m') (by simp)),wm.I.2.2.trans (h6.mono (by simp))⟩
   clear h5 h6;go_wp2_with fail;refine (fh (m'+1+1+1+1+1+1) (by omega) (by omega) _).mono ?_;rintro e v2 ⟨rfl,hb⟩;have xD:Hid (bl bg 148 v2 base g cap (aJ cw bj k (l.take j) ++ (adi x m m') :: l.drop (j+1))∧fp aR v2 base g (aJ cw bj k (l.take j) ++ (adi x m m') :: l.drop (j+1))∧aI w v2 (g :: l.filterMap aR.bt)):=⟨mO.I.1.same (hb.block g mO.I.1.lt),mO.I.2.1.keep (aI.dI hb),mO.I.2.2.trans (aI.dI hb)⟩
   clear hb;obtain ⟨⟨u9,c9⟩,f9⟩:(∃ u,v2.cell? ⟨g,j * 12+9,none⟩=some u)∧v2.frozen? ⟨g,j * 12+9,none⟩=false:=bl.eO xD.I.1 HW.I.2 (r:=9) (by decide:9 < bg.n);obtain ⟨⟨u10,qF⟩,f10⟩:(∃ u,v2.cell? ⟨g,j * 12+10,none⟩=some u)∧v2.frozen? ⟨g,j * 12+10,none⟩=false:=bl.eO xD.I.1 HW.I.2 (r:=10) (by decide:10 < bg.n);obtain ⟨⟨u11,pe⟩,f11⟩:(∃ u,v2.cell? ⟨g,j * 12+11,none⟩=some u)∧v2.frozen? ⟨g,j * 12+11,none⟩=false:=bl.eO xD.I.1 HW.I.2 (r:=11) (by decide:11 < bg.n);have h5:=bl.part (K:=bg) (x:=(adi x m m')) (y:=({ x with id:=m,RX:=m+1,prog:=aJ fj (fun _=>4) (m+1+1) x.prog,Md:=m',pc:=m'+1,left:=m'+1+1,Mg:=m'+1+1+1,on:=m'+1+1+1+1,held:=cu (m'+1+1+1+1+1),got:=cu (m'+1+1+1+1+1+1),code:=m'+1+1+1+1+1+1+1,RU:=m'+1+1+1+1+1+1+1+1 } :ao)) (j:=9) (vs:= [.string (cu (m'+1+1+1+1+1+1)),.int .i64 (m'+1+1+1+1+1+1+1),.int .i64 (m'+1+1+1+1+1+1+1+1)]) xD.I.1 (by show 9+3≤12; omega) (fun r hr=>by match r,hr with | 0,_=>rfl | 1,_=>rfl | 2,_=>rfl) (fun r hr hn=>by match r,hr,hn with | 0,_,_=>rfl | 1,_,_=>rfl | 2,_,_=>rfl | 3,_,_=>rfl | 4,_,_=>rfl | 5,_,_=>rfl | 6,_,_=>rfl | 7,_,_=>rfl | 8,_,_=>rfl | 9,_,hn=>exact absurd ⟨by omega,by show 9 < 9+3; omega⟩ hn | 10,_,hn=>exact absurd ⟨by omega,by show 10 < 9+3; omega⟩ hn | 11,_,hn=>exact absurd ⟨by omega,by show 11 < 9+3; omega⟩ hn);rw [HW.I.2,show bg.n=12 from rfl] at h5;have h6:aI v2 (bn v2 g (j * 12+9) [.string (cu (m'+1+1+1+1+1+1)),.int .i64 (m'+1+1+1+1+1+1+1),.int .i64 (m'+1+1+1+1+1+1+1+1)]) [g] :=aI.set _ (by simp);simp only [bn,adV,Nat.reduceAdd] at h5 h6;have EU:Hid (bl bg 148 (afj v2 g j m') base g cap (aJ cw bj k (l.take j) ++ ({ x with id:=m,RX:=m+1,prog:=aJ fj (fun _=>4) (m+1+1) x.prog,Md:=m',pc:=m'+1,left:=m'+1+1,Mg:=m'+1+1+1,on:=m'+1+1+1+1,held:=cu (m'+1+1+1+1+1),got:=cu (m'+1+1+1+1+1+1),code:=m'+1+1+1+1+1+1+1,RU:=m'+1+1+1+1+1+1+1+1 } :ao) :: l.drop (j+1))∧fp aR (afj v2 g j m') base g (aJ cw bj k (l.take j) ++ ({ x with id:=m,RX:=m+1,prog:=aJ fj (fun _=>4) (m+1+1) x.prog,Md:=m',pc:=m'+1,left:=m'+1+1,Mg:=m'+1+1+1,on:=m'+1+1+1+1,held:=cu (m'+1+1+1+1+1),got:=cu (m'+1+1+1+1+1+1),code:=m'+1+1+1+1+1+1+1,RU:=m'+1+1+1+1+1+1+1+1 } :ao) :: l.drop (j+1))∧aI w (afj v2 g j m') (g :: l.filterMap aR.bt)):=⟨h5,(xD.I.2.1.keep h6).ju rfl ((xD.I.2.1.keep h6).mine (adi x m m') (by simp)),xD.I.2.2.trans (h6.mono (by simp))⟩
   clear h5 h6;have HN:Hid (bl bg 148 (afj v2 g j m') base g cap (aJ cw bj k (l.take (j+1)) ++ l.drop (j+1))∧fp aR (afj v2 g j m') base g (aJ cw bj k (l.take (j+1)) ++ l.drop (j+1))∧aI w (afj v2 g j m') (g :: l.filterMap aR.bt)):=by
    rw [kE HX.I.1,Lm,← HA.I.1,show cw m x=rI m m' x by rw [HQ.I]; rfl];exact EU.I
   go_wp2;go_roundw
   case rel=>exact ⟨j+1,m'+9,by omega,by go_num,by go_num,by omega,by omega,⟨by have:=HX.I.2.2.2; have:=HQ.I; omega,HN.I.1,HN.I.2.1,HN.I.2.2⟩⟩
   case measure=>simp [intOf]; omega
  ·have i1: ¬ (j:Int) < (l.length:Int):=by omega
   have ej:j=l.length:=by omega
   subst ej;have HE:Hid (bl bg 148 wr base g cap (aJ cw bj k l)∧fp aR wr base g (aJ cw bj k l)∧m=k+(aF bj l:Nat)):=by have h5:=HA.I.2.1; have h6:=HA.I.1; have h7:=HA.I.2.2.1; rw [LQ,adW,QO] at h5 h7; rw [LQ] at h6; exact ⟨h5,h7,h6⟩
   go_wp2;go_ret;refine ⟨ck HE.I.2.2,?_,HE.I.2.1.mine,HA.I.2.2.2⟩;have h7:=HE.I.1.owns;rw [bE] at h7;exact h7
end
section
open Go.RowKit Go.ChangeShapes Go.WideShapes Go.Joins Go.Deep
theorem Uw {α:Type} {p:Nat→α→Prop} : ∀ n,(∀ i,i < n→ ∃ y,p i y)→ ∃ l:List α,l.length=n∧ ∀ i y,l[i]? =some y→p i y
 | 0,_=>⟨[],rfl,fun i y h=>by simp at h⟩
 | n+1,h=>by
  obtain ⟨l,hl,hp⟩:=Uw n fun i hi=>h i (by omega)
  obtain ⟨y,hy⟩:=h n (by omega);refine ⟨l ++ [y],by simp [hl],fun i z hz=> ?_⟩;by_cases hi:i < l.length
  ·rw [List.getElem?_append_left hi] at hz
   exact hp i z hz
  ·rw [List.getElem?_append_right (by omega)] at hz
   have e:i - l.length=0:=by
    have:=(Lj.1 hz).1
    simp at this;omega
   rw [e] at hz;simp only [List.getElem?_cons_zero,LF] at hz;subst hz
   have:i=n:=by omega
   subst this;exact hy
section
variable {H:Type} {enc:TypeId × Value→H} {W:World}
theorem mo {t:TypeId} {fs:Array Field} {fuel:Nat} {cs:List Value} {x:DataW H × List MemPlace} (ht:Tryz.prog.underlying t=some (.struct fs)) (hone:oneCellFields J3 fs=true) (h:DataW.trod enc J3 W 0 (fun _=>true) true fuel t cs=some x):
  cs.length=Tryz.prog.cellsOf t∧ ∃ n,∀ (i:Nat) (f:Field) (v:Value),fs[i]? =some f→cs[i]? =some v→ ∃ y,DataW.trod enc J3 W 0 (fun _=>true) true n f.type [v] =some y:=by
 obtain ⟨xs,n,_,_,hl,hlen,hf⟩:=DataW.trod_struct ht h;refine ⟨hl,n,fun i f v hfi hv=> ?_⟩;obtain ⟨o1,o2⟩:=hone_of hone i f hfi;have h1:=hf i f hfi;have hi:i < xs.length:=by rw [hlen]; exact (J2.1 hfi).1
 rw [o1,o2,Kz hi] at h1;have h2:(cs.drop i).take 1= [v] :=by
  obtain ⟨hlt,rfl⟩:=Lj.1 hv;rw [List.drop_eq_getElem_cons hlt];rfl
 rw [h2] at h1;exact ⟨_,h1⟩
theorem gk {α:Type} (K:Kind α) (G:α→Prop) {t e:TypeId} (ht:Tryz.prog.underlying t=some (.slice e)) (hn:Tryz.prog.cellsOf e=K.n) (hel: ∀ n cs x,DataW.trod enc J3 W 0 (fun _=>true) true n e cs=some x→ ∃ y,cs=K.vals y∧G y)
  {fuel:Nat} {v:Value} {x:DataW H × List MemPlace} (h:DataW.trod enc J3 W 0 (fun _=>true) true fuel t [v] =some x):
  ∃ (a:Option Addr) (l:List α) (cap:Nat),v= .slice a l.length cap∧l.length≤maxLen∧Src W a (K.flat l)∧ ∀ y∈l,G y:=by
 rcases open_slice ht h with ⟨e1,_⟩ | ⟨a,len,cap,q,n,dz,Pl,e1,_,hl,hm,hq,_,hx⟩
 ·simp only [adK,and_true] at e1
  exact ⟨none,[],0,e1,Ky _,(fun j u hu=>by simp [Kind.flat] at hu),fun y hy=>by cases hy⟩
 ·simp only [adK,and_true] at e1
  simp only [if_true] at hq;have key: ∀ i,i < len→ ∃ y,(∀ r,r < K.n→W.cell? (a.add (i * K.n+r))=(K.vals y)[r]?)∧G y:=fun i hi=>by
   obtain ⟨cs',k1,k2⟩:=hx i (by omega);rw [hn] at k1;obtain ⟨_,_,kc⟩:=World.cells?_some k1;obtain ⟨y,rfl,hy⟩:=hel _ _ _ k2;refine ⟨y,fun r hr=> ?_,hy⟩
   have:=kc r hr
   rw [add_add] at this;exact this
  obtain ⟨l,hlen,hp⟩:=Uw len key;refine ⟨some a,l,cap,by rw [hlen]; exact e1,by rw [hlen]; omega,fun j u hu=> ?_,fun y hy=> ?_⟩
  ·have hj:j < l.length * K.n:=by
    rw [← K.dM];exact (Lj.1 hu).1
   have hi:j / K.n < l.length:=Nat.div_lt_of_lt_mul (by rw [adM]; exact hj);have hr:j % K.n < K.n:=Nat.mod_lt _ K.pos;have ej:j / K.n * K.n+j % K.n=j:=by rw [adM]; exact Nat.div_add_mod j K.n
   obtain ⟨y,hy⟩: ∃ y,l[j / K.n]? =some y:=⟨_,Kz hi⟩
   have h1:=(hp _ _ hy).1 (j % K.n) hr;rw [← K.jw hy hr,ej,hu] at h1;obtain ⟨b,off,spot⟩:=a;have hspot:spot=none:=by
    obtain ⟨y0,hy0⟩: ∃ y,l[0]? =some y:=⟨_,Kz (Nat.lt_of_le_of_lt (Ky _) hi)⟩
    have h2:=(hp _ _ hy0).1 0 K.pos;rw [Kz (by rw [K.len]; exact K.pos)] at h2
    have:=World.cell?_spot h2
    simpa [Addr.add] using this
   subst hspot;rw [add_plain] at h1;exact ⟨b,off,rfl,h1⟩
  ·obtain ⟨i,hi⟩:=List.mem_iff_getElem?.1 hy
   exact (hp _ _ hi).2
theorem TU:Tryz.prog.cellsOf 9=bT.n:=by kernel_rfl
theorem Ti {fuel:Nat} {cs:List Value} {x:DataW H × List MemPlace} (h:DataW.trod enc J3 W 0 (fun _=>true) true fuel 9 cs=some x): ∃ s:ByteArray,cs=bT.vals s∧s.size≤maxLen:=by
 obtain ⟨s,e,-,hs⟩:=adO adP h;exact ⟨s,e,hs⟩
theorem Ut:Tryz.prog.cellsOf 317=4:=by kernel_rfl
theorem UN {fuel:Nat} {cs:List Value} {x:DataW H × List MemPlace} (h:DataW.trod enc J3 W 0 (fun _=>true) true fuel 317 cs=some x): ∃ y,cs=fk.vals y∧(fun o:dN=>o.2.2.2.size≤maxLen) y:=by
 obtain ⟨hlen,n,hf⟩:=mo Tryz.underlying317 (by kernel_rfl) h;rw [Ut] at hlen
 match cs,hlen with
 | [v0,v1,v2,v3],_=>
  obtain ⟨y0,h0⟩:=hf 0 _ v0 rfl rfl;obtain ⟨a0,e0,-,w0⟩:=adQ KN h0;obtain ⟨y1,h1⟩:=hf 1 _ v1 rfl rfl;obtain ⟨a1,e1,-,w1⟩:=adQ KN h1;obtain ⟨y2,h2⟩:=hf 2 _ v2 rfl rfl;obtain ⟨a2,e2,-,w2⟩:=adQ KN h2;obtain ⟨y3,h3⟩:=hf 3 _ v3 rfl rfl;obtain ⟨a3,e3,-,s3⟩:=adO adP h3;simp only [adK,and_true] at e0 e1 e2 e3;subst e0 e1 e2 e3;exact ⟨(a0,a1,a2,a3),rfl,s3⟩
theorem Vl:Tryz.prog.cellsOf 224=3:=by kernel_rfl
theorem Uo {fuel:Nat} {cs:List Value} {x:DataW H × List MemPlace} (h:DataW.trod enc J3 W 0 (fun _=>true) true fuel 224 cs=some x): ∃ y,cs=dm.vals y∧(fun y:bD=>(Lit.int .i64 y.id).wf=true) y:=by
 obtain ⟨hlen,n,hf⟩:=mo Tryz.underlying224 (by kernel_rfl) h;rw [Vl] at hlen
 match cs,hlen with
 | [v0,v1,v2],_=>
  obtain ⟨y0,h0⟩:=hf 0 _ v0 rfl rfl;obtain ⟨a0,e0,-,w0⟩:=adQ KN h0;obtain ⟨y1,h1⟩:=hf 1 _ v1 rfl rfl;obtain ⟨a1,e1,-,w1⟩:=adQ KN h1;obtain ⟨y2,h2⟩:=hf 2 _ v2 rfl rfl;obtain ⟨a2,e2,-,w2⟩:=adQ KN h2;simp only [adK,and_true] at e0 e1 e2;subst e0 e1 e2;exact ⟨⟨a0,a1,a2⟩,rfl,w0⟩
theorem Uh:Tryz.prog.cellsOf 226=2:=by kernel_rfl
theorem TM {fuel:Nat} {cs:List Value} {x:DataW H × List MemPlace} (h:DataW.trod enc J3 W 0 (fun _=>true) true fuel 226 cs=some x): ∃ y,cs=bJ.vals y∧(fun y:aB=>(Lit.int .i64 y.id).wf=true) y:=by
 obtain ⟨hlen,n,hf⟩:=mo Tryz.underlying226 (by kernel_rfl) h;rw [Uh] at hlen
 match cs,hlen with
 | [v0,v1],_=>
  obtain ⟨y0,h0⟩:=hf 0 _ v0 rfl rfl;obtain ⟨a0,e0,-,w0⟩:=adQ KN h0;obtain ⟨y1,h1⟩:=hf 1 _ v1 rfl rfl;obtain ⟨a1,e1,-⟩:=adS Q6 h1;simp only [adK,and_true] at e0 e1;subst e0 e1;exact ⟨⟨a0,a1⟩,rfl,w0⟩
theorem Ue:Tryz.prog.cellsOf 217=3:=by kernel_rfl
theorem TL {fuel:Nat} {cs:List Value} {x:DataW H × List MemPlace} (h:DataW.trod enc J3 W 0 (fun _=>true) true fuel 217 cs=some x): ∃ y,cs=bG.vals y∧(fun y:az=>(Lit.int .i64 y.id).wf=true∧y.text.size≤maxLen) y:=by
 obtain ⟨hlen,n,hf⟩:=mo Tryz.underlying217 (by kernel_rfl) h;rw [Ue] at hlen
 match cs,hlen with
 | [v0,v1,v2],_=>
  obtain ⟨y0,h0⟩:=hf 0 _ v0 rfl rfl;obtain ⟨a0,e0,-,w0⟩:=adQ KN h0;obtain ⟨y1,h1⟩:=hf 1 _ v1 rfl rfl;obtain ⟨a1,e1,-⟩:=adS Q6 h1;obtain ⟨y2,h2⟩:=hf 2 _ v2 rfl rfl;obtain ⟨a2,e2,-,s2⟩:=adO adP h2;simp only [adK,and_true] at e0 e1 e2;subst e0 e1 e2;exact ⟨⟨a0,a1,a2⟩,rfl,w0,s2⟩
theorem T6:Tryz.prog.cellsOf 219=3:=by kernel_rfl
theorem Tt {fuel:Nat} {cs:List Value} {x:DataW H × List MemPlace} (h:DataW.trod enc J3 W 0 (fun _=>true) true fuel 219 cs=some x): ∃ y,cs=bm.vals y∧(fun y:au=>(Lit.int .i64 y.id).wf=true∧(y.Ma.length≤maxLen∧ ∀ s∈y.Ma,s.size≤maxLen)∧Src W y.ak (bT.flat y.Ma)) y:=by
 obtain ⟨hlen,n,hf⟩:=mo Tryz.underlying219 (by kernel_rfl) h;rw [T6] at hlen
 match cs,hlen with
 | [v0,v1,v2],_=>
  obtain ⟨y0,h0⟩:=hf 0 _ v0 rfl rfl;obtain ⟨a0,e0,-,w0⟩:=adQ KN h0;obtain ⟨y1,h1⟩:=hf 1 _ v1 rfl rfl;obtain ⟨a1,e1,-,w1⟩:=adQ KN h1;obtain ⟨y2,h2⟩:=hf 2 _ v2 rfl rfl;obtain ⟨b2,l2,c2,e2,z2,r2,g2⟩:=gk bT (fun s=>s.size≤maxLen) adT TU (fun _ _ _ h=>Ti h) h2;simp only [adK,and_true] at e0 e1;subst e0 e1 e2;exact ⟨⟨⟨a0,a1,l2⟩,b2,c2⟩,rfl,w0,⟨z2,g2⟩,r2⟩
theorem UK:Tryz.prog.cellsOf 221=5:=by kernel_rfl
theorem TT {fuel:Nat} {cs:List Value} {x:DataW H × List MemPlace} (h:DataW.trod enc J3 W 0 (fun _=>true) true fuel 221 cs=some x): ∃ y,cs=bX.vals y∧(fun y:aM=>(Lit.int .i64 y.id).wf=true∧(y.Ma.length≤maxLen∧ ∀ s∈y.Ma,s.size≤maxLen)∧Src W y.ak (bT.flat y.Ma)) y:=by
 obtain ⟨hlen,n,hf⟩:=mo Tryz.underlying221 (by kernel_rfl) h;rw [UK] at hlen
 match cs,hlen with
 | [v0,v1,v2,v3,v4],_=>
  obtain ⟨y0,h0⟩:=hf 0 _ v0 rfl rfl;obtain ⟨a0,e0,-,w0⟩:=adQ KN h0;obtain ⟨y1,h1⟩:=hf 1 _ v1 rfl rfl;obtain ⟨a1,e1,-⟩:=adS Q6 h1;obtain ⟨y2,h2⟩:=hf 2 _ v2 rfl rfl;obtain ⟨a2,e2,-⟩:=adS Q6 h2;obtain ⟨y3,h3⟩:=hf 3 _ v3 rfl rfl;obtain ⟨a3,e3,-,w3⟩:=adQ KN h3;obtain ⟨y4,h4⟩:=hf 4 _ v4 rfl rfl;obtain ⟨b4,l4,c4,e4,z4,r4,g4⟩:=gk bT (fun s=>s.size≤maxLen) adT TU (fun _ _ _ h=>Ti h) h4;simp only [adK,and_true] at e0 e1 e2 e3;subst e0 e1 e2 e3 e4;exact ⟨⟨⟨a0,a1,a2,a3,l4⟩,b4,c4⟩,rfl,w0,⟨z4,g4⟩,r4⟩
theorem UO:Tryz.prog.cellsOf 215=12:=by kernel_rfl
theorem T8 {fuel:Nat} {cs:List Value} {x:DataW H × List MemPlace} (h:DataW.trod enc J3 W 0 (fun _=>true) true fuel 215 cs=some x): ∃ y,cs=bg.vals y∧(fun y:ao=>y.Wf∧((y.prog.length≤maxLen∧ ∀ o∈y.prog,o.2.2.2.size≤maxLen)∧y.held.size≤maxLen∧y.got.size≤maxLen)∧Src W y.aY (fk.flat y.prog)) y:=by
 obtain ⟨hlen,n,hf⟩:=mo Tryz.underlying215 (by kernel_rfl) h;rw [UO] at hlen
 match cs,hlen with
 | [v0,v1,v2,v3,v4,v5,v6,v7,v8,v9,v10,v11],_=>
  obtain ⟨y0,h0⟩:=hf 0 _ v0 rfl rfl;obtain ⟨a0,e0,-,w0⟩:=adQ KN h0;obtain ⟨y1,h1⟩:=hf 1 _ v1 rfl rfl;obtain ⟨a1,e1,-,w1⟩:=adQ KN h1;obtain ⟨y2,h2⟩:=hf 2 _ v2 rfl rfl;obtain ⟨b2,l2,c2,e2,z2,r2,g2⟩:=gk fk (fun o=>o.2.2.2.size≤maxLen) Tryz.underlying213 Ut (fun _ _ _ h=>UN h) h2;obtain ⟨y3,h3⟩:=hf 3 _ v3 rfl rfl;obtain ⟨a3,e3,-,w3⟩:=adQ KN h3;obtain ⟨y4,h4⟩:=hf 4 _ v4 rfl rfl;obtain ⟨a4,e4,-,w4⟩:=adQ KN h4;obtain ⟨y5,h5⟩:=hf 5 _ v5 rfl rfl;obtain ⟨a5,e5,-,w5⟩:=adQ KN h5;obtain ⟨y6,h6⟩:=hf 6 _ v6 rfl rfl;obtain ⟨a6,e6,-,w6⟩:=adQ KN h6;obtain ⟨y7,h7⟩:=hf 7 _ v7 rfl rfl;obtain ⟨a7,e7,-,w7⟩:=adQ KN h7;obtain ⟨ea,h8⟩:=hf 8 _ v8 rfl rfl;obtain ⟨a8,e8,-,s8⟩:=adO adP h8;obtain ⟨ah,h9⟩:=hf 9 _ v9 rfl rfl;obtain ⟨a9,e9,-,s9⟩:=adO adP h9;obtain ⟨y10,h10⟩:=hf 10 _ v10 rfl rfl;obtain ⟨a10,Pn,-,pH⟩:=adQ KN h10;obtain ⟨y11,h11⟩:=hf 11 _ v11 rfl rfl;obtain ⟨a11,e11,-,ow⟩:=adQ KN h11;simp only [adK,and_true] at e0 e1 e3 e4 e5 e6 e7 e8 e9 Pn e11;subst e0 e1 e3 e4 e5 e6 e7 e8 e9 Pn e11 e2;exact ⟨⟨⟨a0,a1,l2,a3,a4,a5,a6,a7,a8,a9,a10,a11⟩,b2,c2⟩,rfl,⟨w0,w7,ow⟩,⟨⟨z2,g2⟩,s8,s9⟩,r2⟩
theorem sA {fuel:Nat} {cs:List Value} {x:DataW H × List MemPlace} (h:DataW.trod enc J3 W 0 (fun _=>true) true fuel 68 cs=some x): ∃ p:af,cs=p.cells.toList∧p.Ud∧p.ep W∧p.Ints:=by
 obtain ⟨hlen,n,hf⟩:=mo Tryz.underlying68 (by kernel_rfl) h;rw [show Tryz.prog.cellsOf 68=8 by kernel_rfl] at hlen
 match cs,hlen with
 | [v0,v1,v2,v3,v4,v5,v6,v7],_=>
  obtain ⟨y0,h0⟩:=hf 0 _ v0 rfl rfl;obtain ⟨y1,h1⟩:=hf 1 _ v1 rfl rfl;obtain ⟨a0,e0,-,-⟩:=adQ KN h0;obtain ⟨a1,e1,-,-⟩:=adQ KN h1;obtain ⟨y2,h2⟩:=hf 2 _ v2 rfl rfl;obtain ⟨b2,l2,c2,e2,z2,r2,g2⟩:=gk bg (fun y:ao=>y.Wf∧((y.prog.length≤maxLen∧ ∀ o∈y.prog,o.2.2.2.size≤maxLen)∧y.held.size≤maxLen∧y.got.size≤maxLen)∧Src W y.aY (fk.flat y.prog)) Tryz.underlying61 (by kernel_rfl) (fun _ _ _ h=>T8 h) h2;obtain ⟨y3,h3⟩:=hf 3 _ v3 rfl rfl;obtain ⟨b3,l3,c3,e3,z3,r3,g3⟩:=gk dm (fun y:bD=>(Lit.int .i64 y.id).wf=true) Tryz.underlying62 (by kernel_rfl) (fun _ _ _ h=>Uo h) h3;obtain ⟨y4,h4⟩:=hf 4 _ v4 rfl rfl;obtain ⟨b4,l4,c4,e4,z4,r4,g4⟩:=gk bJ (fun y:aB=>(Lit.int .i64 y.id).wf=true) Tryz.underlying63 (by kernel_rfl) (fun _ _ _ h=>TM h) h4;obtain ⟨y5,h5⟩:=hf 5 _ v5 rfl rfl;obtain ⟨b5,l5,c5,e5,z5,r5,g5⟩:=gk bG (fun y:az=>(Lit.int .i64 y.id).wf=true∧y.text.size≤maxLen) Tryz.underlying64 (by kernel_rfl) (fun _ _ _ h=>TL h) h5;obtain ⟨y6,h6⟩:=hf 6 _ v6 rfl rfl;obtain ⟨b6,l6,c6,e6,z6,r6,g6⟩:=gk bm (fun y:au=>(Lit.int .i64 y.id).wf=true∧(y.Ma.length≤maxLen∧ ∀ s∈y.Ma,s.size≤maxLen)∧Src W y.ak (bT.flat y.Ma)) Tryz.underlying65 (by kernel_rfl) (fun _ _ _ h=>Tt h) h6;obtain ⟨y7,h7⟩:=hf 7 _ v7 rfl rfl;obtain ⟨b7,dw,c7,e7,z7,r7,g7⟩:=gk bX (fun y:aM=>(Lit.int .i64 y.id).wf=true∧(y.Ma.length≤maxLen∧ ∀ s∈y.Ma,s.size≤maxLen)∧Src W y.ak (bT.flat y.Ma)) Tryz.underlying66 (by kernel_rfl) (fun _ _ _ h=>TT h) h7;simp only [adK,and_true] at e0 e1;subst e0 e1 e2 e3 e4 e5 e6 e7;refine ⟨⟨a0,a1,l2,b2,c2,l3,b3,c3,l4,b4,c4,l5,b5,c5,l6,b6,c6,dw,b7,c7⟩,rfl,⟨z2,z3,z4,z5,z6,z7,fun x hx=>(g2 x hx).2.1,fun x hx=>(g5 x hx).2,fun x hx=>(g6 x hx).2.1,fun x hx=>(g7 x hx).2.1⟩,⟨⟨r2,fun x hx r hr=> ?_⟩,⟨r3,fun x hx r hr=> ?_⟩,⟨r4,fun x hx r hr=> ?_⟩,⟨r5,fun x hx r hr=> ?_⟩,⟨r6,fun x hx r hr=> ?_⟩,⟨r7,fun x hx r hr=> ?_⟩⟩,⟨fun x hx=>(g2 x hx).1,g3,g4,fun x hx=>(g5 x hx).1,fun x hx=>(g6 x hx).1,fun x hx=>(g7 x hx).1⟩⟩
  ·simp only [bg,Kt,Ku,or_false] at hr
   subst hr;exact (g2 x hx).2.2
  ·simp [dm] at hr
  ·simp [bJ] at hr
  ·simp [bG] at hr
  ·simp only [bm,Kt,Ku,or_false] at hr
   subst hr;exact (g6 x hx).2.2
  ·simp only [bX,Kt,Ku,or_false] at hr
   subst hr;exact (g7 x hx).2.2
end
end
section
open Go.RowKit Go.Maps
attribute [local go_sem ↓] Kc Kd
def ko (ps:List aE) (ls:List gi) (c:eQ):Bool:=pa ps c && !(ls.map (·.c)).any (hR ps c)
def Vv (w:World) (K b:Nat) (now:Int) (tab:Array Value) (l:List (aZ × Nat)) (ps:List aE) (ls:List gi) (c:eQ) (e:Ending) (W:World):Prop:=
 (ko ps ls c=false∧e= .returned (.bool false)∧aI w W [K])∨(ko ps ls c=true∧e= .returned (.bool true)∧ ∃ s t a cap,Joins l ⟨c,s,t⟩∧T1 w K b now tab a cap (ls ++ [⟨c,s,t⟩]) W)
def P1 (W:World) (X:Nat) (c:eQ):Prop:=W.heap[X]? =some (.cells (nx c) 80 (0,0))
theorem P1.cells {W:World} {X:Nat} {c:eQ} (h:P1 W X c):W.cell? ⟨X,0,none⟩=some (.int .i64 c.src)∧W.cell? ⟨X,1,none⟩=some (.int .i64 c.ga)∧W.cell? ⟨X,2,none⟩=some (.int .i64 c.dst)∧W.cell? ⟨X,3,none⟩=some (.int .i64 c.hI):=by
 unfold P1 at h;simp [World.cell?,h]
theorem P1.below {W W2:World} {X:Nat} {c:eQ} (h:P1 W X c) (hb:Below W.heap.size W W2):P1 W2 X c:=(hb.block _ (J2.1 h).1).trans h
structure LkS (w:World) (K b:Nat) (now:Int) (tab:Array Value) (a:Option Addr) (cap:Nat) (ls:List gi) (X:Nat) (c:eQ) (W:World):Prop where
 US:T1 w K b now tab a cap ls W
 box:P1 W X c
theorem LkS.below {w W W2:World} {K b:Nat} {now:Int} {tab:Array Value} {a:Option Addr} {cap:Nat} {ls:List gi} {X:Nat} {c:eQ} (h:LkS w K b now tab a cap ls X c W) (hb:Below W.heap.size W W2):LkS w K b now tab a cap ls X c W2:=⟨h.US.below hb,h.box.below hb⟩
theorem Tj {W:World} {X s t:Nat} {c:eQ} (h:W.heap[X]? =some (.cells (fz ⟨c,s,t⟩) 205 (0,0))):W.cell? ⟨X,0,none⟩=some (.int .i64 c.src)∧W.cell? ⟨X,1,none⟩=some (.int .i64 c.ga)∧W.cell? ⟨X,2,none⟩=some (.int .i64 c.dst)∧W.cell? ⟨X,3,none⟩=some (.int .i64 c.hI)∧W.cell? ⟨X,4,none⟩=some (.pointer (some ⟨s,0,none⟩))∧W.cell? ⟨X,5,none⟩=some (.pointer (some ⟨t,0,none⟩)):=by
 simp [World.cell?,h]
theorem Vm (w:World) (K b:Nat) (now:Int) (tab:Array Value) (a:Option Addr) (cap:Nat) (ls:List gi) (l:List (aZ × Nat)) (ps:List aE) (c:eQ) (W:World) (hp:VK w K b l) (hl:l.map (·.1.pure)=ps) (hL: ∀ o∈ls,Joins l o) (hn:ls.length≤10) (hc:c.Wf) (hS:T1 w K b now tab a cap ls W):
  Calls J3 147 #[.pointer (some ⟨K,0,none⟩),.agg (nx c)] W fun e W'=>Vv w K b now tab l ps ls c e W':=by
 have hz:Below W.heap.size W (W.alloc (.cells (nx c) 80)):=(Kp _ _).alloc (Ki _) _;have S:Hid (LkS w K b now tab a cap ls W.heap.size c (W.alloc (.cells (nx c) 80))):=⟨hS.below hz,Kj _ _⟩
 have HP:=aA hp;have HL:=aA (And.intro hl (And.intro hL hn));have HC:=aA hc;clear hz hS hp hl hL hn hc
 go_enter Tryz.func147,Tryz.ntmps147
 go_upto_region 1 with fail;generalize W.alloc (.cells (nx c) 80)=W1 at *;generalize W.heap.size=X at *;have hc1:=TP K b l c.src c.ga W1 (S.I.US.kmap HP.I) HC.I.1 HC.I.2.1;obtain ⟨m0,m1,m2,m3⟩:=S.I.box.cells;go_wp2_with fail;clear m0 m1 m2 m3;refine hc1.mono ?_;clear hc1;rintro e W2 ⟨rfl,hb2⟩;replace S:=aA (S.I.below hb2);clear hb2;have hc1:=TP K b l c.dst c.hI W2 (S.I.US.kmap HP.I) HC.I.2.2.1 HC.I.2.2.2;obtain ⟨m0,m1,m2,m3⟩:=S.I.box.cells;go_wp2_with fail;clear m0 m1 m2 m3;refine hc1.mono ?_;clear hc1;rintro e W3 ⟨rfl,hb2⟩;replace S:=aA (S.I.below hb2);clear hb2;have h1:=D3 (fun p hm=>((HP.I.kept S.I.US.kept).part p hm).imp fun _ h=>h.2) HL.I.1 c.src c.ga;have h2:=D3 (fun p hm=>((HP.I.kept S.I.US.kept).part p hm).imp fun _ h=>h.2) HL.I.1 c.dst c.hI;rcases h1 with ⟨h1,VF⟩ | ⟨s,x,h1,VF,hx⟩
 ·have HN:Hid (ko ps ls c=false):=by show _=_; simp [ko,pa,VF]
  rw [h1];clear h1 h2 VF;generalize qz (kt l c.dst c.hI)=pv;generalize (kt l c.dst c.hI).isSome=pb;simp only [qz,aeH];obtain ⟨m0,m1,m2,m3⟩:=S.I.box.cells;go_wp2;go_ret;exact .inl ⟨HN.I,rfl,S.I.US.kept⟩
 have bC:=aA h1;rw [h1];rcases h2 with ⟨h2,h2e⟩ | ⟨t,y,h2,h2e,hy⟩
 ·have HN:Hid (ko ps ls c=false):=by show _=_; simp [ko,pa,VF,h2e]
  rw [h2];clear h1 h2 VF h2e hx bC;simp only [qz,dt,aeH,Qk];obtain ⟨m0,m1,m2,m3⟩:=S.I.box.cells;go_wp2;go_ret;exact .inl ⟨HN.I,rfl,S.I.US.kept⟩
 have eb:=aA h2;rw [h2];have HB:Hid (pa ps c=(!decide (c.src=c.dst) && x.I && !y.I && (x.Mf == y.Mf))):=by show _=_; simp only [pa,VF,h2e]
 have HQ:Hid (zo ps c=x.Mf):=by show _=_; simp only [zo,VF]
 have Mb:=TY s t x y W3 hx hy;have UR:=aA (And.intro hx hy);clear h1 h2 VF h2e hx hy;simp only [qz,dt,Qk];obtain ⟨m0,m1,m2,m3⟩:=S.I.box.cells;by_cases hsd:c.src=c.dst
 ·have HN:Hid (ko ps ls c=false):=by show _=_; simp [ko,HB.I,hsd]
  have e1:(c.src == c.dst)=true:=by simp [hsd]
  clear hsd Mb;go_wp2;go_ret;exact .inl ⟨HN.I,rfl,S.I.US.kept⟩
 have e1:(c.src == c.dst)=false:=by simp [hsd]
 have HSD:Hid (decide (c.src=c.dst)=false):=decide_eq_false hsd;clear hsd;go_wp2_with fail;clear m0 m1 m2 m3 e1;refine Mb.mono ?_;clear Mb;rintro e W4 ⟨rfl,hb4⟩;replace S:=aA (S.I.below hb4);replace UR:Hid (W4.heap[s]? =some (.cells (cW x) 85 (0,0))∧W4.heap[t]? =some (.cells (cW y) 85 (0,0))):=⟨(hb4.block _ (J2.1 UR.I.1).1).trans UR.I.1,(hb4.block _ (J2.1 UR.I.2).1).trans UR.I.2⟩
 clear hb4;cases hlead:(x.I && !y.I && (x.Mf == y.Mf))
 ·have HN:Hid (ko ps ls c=false):=by show _=_; rw [ko,HB.I,HSD.I]; simp only [Bool.not_false,aeN,hlead,Bool.false_and]
  clear hlead;obtain ⟨m0,m1,m2,m3⟩:=S.I.box.cells;go_wp2;go_ret;exact .inl ⟨HN.I,rfl,S.I.US.kept⟩
 have HCB:Hid (pa ps c=true):=by show _=_; rw [HB.I,HSD.I]; simp only [Bool.not_false,aeN,hlead]
 clear hlead HB HSD;obtain ⟨m0,m1,m2,m3⟩:=S.I.box.cells;go_upto_region 6 with fail;clear m0 m1 m2 m3;have hz:Below W4.heap.size W4 (W4.alloc (.cells (fz ⟨c,s,t⟩) 205)):=(Kp _ _).alloc (Ki _) _;have HY:Hid ((∀ g∈blk a,g < W4.heap.size)∧(W4.alloc (.cells (fz ⟨c,s,t⟩) 205)).heap[W4.heap.size]? =some (.cells (fz ⟨c,s,t⟩) 205 (0,0))):=⟨fun g hg=>(cf S.I.US.own hg).2,Kj _ _⟩
 replace UR:Hid ((W4.alloc (.cells (fz ⟨c,s,t⟩) 205)).heap[s]? =some (.cells (cW x) 85 (0,0))):=(hz.block _ (J2.1 UR.I.1).1).trans UR.I.1;have HW4:=aA S.I.US.kept.size;replace S:=aA (S.I.US.below hz);have HYK:Hid (K < W4.heap.size):=by show K < _; have h1:=(HP.I.k); have h2:=HW4.I; omega
 clear hz HW4;generalize W4.alloc (.cells (fz ⟨c,s,t⟩) 205)=W5 at *;generalize W4.heap.size=Y at *;refine Kr (S:=fun W=>W.cell? ⟨K,64,none⟩=some (.slice a ls.length cap)∧W.heap[Y]? =some (.cells (fz ⟨c,s,t⟩) 205 (0,0))) (by kernel_rfl) ⟨S.I.TN.cell (i:=64) (by omega),HY.I.2⟩ (fun _=> ?_);replace S:=aA (S.I.below (Kp _ _).drew);replace UR:Hid (W5.drew.heap[s]? =some (.cells (cW x) 85 (0,0))):=UR.I;replace HY:Hid ((∀ g∈blk a,g < Y)∧W5.drew.heap[Y]? =some (.cells (fz ⟨c,s,t⟩) 205 (0,0))):=HY.I;generalize World.drew _=V at *;have HS:Hid (V.cell? ⟨K,64,none⟩=some (.slice a ls.length cap)∧V.heap[Y]? =some (.cells (fz ⟨c,s,t⟩) 205 (0,0))):=⟨S.I.TN.cell (i:=64) (by omega),HY.I.2⟩
 refine tt 0 HS.I ?_;refine tt 1 HS.I ?_;refine tt 2 HS.I ?_;refine tt 3 HS.I ?_;refine tt 4 HS.I ?_ (hy:=fun w0 hS0=>by obtain ⟨q0,q1,q2,q3,q4,q5⟩:=Tj hS0.2; go_simp; try with_reducible rfl);refine tt 5 HS.I ?_;refine L7 6 (fun Q hQ=> ?_);go_wp2_with fail;have hAt:=fun p hm=>((HP.I.kept S.I.kept).part p hm).imp fun _ h=>h.2
 refine (UQ a ls cap ⟨c,s,t⟩ x V (by have:=HL.I.2.2; omega) (nP S.I.own) UR.I (Joins.at hAt HL.I.1 ⟨bC.I,eb.I⟩) (fun o ho=>Joins.at hAt HL.I.1 (HL.I.2.1 o ho))).mono ?_;clear hAt HS UR;rintro e W6 ⟨rfl,jQ⟩;replace S:=aA (S.I.below jQ);replace HY:Hid ((∀ g∈blk a,g < Y)∧W6.heap[Y]? =some (.cells (fz ⟨c,s,t⟩) 205 (0,0))):=⟨HY.I.1,(jQ.block _ (J2.1 HY.I.2).1).trans HY.I.2⟩
 clear jQ;refine hQ.out _ _ ⟨S.I.TN.cell (i:=64) (by omega),HY.I.2⟩ (fun _=> ?_);clear hQ Q;refine K3 (by kernel_rfl) ?_ _;have HM:Hid (ls.any (ts ⟨c,s,t⟩ x.Mf)=(ls.map (·.c)).any (hR ps c)):=by have h:=Ub (ps:=ps) HP.I.nodup (m:=⟨c,s,t⟩) ⟨bC.I,eb.I⟩ HL.I.2.1; rw [HQ.I] at h; exact h
 generalize ls.any (ts ⟨c,s,t⟩ x.Mf)=r at *;cases r
 case true=>
  have HN:Hid (ko ps ls c=false):=by show _=_; rw [ko,HCB.I,← HM.I]; rfl
  go_wp2;go_ret;exact .inl ⟨HN.I,rfl,S.I.kept⟩
 have HT:Hid (ko ps ls c=true):=by show _=_; rw [ko,HCB.I,← HM.I]; rfl
 clear HM HCB HQ;go_upto_region 8 with fail;refine Kr (S:=fun W=>W.heap[Y]? =some (.cells (fz ⟨c,s,t⟩) 205 (0,0))) (by kernel_rfl) HY.I.2 (fun _=> ?_);replace S:=aA (S.I.below (Kp _ _).drew);replace HY:Hid ((∀ g∈blk a,g < Y)∧W6.drew.heap[Y]? =some (.cells (fz ⟨c,s,t⟩) 205 (0,0))):=HY.I;generalize World.drew _=V2 at *;refine tt 0 HY.I.2 ?_;refine tt 1 HY.I.2 ?_;refine tt 2 HY.I.2 ?_;refine tt 3 HY.I.2 ?_;refine tt 5 HY.I.2 ?_ (hy:=fun w0 hS0=>by obtain ⟨q0,q1,q2,q3,q4,q5⟩:=Tj hS0; go_simp; try with_reducible rfl);obtain ⟨a2,Ta,W7,hap,mP,hk7⟩:=Vc ⟨c,s,t⟩ S.I.own HL.I.2.2 S.I.kept.size;have HA:=aA (And.intro mP hk7);clear mP hk7;have c64:V2.cell? ⟨K,64,none⟩=some (.slice a ls.length cap):=S.I.TN.cell (i:=64) (by omega);have d64:(V2.alloc (.cells (fz ⟨c,s,t⟩) 205)).cell? ⟨K,64,none⟩=some (.slice a ls.length cap):=(S.I.TN.alloc _).cell (i:=64) (by omega);have hY1:(V2.alloc (.cells (fz ⟨c,s,t⟩) 205)).heap[Y]? =some (.cells (fz ⟨c,s,t⟩) 205 (0,0)):=(PU (J2.1 HY.I.2).1).trans HY.I.2;have Ul:Hid (K∉blk a∧Y∉blk a∧Y≠K):=⟨fun hm=>by have h1:=(cf S.I.own hm).1; have h2:=HP.I.k; omega,fun hm=>by have h1:=HY.I.1 Y hm; omega,by have:=HYK.I; omega⟩
 have HR7:Hid (W7.rowIs K 107 65 (B3 now tab b a ls.length cap)∧W7.heap[Y]? =some (.cells (fz ⟨c,s,t⟩) 205 (0,0))):=⟨S.I.TN.of_block (HA.I.2.same K S.I.TN.lt Ul.I.1),(HA.I.2.same Y (J2.1 HY.I.2).1 Ul.I.2.1).trans HY.I.2⟩
 have HE:Hid (∀ W,W=W7.setCell ⟨K,64,none⟩ (.slice a2 (ls.length+1) Ta)→T1 w K b now tab a2 Ta (ls ++ [⟨c,s,t⟩]) W):=fun W hW=>by rw [hW]; exact S.I.more HP.I.k HA.I.1 HA.I.2
 refine wpAnyH_ready (rs:= [4,6]) (by kernel_rfl) (by simp) ?_;refine KX rfl (fun Q hQ=> ?_) (KX rfl (fun Q hQ=> ?_) KY)
 focus
  simp only [KZ,K0,K1];rw [if_pos (by rfl)];go_wp2_with fail;refine hQ.out _ _ HY.I.2 (fun _=> ?_);clear hQ Q
  try simp only [pt,sb,s0,s1]
  refine L7 6 (fun Q hQ=> ?_);go_wp2_with fail;refine hQ.out _ _ hY1 (fun _=> ?_);clear hQ Q
  try simp only [pt,sb,s0,s1]
 rotate_left
 focus
  simp only [KZ,K0,K1];rw [if_pos (by rfl)];go_wp2_with fail;refine hQ.out _ _ hY1 (fun _=> ?_);clear hQ Q
  try simp only [pt,sb,s0,s1]
  refine L7 4 (fun Q hQ=> ?_);go_wp2_with fail;refine hQ.out _ _ hY1 (fun _=> ?_);clear hQ Q
  try simp only [pt,sb,s0,s1]
 all_goals
  refine L7 7 (fun Q hQ=> ?_);refine cM _ _ _ rfl _ _ _ W7 rfl rfl hap ?_;refine hQ.out _ _ HR7.I.2 (fun _=> ?_);clear hQ Q
  try simp only [pt,sb,s0,s1]
  refine tt 8 HR7.I.2 ?_;refine tt 9 HR7.I.2 ?_;refine L7 10 (fun Q hQ=> ?_);have k64:=HR7.I.1.cell (i:=64) (by omega);have f64:=HR7.I.1.frozen 64;go_wp2_with fail;refine hQ.out _ _ ((ac5 _ _ _ _ Ul.I.2.2).trans HR7.I.2) (fun _=> ?_);clear hQ Q k64 f64;refine K3 (by kernel_rfl) ?_ _;go_wp2;go_ret;exact .inr ⟨HT.I,rfl,s,t,a2,Ta,⟨bC.I,eb.I⟩,HE.I _ rfl⟩
end
section
open Go.RowKit
attribute [local go_sem ↓] Kc Kd
def eo (x:aM):Nat:=4+aF (fun _:ByteArray=>1) x.Ma
def fU (k:Int) (x:aM):aM:= { x with id:=k,I:=(k+1) % 3 == 0,Mf:=(k+1+1) % 3 == 0,max:=k+1+1+1,Ma:=aJ mkStr (fun _=>1) (k+1+1+1+1) x.Ma }
abbrev adC (x:aM) (m:Int):aM:= { x with id:=m,I:=(m+1) % 3 == 0,Mf:=(m+1+1) % 3 == 0,max:=m+1+1+1 }
theorem AU (a:Option Addr) (l:List aM) (cap:Nat) (k:Int) (w:World) (base:Nat) (hl:l.length≤1048576) (hk: ∀ x∈l,x.Ma.length≤1048576) (h0:1≤k) (h1:k+(aF eo l:Nat)≤90000000) (ho:w.ownsRow base 85 5 (.slice a l.length cap) l.length (bX.flat l)) (hm: ∀ x∈l,aU.cO w base x) (hn:(blk a ++ l.filterMap aU.bt).Nodup):
  Calls J3 62 #[.slice a l.length cap,.int .i64 k] w fun e w'=>e= .returned (.int .i64 (k+(aF eo l:Nat)))∧w'.ownsRow base 85 5 (.slice a l.length cap) l.length (bX.flat (aJ fU eo k l))∧(∀ y∈aJ fU eo k l,aU.cO w' base y)∧aI w w' (blk a ++ l.filterMap aU.bt):=by
 by_cases hz:l.length=0
 ·have hl0:l= [] :=adU hz
  subst hl0;have HO:Hid (w.ownsRow base 85 5 (.slice a 0 cap) 0 (bX.flat [])):=ho;clear ho
  go_enter Tryz.func62,Tryz.ntmps62
  go_wp2_with fail
  go_loopw [1,5] (fun q i wr=>q= .int .i64 k∧i= .int .i64 0∧wr=w) (fun _ _ _=>0)
  case atStart=>exact ⟨rfl,rfl,rfl⟩
  case round=>
   obtain ⟨rfl,rfl,rfl⟩:=hrel;go_wp2;go_ret;exact ⟨ck (by simp [aF]),HO.I,(fun y hy=>by cases hy),aI.refl _ _⟩
 obtain ⟨g,rfl,hrow⟩:=bl.fX (K:=bX) ho hz;have HR:Hid (bl bX 85 w base g cap l∧fp aU w base g l):=⟨hrow,hm,hn⟩
 have HB:Hid (k+(aF eo l:Nat)≤90000000∧ ∀ x∈l,x.Ma.length≤1048576):=⟨h1,hk⟩
 clear ho hrow h1 hz hm hn hk
 go_enter Tryz.func62,Tryz.ntmps62
 go_wp2_with fail
 go_loopw [1,5] (fun q i wr=> ∃ (j:Nat) (m:Int),j≤l.length∧i= .int .i64 j∧q= .int .i64 m∧1≤m∧m≤90000000∧Hid (m=k+(aF eo (l.take j):Nat)∧bl bX 85 wr base g cap (aJ fU eo k (l.take j) ++ l.drop j)∧fp aU wr base g (aJ fU eo k (l.take j) ++ l.drop j)∧aI w wr (g :: l.filterMap aU.bt))) (fun _ i _=>l.length - (intOf i).toNat)
 case atStart=>exact ⟨0,k,Ky _,rfl,rfl,h0,by have:=HB.I.1; omega,⟨by simp [aF],HR.I.1,HR.I.2,aI.refl _ _⟩⟩
 case round=>
  clear HR;obtain ⟨j,m,hj,rfl,rfl,m0,m1,HA⟩:=hrel;by_cases hlt:j < l.length
  ·have i0:(0:Int)≤(j:Int):=by omega
   have i1:(j:Int) < (l.length:Int):=by omega
   obtain ⟨x,hx⟩: ∃ x,l[j]? =some x:=⟨_,Kz hlt⟩
   have pI:l.drop j=x :: l.drop (j+1):=mz hx;have qw:=du (c:=eo) hx;have hup:=gK (c:=eo) hx;have hcx:eo x=4+aF (fun _:ByteArray=>1) x.Ma:=rfl;have HX:Hid (l[j]? =some x∧x.Ma.length≤1048576∧m+1+1+1+1+(aF (fun _:ByteArray=>1) x.Ma:Nat)≤90000000∧m+1+1+1+1+(aF (fun _:ByteArray=>1) x.Ma:Nat)=k+(aF eo (l.take (j+1)):Nat)):=⟨hx,HB.I.2 x (KA hx),by have:=HB.I.1; have:=HA.I.1; omega,by have:=HA.I.1; omega⟩
   have HW:Hid (bl bX 85 wr base g cap (aJ fU eo k (l.take j) ++ x :: l.drop (j+1))∧(aJ fU eo k (l.take j)).length=j):=⟨by have:=HA.I.2.1; rwa [pI] at this,by rw [bE,Lk]; omega⟩
   have HM:Hid (fp aU wr base g (aJ fU eo k (l.take j) ++ x :: l.drop (j+1))):=by have:=HA.I.2.2.1; rwa [pI] at this
   have m2:m+1+1+1+1≤90000000:=by have:=HX.I.2.2.1; omega
   have hgl:g < wr.heap.size:=HW.I.1.lt;clear hx pI qw hup hcx;have q0:=bl.eO HW.I.1 HW.I.2 (r:=0) (by decide:0 < bX.n);obtain ⟨⟨u0,c0⟩,f0⟩:(∃ u,wr.cell? ⟨g,j * 5,none⟩=some u)∧wr.frozen? ⟨g,j * 5,none⟩=false:=q0;have q1:=bl.eO HW.I.1 HW.I.2 (r:=1) (by decide:1 < bX.n);obtain ⟨⟨u1,c1⟩,f1⟩:(∃ u,wr.cell? ⟨g,j * 5+1,none⟩=some u)∧wr.frozen? ⟨g,j * 5+1,none⟩=false:=q1;have q2:=bl.eO HW.I.1 HW.I.2 (r:=2) (by decide:2 < bX.n);obtain ⟨⟨u2,c2⟩,f2⟩:(∃ u,wr.cell? ⟨g,j * 5+2,none⟩=some u)∧wr.frozen? ⟨g,j * 5+2,none⟩=false:=q2;have q3:=bl.eO HW.I.1 HW.I.2 (r:=3) (by decide:3 < bX.n);obtain ⟨⟨u3,c3⟩,f3⟩:(∃ u,wr.cell? ⟨g,j * 5+3,none⟩=some u)∧wr.frozen? ⟨g,j * 5+3,none⟩=false:=q3;have c2:wr.cell? ⟨g,j * 5+4,none⟩=some (.slice x.ak x.Ma.length x.aq):=(bl.uD HW.I.1 HW.I.2 (r:=4) (by decide:4 < bX.n))
   have h5:=bl.part (K:=bX) (x:=x) (y:=(adC x m)) (j:=0) (vs:= [.int .i64 (m),.bool ((m+1) % 3 == 0),.bool ((m+1+1) % 3 == 0),.int .i64 (m+1+1+1)]) HW.I.1 (by show 0+4≤5; omega) (fun r hr=>by match r,hr with | 0,_=>rfl | 1,_=>rfl | 2,_=>rfl | 3,_=>rfl) (fun r hr hn=>by match r,hr,hn with | 0,_,hn=>exact absurd ⟨by omega,by show 0 < 0+4; omega⟩ hn | 1,_,hn=>exact absurd ⟨by omega,by show 1 < 0+4; omega⟩ hn | 2,_,hn=>exact absurd ⟨by omega,by show 2 < 0+4; omega⟩ hn | 3,_,hn=>exact absurd ⟨by omega,by show 3 < 0+4; omega⟩ hn | 4,_,_=>rfl);rw [HW.I.2,show bX.n=5 from rfl] at h5;have h6:aI wr (bn wr g (j * 5) [.int .i64 (m),.bool ((m+1) % 3 == 0),.bool ((m+1+1) % 3 == 0),.int .i64 (m+1+1+1)]) [g] :=aI.set _ (by simp);simp only [bn,PT,adV,Nat.reduceAdd] at h5 h6;have HS:Hid (bl bX 85 ((((wr.setCell ⟨g,j * 5,none⟩ (.int .i64 (m))).setCell ⟨g,j * 5+1,none⟩ (.bool ((m+1) % 3 == 0))).setCell ⟨g,j * 5+2,none⟩ (.bool ((m+1+1) % 3 == 0))).setCell ⟨g,j * 5+3,none⟩ (.int .i64 (m+1+1+1))) base g cap (aJ fU eo k (l.take j) ++ (adC x m) :: l.drop (j+1))∧fp aU ((((wr.setCell ⟨g,j * 5,none⟩ (.int .i64 (m))).setCell ⟨g,j * 5+1,none⟩ (.bool ((m+1) % 3 == 0))).setCell ⟨g,j * 5+2,none⟩ (.bool ((m+1+1) % 3 == 0))).setCell ⟨g,j * 5+3,none⟩ (.int .i64 (m+1+1+1))) base g (aJ fU eo k (l.take j) ++ (adC x m) :: l.drop (j+1))∧aI w ((((wr.setCell ⟨g,j * 5,none⟩ (.int .i64 (m))).setCell ⟨g,j * 5+1,none⟩ (.bool ((m+1) % 3 == 0))).setCell ⟨g,j * 5+2,none⟩ (.bool ((m+1+1) % 3 == 0))).setCell ⟨g,j * 5+3,none⟩ (.int .i64 (m+1+1+1))) (g :: l.filterMap aU.bt)):=⟨h5,(HM.I.keep h6).ju rfl ((HM.I.keep h6).mine x (by simp)),HA.I.2.2.2.trans (h6.mono (by simp))⟩
   clear h5 h6;go_wp2_with fail;generalize (((wr.setCell ⟨g,j * 5,none⟩ (.int .i64 (m))).setCell ⟨g,j * 5+1,none⟩ (.bool ((m+1) % 3 == 0))).setCell ⟨g,j * 5+2,none⟩ (.bool ((m+1+1) % 3 == 0))).setCell ⟨g,j * 5+3,none⟩ (.int .i64 (m+1+1+1))=W1 at *;refine (uu x.ak x.Ma x.aq (m+1+1+1+1) W1 base HX.I.2.1 (by omega) HX.I.2.2.1 (HS.I.2.1.mine (adC x m) (by simp))).mono ?_;rintro e v ⟨rfl,hown,hkb⟩;have HV:Hid (bl bX 85 v base g cap (aJ fU eo k (l.take (j+1)) ++ l.drop (j+1))∧fp aU v base g (aJ fU eo k (l.take (j+1)) ++ l.drop (j+1))∧aI w v (g :: l.filterMap aU.bt)):=by
    have hap:=HS.I.2.1.apart (z:=(adC x m)) (by simp);rw [kE HX.I.1,Lm,← HA.I.1];have h7:=HS.I.1.same (hkb.same g HS.I.1.lt hap);have hm7:aU.cO v base (fU m x):=by
     show v.ownsRow base _ 1 (.slice x.ak (aJ mkStr (fun _=>1) (m+1+1+1+1) x.Ma).length x.aq) (aJ mkStr (fun _=>1) (m+1+1+1+1) x.Ma).length (bT.flat (aJ mkStr (fun _=>1) (m+1+1+1+1) x.Ma))
     rw [bE];exact hown
    refine ⟨?_,HS.I.2.1.inner hkb rfl hm7,HS.I.2.2.trans (hkb.mono fun b hb=> ?_)⟩
    ·exact bl.part (K:=bX) (x:=(adC x m)) (y:=fU m x) (j:=0) (vs:= []) h7 (by show 0+0≤5; omega) (fun r hr=>absurd hr (by simp)) (fun r hr _=>by match r,hr with | 0,_=>rfl | 1,_=>rfl | 2,_=>rfl | 3,_=>rfl | 4,_=>(show some (Value.slice x.ak (aJ mkStr (fun _=>1) (m+1+1+1+1) x.Ma).length x.aq)=some (.slice x.ak x.Ma.length x.aq); rw [bE]))
    ·exact LB _ (Lq.2 ⟨x,KA HX.I.1,fZ.1 hb⟩)
   clear hown hkb HS;have m3:m+1+1+1+1+(aF (fun _:ByteArray=>1) x.Ma:Nat)≤90000000:=HX.I.2.2.1;go_wp2;go_roundw
   case rel=>exact ⟨j+1,m+1+1+1+1+(aF (fun _:ByteArray=>1) x.Ma:Nat),by omega,by go_num,rfl,by omega,by omega,⟨HX.I.2.2.2,HV.I.1,HV.I.2.1,HV.I.2.2⟩⟩
   case measure=>simp [intOf]; omega
  ·have i1: ¬ (j:Int) < (l.length:Int):=by omega
   have ej:j=l.length:=by omega
   subst ej;have HE:Hid (bl bX 85 wr base g cap (aJ fU eo k l)∧fp aU wr base g (aJ fU eo k l)∧m=k+(aF eo l:Nat)):=by have h5:=HA.I.2.1; have h6:=HA.I.1; have h7:=HA.I.2.2.1; rw [LQ,adW,QO] at h5 h7; rw [LQ] at h6; exact ⟨h5,h7,h6⟩
   go_wp2;go_ret;refine ⟨ck HE.I.2.2,?_,HE.I.2.1.mine,HA.I.2.2.2⟩;have h7:=HE.I.1.owns;rw [bE] at h7;exact h7
theorem Ah (a:Option Addr) (l:List aM) (cap:Nat) (k:Int) (w:World) (hl:l.length≤1048576) (hk: ∀ x∈l,x.Ma.length≤1048576) (h0:1≤k) (h1:k+(aF eo l:Nat)≤90000000) (hr:bX.bU w a (aJ fU eo k l)):
  Calls J3 68 #[.slice a l.length cap,.int .i64 k] w fun e w'=>e= .returned (.int .i64 (k+(aF eo l:Nat)))∧Below w.heap.size w w':=by
 have HR:Hid (bX.bU w a (aJ fU eo k l)∧k+(aF eo l:Nat)≤90000000∧ ∀ x∈l,x.Ma.length≤1048576):=⟨hr,h1,hk⟩
 clear hr h1 hk
 go_enter Tryz.func68,Tryz.ntmps68
 go_wp2_with fail
 go_loopw [1,5] (fun q i wr=> ∃ (j:Nat) (m:Int),j≤l.length∧i= .int .i64 j∧q= .int .i64 m∧1≤m∧m≤90000000∧Hid (m=k+(aF eo (l.take j):Nat)∧Below w.heap.size w wr)) (fun _ i _=>l.length - (intOf i).toNat)
 case atStart=>exact ⟨0,k,Ky _,rfl,rfl,h0,by have:=HR.I.2.1; omega,⟨by simp [aF],Kp _ _⟩⟩
 case round=>
  obtain ⟨j,m,hj,rfl,rfl,m0,m1,HA⟩:=hrel;by_cases hlt:j < l.length
  ·have i0:(0:Int)≤(j:Int):=by omega
   have i1:(j:Int) < (l.length:Int):=by omega
   obtain ⟨x,hx⟩: ∃ x,l[j]? =some x:=⟨_,Kz hlt⟩
   have qw:=du (c:=eo) hx;have hup:=gK (c:=eo) hx;have hcx:eo x=4+aF (fun _:ByteArray=>1) x.Ma:=rfl;have hg:=jK (f:=fU) (c:=eo) (k:=k) hx;rw [← HA.I.1] at hg;have hls:bX.bU wr a (aJ fU eo k l):=HR.I.1.below HA.I.2;obtain ⟨g,ha,hat⟩:=hls.at hg;have c0:wr.cell? ⟨g,j * 5,none⟩=some (.int .i64 (m)):=hat 0 _ rfl;have c1:wr.cell? ⟨g,j * 5+1,none⟩=some (.bool ((m+1) % 3 == 0)):=hat 1 _ rfl;have c2:wr.cell? ⟨g,j * 5+2,none⟩=some (.bool ((m+1+1) % 3 == 0)):=hat 2 _ rfl;have c3:wr.cell? ⟨g,j * 5+3,none⟩=some (.int .i64 (m+1+1+1)):=hat 3 _ rfl;have cp:wr.cell? ⟨g,j * 5+4,none⟩=some (.slice x.ak x.Ma.length x.aq):=(hat 4 _ rfl).trans (show some (Value.slice x.ak (aJ mkStr (fun _=>1) (m+1+1+1+1) x.Ma).length x.aq)=_ by rw [bE]);have HX:Hid (x.Ma.length≤1048576∧m+1+1+1+1+(aF (fun _:ByteArray=>1) x.Ma:Nat)≤90000000∧m+1+1+1+1+(aF (fun _:ByteArray=>1) x.Ma:Nat)=k+(aF eo (l.take (j+1)):Nat)∧bT.bU wr x.ak (aJ mkStr (fun _=>1) (m+1+1+1+1) x.Ma)):=⟨HR.I.2.2 x (KA hx),by have:=HR.I.2.1; have:=HA.I.1; omega,by have:=HA.I.1; omega,hls.2 _ (KA hg) (x.ak,bT.flat (aJ mkStr (fun _=>1) (m+1+1+1+1) x.Ma)) (KB.2 rfl),fun _ _ r hr=>by cases hr⟩
   have m2:m+1+1+1+1+(aF (fun _:ByteArray=>1) x.Ma:Nat)≤90000000:=HX.I.2.1;subst ha;clear hx qw hup hcx hg hat hls;go_wp2_with fail;refine (uo x.ak x.Ma x.aq (m+1+1+1+1) wr HX.I.1 (by omega) HX.I.2.1 HX.I.2.2.2).mono ?_;rintro e v ⟨rfl,hb⟩;have HV:Hid (Below w.heap.size w v):=HA.I.2.trans (hb.mono HA.I.2.size);clear hb;go_wp2;go_roundw
   case rel=>exact ⟨j+1,m+1+1+1+1+(aF (fun _:ByteArray=>1) x.Ma:Nat),by omega,by go_num,rfl,by omega,by omega,⟨HX.I.2.2.1,HV.I⟩⟩
   case measure=>simp [intOf]; omega
  ·have i1: ¬ (j:Int) < (l.length:Int):=by omega
   have HE:Hid (m=k+(aF eo l:Nat)):=by have h6:=HA.I.1; rw [KF (by omega)] at h6; exact h6
   go_wp2;go_ret;exact ⟨ck HE.I,HA.I.2⟩
def bN (x:au):Nat:=2+aF (fun _:ByteArray=>1) x.Ma
def dy (k:Int) (x:au):au:= { x with id:=k,max:=k+1,Ma:=aJ mkStr (fun _=>1) (k+1+1) x.Ma }
abbrev adB (x:au) (m:Int):au:= { x with id:=m,max:=m+1 }
theorem wX (a:Option Addr) (l:List au) (cap:Nat) (k:Int) (w:World) (base:Nat) (hl:l.length≤1048576) (hk: ∀ x∈l,x.Ma.length≤1048576) (h0:1≤k) (h1:k+(aF bN l:Nat)≤90000000) (ho:w.ownsRow base 160 3 (.slice a l.length cap) l.length (bm.flat l)) (hm: ∀ x∈l,aC.cO w base x) (hn:(blk a ++ l.filterMap aC.bt).Nodup):
  Calls J3 61 #[.slice a l.length cap,.int .i64 k] w fun e w'=>e= .returned (.int .i64 (k+(aF bN l:Nat)))∧w'.ownsRow base 160 3 (.slice a l.length cap) l.length (bm.flat (aJ dy bN k l))∧(∀ y∈aJ dy bN k l,aC.cO w' base y)∧aI w w' (blk a ++ l.filterMap aC.bt):=by
 by_cases hz:l.length=0
 ·have hl0:l= [] :=adU hz
  subst hl0;have HO:Hid (w.ownsRow base 160 3 (.slice a 0 cap) 0 (bm.flat [])):=ho;clear ho
  go_enter Tryz.func61,Tryz.ntmps61
  go_wp2_with fail
  go_loopw [1,5] (fun q i wr=>q= .int .i64 k∧i= .int .i64 0∧wr=w) (fun _ _ _=>0)
  case atStart=>exact ⟨rfl,rfl,rfl⟩
  case round=>
   obtain ⟨rfl,rfl,rfl⟩:=hrel;go_wp2;go_ret;exact ⟨ck (by simp [aF]),HO.I,(fun y hy=>by cases hy),aI.refl _ _⟩
 obtain ⟨g,rfl,hrow⟩:=bl.fX (K:=bm) ho hz;have HR:Hid (bl bm 160 w base g cap l∧fp aC w base g l):=⟨hrow,hm,hn⟩
 have HB:Hid (k+(aF bN l:Nat)≤90000000∧ ∀ x∈l,x.Ma.length≤1048576):=⟨h1,hk⟩
 clear ho hrow h1 hz hm hn hk
 go_enter Tryz.func61,Tryz.ntmps61
 go_wp2_with fail
 go_loopw [1,5] (fun q i wr=> ∃ (j:Nat) (m:Int),j≤l.length∧i= .int .i64 j∧q= .int .i64 m∧1≤m∧m≤90000000∧Hid (m=k+(aF bN (l.take j):Nat)∧bl bm 160 wr base g cap (aJ dy bN k (l.take j) ++ l.drop j)∧fp aC wr base g (aJ dy bN k (l.take j) ++ l.drop j)∧aI w wr (g :: l.filterMap aC.bt))) (fun _ i _=>l.length - (intOf i).toNat)
 case atStart=>exact ⟨0,k,Ky _,rfl,rfl,h0,by have:=HB.I.1; omega,⟨by simp [aF],HR.I.1,HR.I.2,aI.refl _ _⟩⟩
 case round=>
  clear HR;obtain ⟨j,m,hj,rfl,rfl,m0,m1,HA⟩:=hrel;by_cases hlt:j < l.length
  ·have i0:(0:Int)≤(j:Int):=by omega
   have i1:(j:Int) < (l.length:Int):=by omega
   obtain ⟨x,hx⟩: ∃ x,l[j]? =some x:=⟨_,Kz hlt⟩
   have pI:l.drop j=x :: l.drop (j+1):=mz hx;have qw:=du (c:=bN) hx;have hup:=gK (c:=bN) hx;have hcx:bN x=2+aF (fun _:ByteArray=>1) x.Ma:=rfl;have HX:Hid (l[j]? =some x∧x.Ma.length≤1048576∧m+1+1+(aF (fun _:ByteArray=>1) x.Ma:Nat)≤90000000∧m+1+1+(aF (fun _:ByteArray=>1) x.Ma:Nat)=k+(aF bN (l.take (j+1)):Nat)):=⟨hx,HB.I.2 x (KA hx),by have:=HB.I.1; have:=HA.I.1; omega,by have:=HA.I.1; omega⟩
   have HW:Hid (bl bm 160 wr base g cap (aJ dy bN k (l.take j) ++ x :: l.drop (j+1))∧(aJ dy bN k (l.take j)).length=j):=⟨by have:=HA.I.2.1; rwa [pI] at this,by rw [bE,Lk]; omega⟩
   have HM:Hid (fp aC wr base g (aJ dy bN k (l.take j) ++ x :: l.drop (j+1))):=by have:=HA.I.2.2.1; rwa [pI] at this
   have m2:m+1+1≤90000000:=by have:=HX.I.2.2.1; omega
   have hgl:g < wr.heap.size:=HW.I.1.lt;clear hx pI qw hup hcx;have q0:=bl.eO HW.I.1 HW.I.2 (r:=0) (by decide:0 < bm.n);obtain ⟨⟨u0,c0⟩,f0⟩:(∃ u,wr.cell? ⟨g,j * 3,none⟩=some u)∧wr.frozen? ⟨g,j * 3,none⟩=false:=q0;have q1:=bl.eO HW.I.1 HW.I.2 (r:=1) (by decide:1 < bm.n);obtain ⟨⟨u1,c1⟩,f1⟩:(∃ u,wr.cell? ⟨g,j * 3+1,none⟩=some u)∧wr.frozen? ⟨g,j * 3+1,none⟩=false:=q1;have c2:wr.cell? ⟨g,j * 3+2,none⟩=some (.slice x.ak x.Ma.length x.aq):=(bl.uD HW.I.1 HW.I.2 (r:=2) (by decide:2 < bm.n))
   have h5:=bl.part (K:=bm) (x:=x) (y:=(adB x m)) (j:=0) (vs:= [.int .i64 (m),.int .i64 (m+1)]) HW.I.1 (by show 0+2≤3; omega) (fun r hr=>by match r,hr with | 0,_=>rfl | 1,_=>rfl) (fun r hr hn=>by match r,hr,hn with | 0,_,hn=>exact absurd ⟨by omega,by show 0 < 0+2; omega⟩ hn | 1,_,hn=>exact absurd ⟨by omega,by show 1 < 0+2; omega⟩ hn | 2,_,_=>rfl);rw [HW.I.2,show bm.n=3 from rfl] at h5;have h6:aI wr (bn wr g (j * 3) [.int .i64 (m),.int .i64 (m+1)]) [g] :=aI.set _ (by simp);simp only [bn,PT] at h5 h6;have HS:Hid (bl bm 160 ((wr.setCell ⟨g,j * 3,none⟩ (.int .i64 (m))).setCell ⟨g,j * 3+1,none⟩ (.int .i64 (m+1))) base g cap (aJ dy bN k (l.take j) ++ (adB x m) :: l.drop (j+1))∧fp aC ((wr.setCell ⟨g,j * 3,none⟩ (.int .i64 (m))).setCell ⟨g,j * 3+1,none⟩ (.int .i64 (m+1))) base g (aJ dy bN k (l.take j) ++ (adB x m) :: l.drop (j+1))∧aI w ((wr.setCell ⟨g,j * 3,none⟩ (.int .i64 (m))).setCell ⟨g,j * 3+1,none⟩ (.int .i64 (m+1))) (g :: l.filterMap aC.bt)):=⟨h5,(HM.I.keep h6).ju rfl ((HM.I.keep h6).mine x (by simp)),HA.I.2.2.2.trans (h6.mono (by simp))⟩
   clear h5 h6;go_wp2_with fail;generalize (wr.setCell ⟨g,j * 3,none⟩ (.int .i64 (m))).setCell ⟨g,j * 3+1,none⟩ (.int .i64 (m+1))=W1 at *;refine (uu x.ak x.Ma x.aq (m+1+1) W1 base HX.I.2.1 (by omega) HX.I.2.2.1 (HS.I.2.1.mine (adB x m) (by simp))).mono ?_;rintro e v ⟨rfl,hown,hkb⟩;have HV:Hid (bl bm 160 v base g cap (aJ dy bN k (l.take (j+1)) ++ l.drop (j+1))∧fp aC v base g (aJ dy bN k (l.take (j+1)) ++ l.drop (j+1))∧aI w v (g :: l.filterMap aC.bt)):=by
    have hap:=HS.I.2.1.apart (z:=(adB x m)) (by simp);rw [kE HX.I.1,Lm,← HA.I.1];have h7:=HS.I.1.same (hkb.same g HS.I.1.lt hap);have hm7:aC.cO v base (dy m x):=by
     show v.ownsRow base _ 1 (.slice x.ak (aJ mkStr (fun _=>1) (m+1+1) x.Ma).length x.aq) (aJ mkStr (fun _=>1) (m+1+1) x.Ma).length (bT.flat (aJ mkStr (fun _=>1) (m+1+1) x.Ma))
     rw [bE];exact hown
    refine ⟨?_,HS.I.2.1.inner hkb rfl hm7,HS.I.2.2.trans (hkb.mono fun b hb=> ?_)⟩
    ·exact bl.part (K:=bm) (x:=(adB x m)) (y:=dy m x) (j:=0) (vs:= []) h7 (by show 0+0≤3; omega) (fun r hr=>absurd hr (by simp)) (fun r hr _=>by match r,hr with | 0,_=>rfl | 1,_=>rfl | 2,_=>(show some (Value.slice x.ak (aJ mkStr (fun _=>1) (m+1+1) x.Ma).length x.aq)=some (.slice x.ak x.Ma.length x.aq); rw [bE]))
    ·exact LB _ (Lq.2 ⟨x,KA HX.I.1,fZ.1 hb⟩)
   clear hown hkb HS;have m3:m+1+1+(aF (fun _:ByteArray=>1) x.Ma:Nat)≤90000000:=HX.I.2.2.1;go_wp2;go_roundw
   case rel=>exact ⟨j+1,m+1+1+(aF (fun _:ByteArray=>1) x.Ma:Nat),by omega,by go_num,rfl,by omega,by omega,⟨HX.I.2.2.2,HV.I.1,HV.I.2.1,HV.I.2.2⟩⟩
   case measure=>simp [intOf]; omega
  ·have i1: ¬ (j:Int) < (l.length:Int):=by omega
   have ej:j=l.length:=by omega
   subst ej;have HE:Hid (bl bm 160 wr base g cap (aJ dy bN k l)∧fp aC wr base g (aJ dy bN k l)∧m=k+(aF bN l:Nat)):=by have h5:=HA.I.2.1; have h6:=HA.I.1; have h7:=HA.I.2.2.1; rw [LQ,adW,QO] at h5 h7; rw [LQ] at h6; exact ⟨h5,h7,h6⟩
   go_wp2;go_ret;refine ⟨ck HE.I.2.2,?_,HE.I.2.1.mine,HA.I.2.2.2⟩;have h7:=HE.I.1.owns;rw [bE] at h7;exact h7
theorem wy (a:Option Addr) (l:List au) (cap:Nat) (k:Int) (w:World) (hl:l.length≤1048576) (hk: ∀ x∈l,x.Ma.length≤1048576) (h0:1≤k) (h1:k+(aF bN l:Nat)≤90000000) (hr:bm.bU w a (aJ dy bN k l)):
  Calls J3 67 #[.slice a l.length cap,.int .i64 k] w fun e w'=>e= .returned (.int .i64 (k+(aF bN l:Nat)))∧Below w.heap.size w w':=by
 have HR:Hid (bm.bU w a (aJ dy bN k l)∧k+(aF bN l:Nat)≤90000000∧ ∀ x∈l,x.Ma.length≤1048576):=⟨hr,h1,hk⟩
 clear hr h1 hk
 go_enter Tryz.func67,Tryz.ntmps67
 go_wp2_with fail
 go_loopw [1,5] (fun q i wr=> ∃ (j:Nat) (m:Int),j≤l.length∧i= .int .i64 j∧q= .int .i64 m∧1≤m∧m≤90000000∧Hid (m=k+(aF bN (l.take j):Nat)∧Below w.heap.size w wr)) (fun _ i _=>l.length - (intOf i).toNat)
 case atStart=>exact ⟨0,k,Ky _,rfl,rfl,h0,by have:=HR.I.2.1; omega,⟨by simp [aF],Kp _ _⟩⟩
 case round=>
  obtain ⟨j,m,hj,rfl,rfl,m0,m1,HA⟩:=hrel;by_cases hlt:j < l.length
  ·have i0:(0:Int)≤(j:Int):=by omega
   have i1:(j:Int) < (l.length:Int):=by omega
   obtain ⟨x,hx⟩: ∃ x,l[j]? =some x:=⟨_,Kz hlt⟩
   have qw:=du (c:=bN) hx;have hup:=gK (c:=bN) hx;have hcx:bN x=2+aF (fun _:ByteArray=>1) x.Ma:=rfl;have hg:=jK (f:=dy) (c:=bN) (k:=k) hx;rw [← HA.I.1] at hg;have hls:bm.bU wr a (aJ dy bN k l):=HR.I.1.below HA.I.2;obtain ⟨g,ha,hat⟩:=hls.at hg;have c0:wr.cell? ⟨g,j * 3,none⟩=some (.int .i64 (m)):=hat 0 _ rfl;have c1:wr.cell? ⟨g,j * 3+1,none⟩=some (.int .i64 (m+1)):=hat 1 _ rfl;have cp:wr.cell? ⟨g,j * 3+2,none⟩=some (.slice x.ak x.Ma.length x.aq):=(hat 2 _ rfl).trans (show some (Value.slice x.ak (aJ mkStr (fun _=>1) (m+1+1) x.Ma).length x.aq)=_ by rw [bE]);have HX:Hid (x.Ma.length≤1048576∧m+1+1+(aF (fun _:ByteArray=>1) x.Ma:Nat)≤90000000∧m+1+1+(aF (fun _:ByteArray=>1) x.Ma:Nat)=k+(aF bN (l.take (j+1)):Nat)∧bT.bU wr x.ak (aJ mkStr (fun _=>1) (m+1+1) x.Ma)):=⟨HR.I.2.2 x (KA hx),by have:=HR.I.2.1; have:=HA.I.1; omega,by have:=HA.I.1; omega,hls.2 _ (KA hg) (x.ak,bT.flat (aJ mkStr (fun _=>1) (m+1+1) x.Ma)) (KB.2 rfl),fun _ _ r hr=>by cases hr⟩
   have m2:m+1+1+(aF (fun _:ByteArray=>1) x.Ma:Nat)≤90000000:=HX.I.2.1;subst ha;clear hx qw hup hcx hg hat hls;go_wp2_with fail;refine (uo x.ak x.Ma x.aq (m+1+1) wr HX.I.1 (by omega) HX.I.2.1 HX.I.2.2.2).mono ?_;rintro e v ⟨rfl,hb⟩;have HV:Hid (Below w.heap.size w v):=HA.I.2.trans (hb.mono HA.I.2.size);clear hb;go_wp2;go_roundw
   case rel=>exact ⟨j+1,m+1+1+(aF (fun _:ByteArray=>1) x.Ma:Nat),by omega,by go_num,rfl,by omega,by omega,⟨HX.I.2.2.1,HV.I⟩⟩
   case measure=>simp [intOf]; omega
  ·have i1: ¬ (j:Int) < (l.length:Int):=by omega
   have HE:Hid (m=k+(aF bN l:Nat)):=by have h6:=HA.I.1; rw [KF (by omega)] at h6; exact h6
   go_wp2;go_ret;exact ⟨ck HE.I,HA.I.2⟩
end
section
open Go.RowKit Go.Maps
attribute [local go_sem] Oper.semAt_some
attribute [local go_sem ↓] Kc Kd
theorem aad {t e:TypeId} {size bytes:Nat} {zs:Array Value} (ht:Tryz.prog.underlying t=some (.slice e)) (hi:(Tryz.prog.info? e).map (fun i=>(i.zero,i.size,i.bytes))=some (some (.agg zs),size,bytes)) (hz:zs.size=size) (hs:0 < size) (hby:bytes≤1000) {W:World} {base k cap:Nat} {a:Option Addr} {xs:List Value} (vs:Array Value) (hv:vs.size=size) (h1: ∀ u∈vs.toList,u.oneCell'=true)
  (ho:W.ownsRow base e size (.slice a k cap) k xs) (hn:k≤1048576) (hb:base≤W.heap.size):
  ∃ a' cap' w',(Builtin.append_ #[t,t] t #[.slice a k cap,.slice (some ⟨W.heap.size,0,none⟩) 1 1]).run J3 (W.alloc (.cells vs e))= .ok (.slice a' (k+1) cap') w'∧w'.ownsRow base e size (.slice a' (k+1) cap') (k+1) (xs ++ vs.toList)∧aI W w' (blk a)∧ ∀ g∈blk a',g∈blk a∨W.heap.size≤g:=by
 have hzb:Below W.heap.size W (W.alloc (.cells vs e)):=(Kp _ _).alloc (Ki _) _;obtain ⟨i,hi,eq⟩:=Kw.1 hi;simp only [Kx] at eq;have hcell: ∀ j u,vs.toList[j]? =some u→(W.alloc (.cells vs e)).cell? ((⟨W.heap.size,0,none⟩:Addr).add j)=some u:=fun j u hu=>by
  have h1:(W.alloc (.cells vs e)).heap[W.heap.size]? =some (.cells vs e (0,0)):=Kj _ _;have h2:vs[j]? =some u:=by rw [← Array.getElem?_toList]; exact hu
  rw [qZ];unfold World.cell?;rw [h1];exact h2
 obtain ⟨v',w',hr,ho',hg,-,hbl⟩:=run_append_own_at (P:=J3) (W.alloc (.cells vs e)) base t t e i _ size bytes ht hi eq.1 eq.2.1 eq.2.2 hz hs (.slice a k cap) k xs (cR ho hzb) ⟨W.heap.size,0,none⟩ 1 1 vs.toList (by simp [hv]) hcell h1 (by unfold maxLen; omega) (by have:=acA (Nat.add_le_add_right hn 1) hby; omega) (by have:=hzb.size; omega);obtain ⟨a',cap',rfl,-⟩:=cr ho';refine ⟨a',cap',w',hr,ho',⟨hg.os,hg.tape,hg.output,Nat.le_trans hzb.size hg.size,fun g hgl hgn=> ?_⟩,fun g hm=> ?_⟩
 ·have h1:=hzb.block g hgl
  rw [← h1];exact hg.block g (by have:=hzb.size; omega) fun e=>hgn (VC e.symm)
 ·have hm2:(Value.slice a' (k+1) cap').ownBlock=some g:=by
   cases a' with
   | none=>simp [blk] at hm
   | some ad=>simpa [Value.ownBlock,blk,eq_comm] using hm
  rcases hbl with hbl | hbl
  ·rw [hm2] at hbl; exact .inl (VC hbl.symm)
  ·rw [hm2] at hbl; simp at hbl; exact .inr (by omega)
theorem ZB {F:Fence} {n:Nat} {P:Program} (w:World) {ops:Array Oper} {rest:List Oper} {o:Oper} {a:Act} {Q:Exit→Act→World→Prop} (hg:o.guard=none) (s x:Operand) (t:TypeId)
  (hop:o.op= .call { callee:= .builtin .append,args:= #[s,x],argTypes:= #[t,t] }) (v u r:Value) (w':World) (hs:a.eval s=v) (hx:a.eval x=u) (hr:(Builtin.append_ #[t,t] o.type #[v,u]).run P w= .ok r w')
  (h:wpListIn F n P ops Q rest (a.put o.dst r) w'):wpListIn F n P ops Q (o :: rest) a w:=by
 refine wpListIn_plain hg fun K hK'=> ?_
 unfold Oper.wpIn;refine ⟨?_,?_⟩
 ·simp [Oper.about,hop,resolve,Target.leads,Sem.run_pure]
 ·rw [Oper.semAt_plain F _ _ (by rw [hop]; intro c hc'; cases hc')]
  simp [execOp,hop,resolve,invoke,builtin,hs,hx,hr,Result.andThen];exact hK' _ _ h
theorem abl:(Tryz.prog.info? 100).map (fun i=>(i.zero,i.size,i.bytes))=some (some (.agg #[.int .i64 0,.int .i64 0,.int .i64 0]),3,24):=by kernel_rfl
def Zr (Z:Nat→Int):Nat→List Value
 | 0=> []
 | k+1=>Zr Z k ++ [.int .i64 (Z (k * 3)),.int .i64 (Z (k * 3+1)),.int .i64 (Z (k * 3+2))]
def aag (w:World) (Z:Nat→Int) (k:Nat) (X:World):Prop:= ∃ (a:Option Addr) (cap:Nat),X.heap[w.heap.size]? =some (.cells #[.slice a k cap] 31 (0,0))∧X.ownsRow (w.heap.size+1) 100 3 (.slice a k cap) k (Zr Z k)∧Below w.heap.size w X∧w.heap.size < X.heap.size
theorem aag.alloc {w X:World} {Z:Nat→Int} {k:Nat} (h:aag w Z k X) (o:Obj):aag w Z k (X.alloc o):=by
 obtain ⟨a,cap,h1,h2,h3,h4⟩:=h;exact ⟨a,cap,(PU h4).trans h1,h2.alloc o,h3.alloc h3.size _,by simp; omega⟩
theorem aag.put {w X:World} {Z:Nat→Int} {k l:Nat} {r:Loop} (h:aag w Z k X) (o:Obj) (hl:w.heap.size≤l) (hr:X.heap[l]? =some (.loop r)):aag w Z k (X.putObj l o):=by
 obtain ⟨a,cap,h1,h2,h3,h4⟩:=h;refine ⟨a,cap,(adX (fun e=>by subst e; rw [hr] at h1; cases h1)).trans h1,aL h2 fun g hg=>adX (fun e=> ?_),h3.trans (Zh hl o),by simpa using h4⟩;subst e;rcases h2.2 with ⟨e9,-⟩ | ⟨g9,c9,cur,e9,-,hgr,-⟩
 ·cases e9; simp [blk] at hg
 ·cases e9
  simp only [blk,J9,Option.toList_some,KB] at hg;rw [← hg,hr] at hgr;cases hgr
theorem aat {tmps:Array Value} {R:Ending→World→Prop} {W:World} {D:Nat} {v:Value} (hv:tmps.getD 4 undef=v) (hD:W.heap[D]? =some (.deferred (some []))) (hR:R (.returned v) (W.putObj D (.deferred none))):bodyPostM Fence.wide 6 J3 Tryz.f195 R .ret ⟨tmps,[{ target:= .collected D,args:= #[] }]⟩ W:=by
 refine ⟨by simp,.inl ⟨_,_,rfl,run_takeDeferred hD,?_⟩⟩;refine ⟨v,?_,hR⟩;simp [results,Tryz.results195,go_sem];rw [← hv,Array.getD_eq_getD_getElem?]
theorem appendSeq_in (cs:Array Value) (major:Int) (len:Nat) (Z:Nat→Int) (w:World) (h:P2 major len Z cs) (hn:len≤20):
  CallsIn Fence.wide 6 J3 195 #[.slice none 0 0,.func (.func 160) #[.agg cs] #[]] w fun e w'=> ∃ (a:Option Addr) (cap:Nat),e= .returned (.slice a len cap)∧w'.ownsRow (w.heap.size+1) 100 3 (.slice a len cap) len (Zr Z len)∧Below w.heap.size w w':=by
 have HC:=aA h;clear h;refine callsIn_of_wp_marks Tryz.func195 rfl trivial ?_ rfl;simp only [Tryz.ntmps195,List.size_toArray,List.length_cons,List.length_nil,Nat.reduceAdd,Nat.reduceSub,Array.replicate_succ,Array.replicate_zero,List.push_toArray,List.append_toArray,List.nil_append,List.cons_append]
 gi_wp2
 obtain ⟨W0,hW0⟩: ∃ W0,w.alloc (.cells #[.slice none 0 0] 31)=W0:=⟨_,rfl⟩
 have z0:W0.heap.size=w.heap.size+1:=by rw [← hW0]; simp
 have h0:aag w Z 0 W0:=⟨none,0,by rw [← hW0]; exact Kj _ _,World.ownsRow_nil _ _ _ _,by rw [← hW0]; exact (Kp _ _).alloc (Ki _) _,by omega⟩
 rw [hW0];clear hW0;refine aae (E:=100) (Xi:=160) (fa:= #[.agg cs]) rfl (enters_of Tryz.func160 (by kernel_rfl) rfl) (encs:=fun k=> #[Z4 Z k]) (aaV cs major len Z HC.I hn W0.heap.size) (fun _=>rfl)
  (aag w Z) (fun _=>False) (fun k X o h=>h.alloc o) (fun k X l r o hl hr h=>h.put o (by omega) hr) (fun X l r o hl hr h=>h) h0
  (fun k a' X=> ∃ Y6,X.heap[Y6]? =some (.cells #[.int .i64 (Z (k * 3)),.int .i64 (Z (k * 3+1)),.int .i64 (Z (k * 3+2))] 100 (0,0))∧a'=⟨#[Value.slice none 0 0,Value.func (Fn.func 160) #[Value.agg cs] #[],Value.pointer (some { block:=w.heap.size,off:=0 }),undef,Value.slice none 0 0,Value.pointer (some { block:=Y6,off:=0 }),Value.func (Fn.func 160) #[Value.agg cs] #[],Z4 Z k,undef,undef,undef,undef,undef],[]⟩)
  (fun k a' X l r o hl' ha=>by
   obtain ⟨Y6,h1,h2⟩:=ha;exact ⟨Y6,(adX (fun e=>by subst e; rw [hl'] at h1; cases h1)).trans h1,h2⟩)
  ?assign ?body ?done ?stop
 case assign=>
  intro l k W K hk hj hz hK;simp only [Z4]
  gi_wp2
  exact hK _ _ (Zp.of (Kept.alloc _ _ _)) (hj.alloc _) ⟨W.heap.size,Kj _ _,rfl⟩
 case body=>
  rintro l k a' W hk hj ⟨Y6,lW,rfl⟩ hz;obtain ⟨a,cap,j1,j2,Xg,Y1⟩:=hj;have c0:W.cell? ⟨Y6,0,none⟩=some (.int .i64 (Z (k * 3))):=by simp [World.cell?,lW]
  have c1:W.cell? ⟨Y6,1,none⟩=some (.int .i64 (Z (k * 3+1))):=by simp [World.cell?,lW]
  have c2:W.cell? ⟨Y6,2,none⟩=some (.int .i64 (Z (k * 3+2))):=by simp [World.cell?,lW]
  have d0:W.cell? ⟨w.heap.size,0,none⟩=some (.slice a k cap):=by simp [World.cell?,j1]
  obtain ⟨a2,Ta,W7,hap,ho,hkp,hbl⟩:=aad Tryz.underlying31 abl rfl (by decide) (by decide) #[.int .i64 (Z (k * 3)),.int .i64 (Z (k * 3+1)),.int .i64 (Z (k * 3+2))] rfl (fun u hu=>by
   simp only [Kt,Ku,or_false] at hu;rcases hu with rfl | rfl | rfl <;> rfl) j2 (by omega) (by omega)
  have hlow: ∀ g∈blk a,w.heap.size+1≤g:=fun g hg=>(cf j2 hg).1
  have Zd:W7.heap[w.heap.size]? =some (.cells #[.slice a k cap] 31 (0,0)):=(hkp.same _ Y1 fun hm=>by have:=hlow _ hm; omega).trans j1;have d7:W7.cell? ⟨w.heap.size,0,none⟩=some (.slice a k cap):=by simp [World.cell?,Zd]
  have f7:W7.frozen? ⟨w.heap.size,0,none⟩=false:=frozen_of_row W7 _ _ _ _ Zd;have HE:Hid (Z7 100 W0.heap.size (aag w Z) (fun _=>False) k W .normal ⟨#[],[]⟩ (W7.setCell ⟨w.heap.size,0,none⟩ (.slice a2 (k+1) Ta))):=by
   refine ⟨⟨by simp; exact hkp.size,fun b hb hbl2 hnc=> ?_⟩,a2,Ta,?_,?_,?_,?_⟩
   ·refine (ac5 _ _ _ _ (by show b≠w.heap.size; omega)).trans (hkp.same b hbl2 fun hm=> ?_)
    rcases j2.2 with ⟨e9,-⟩ | ⟨g9,c9,cur,e9,-,hgr,-⟩
    ·cases e9; simp [blk] at hm
    ·cases e9
     simp only [blk,J9,Option.toList_some,KB] at hm;exact hnc cur (0,0) (by rw [hm]; exact hgr)
   ·exact heap_setCell_same _ _ _ _ _ _ Zd
   ·exact aL ho fun g hg=>ac5 _ _ _ _ (by have:=(cf ho hg).1; show g≠w.heap.size; omega)
   ·exact (Xg.trans (hkp.below Xg.size fun g hg=>by have:=hlow g hg; omega)).setCell (Ki _) _
   ·simp; have:=hkp.size; omega
  clear lW j1 j2 Xg ho hkp hbl hlow Zd;simp only [Z4];generalize Z (k * 3)=z1 at *;generalize Z (k * 3+1)=z2 at *;generalize Z (k * 3+2)=z3 at *
  gi_wp2_with (gi_at_builtin; refine ZB _ rfl _ _ 31 rfl _ _ _ _ rfl rfl hap ?_)
  exact HE.I
 case done=>
  rintro W ⟨a,cap,j1,j2,Xg,Y1⟩ hD;have d0:W.cell? ⟨w.heap.size,0,none⟩=some (.slice a len cap):=by simp [World.cell?,j1]
  have HJ:=aA (And.intro j2 Xg);clear j1 j2 Xg
  gi_wp2
  refine aat (v:= .slice a len cap) rfl hD ⟨a,cap,rfl,aL HJ.I.1 fun g hg=>adX (fun e=> ?_),HJ.I.2.trans (Zh (by omega) _)⟩;subst e;rcases HJ.I.1.2 with ⟨e9,-⟩ | ⟨g9,c9,cur,e9,-,hgr,-⟩
  ·cases e9; simp [blk] at hg
  ·cases e9
   simp only [blk,J9,Option.toList_some,KB] at hg;rw [← hg,hD] at hgr;cases hgr
 case stop=>
  rintro W hj;exact hj.elim
end
section
open Go.RowKit Go.Maps
attribute [local go_sem ↓] Kc Kd
structure VM (w w':World) (l I:List af):Prop where
 row:w'.ownsRow w.heap.size 48 8 (.slice (some ⟨w.heap.size,0,none⟩) l.length l.length) l.length (kp.flat I)
 alike:I.map (·.pure)=l.map (·.pure)
 mine: ∀ p∈I,ap w' (w.heap.size+1) p
 nodup:(I.flatMap af.Mc).Nodup
 cd:Below w.heap.size w w'
structure qg (w wr:World) (l I:List af) (k:Nat):Prop where
 fill:gb kp 48 w wr l.length I
 len:I.length=k
 alike:I.map (·.pure)=(l.take k).map (·.pure)
 mine: ∀ p∈I,ap wr (w.heap.size+1) p
 nodup:(I.flatMap af.Mc).Nodup
section
variable {w wr w':World} {l I:List af} {k:Nat} {x q:af}
theorem qg.start (h:gb kp 48 w wr l.length []):qg w wr l [] 0:=⟨h,rfl,rfl,(fun x hx=>by cases hx),List.nodup_nil⟩
theorem qg.below (h:qg w wr l I k) (hb:Below wr.heap.size wr w'):qg w w' l I k:=⟨h.fill.below hb,h.len,h.alike,fun x hx=>(h.mine x hx).below hb,h.nodup⟩
theorem qg.more (h:qg w w' l I k) (hlt:k < l.length) (hx:l[k]? =some x) (ho:ap w' wr.heap.size q) (hp:q.pure=x.pure) (hr:qg w wr l I k):qg w (bn w' w.heap.size (k * 8) (kp.vals q)) l (I ++ [q]) (k+1):=by
 have hf:=h.fill.more (by rw [h.len]; exact hlt) q;rw [h.len] at hf;have hlw:=hr.fill.lt;refine ⟨hf,by rw [List.length_append,h.len]; rfl,?_,fun y hy=> ?_,?_⟩
 ·rw [cj hx,Kl,Kl,h.alike]
  simp [hp]
 ·have hmy:ap w' (w.heap.size+1) y:=by
   rcases List.mem_append.1 hy with hy | hy
   ·exact h.mine y hy
   ·rw [KB.1 hy]
    exact ho.lower (by omega)
  exact hmy.same fun g hg=>de _ (by have:=(hmy.lt g hg).1; omega)
 ·rw [List.flatMap_append,List.nodup_append]
  refine ⟨h.nodup,by simpa using ho.nodup,fun g hg g' hg' e=> ?_⟩;obtain ⟨y,hy,hgy⟩:=List.mem_flatMap.1 hg;have h1:=((hr.mine y hy).lt g hgy).2;have h2:=(ho.lt g' (by simpa using hg')).1;omega
theorem qg.done (h:qg w wr l I l.length) (hm:l.length≤maxLen):VM w wr l I:=
 ⟨h.fill.done h.len hm,by have:=h.alike; rwa [LQ] at this,h.mine,h.nodup,h.fill.cd⟩
end
theorem U0:(Tryz.prog.info? 48).map (fun i=>(i.zero,i.size,decide (i.bytes≤1000)))=some (some (.agg ar),8,true):=by kernel_rfl
theorem U1 (n:Nat) (hn:n≤1048576) (w:World):
  (Instr.makeSlice 34 (.int .i64 (n:Int)) (.int .i64 (n:Int))).run J3 w= .ok (.slice (some ⟨w.heap.size,0,none⟩) n n) (w.alloc (.cells (madeCells ar (n * 8)) 48)):=by
 obtain ⟨i,hi,e⟩:=Kw.1 U0;simp only [Kx,decide_eq_true_eq] at e;obtain ⟨e1,e2,e3⟩:=e;have hby:n * i.bytes≤1048576 * 1000:=acA hn e3
 have:=run_make (P:=J3) w 34 48 i _ Tryz.underlying34 hi e1 .i64 .i64 n n (by omega) (by omega) (by rw [adM] at hby; first | omega | (rw [adM]; omega)) (by omega)
 rw [this,e2];simp [Value.cells]
theorem UJ (a:Option Addr) (l:List af) (cap:Nat) (w:World) (hl:l.length≤1048576) (hk: ∀ x∈l,x.yq) (hc:kp.ep w a l):
  Calls J3 39 #[.slice a l.length cap] w fun e w'=>e= .returned (.slice (some ⟨w.heap.size,0,none⟩) l.length l.length)∧ ∃ I,VM w w' l I:=by
 have hmk:=U1 l.length hl;have HC:=aA hc;have HKL:=aA hk;clear hk;have HF:Hid (gb kp 48 w (w.alloc (.cells (madeCells ar (l.length * 8)) 48)) l.length []):=gb.start (by rw [size_madeCells]; rfl);clear hc
 go_enter Tryz.func39,Tryz.ntmps39
 go_wp2_with fail
 go_loopw [4] (fun i wr=> ∃ k:Nat,k≤l.length∧i= .int .i64 k∧ ∃ I,Hid (qg w wr l I k)) (fun i _=>l.length - (Go.RowKit.intOf i).toNat)
 case atStart=>exact ⟨0,Ky _,rfl,[],qg.start HF.I⟩
 case round=>
  clear hmk HF;obtain ⟨k,hk,rfl,I,HR⟩:=hrel;by_cases hlt:k < l.length
  ·have i0:(0:Int)≤(k:Int):=by omega
   have i1:(k:Int) < (l.length:Int):=by omega
   obtain ⟨x,hx⟩: ∃ x,l[k]? =some x:=⟨_,Kz hlt⟩
   have hmem:=KA hx;obtain ⟨b,off,rfl,hat⟩:=(HC.I.below HR.I.fill.cd).at hx;have c0:wr.cell? ⟨b,off+k * 8,none⟩=some (.int .i64 x.id):=hat 0 _ rfl;have c1:wr.cell? ⟨b,off+k * 8+1,none⟩=some (.int .i64 x.next):=hat 1 _ rfl;have c2:wr.cell? ⟨b,off+k * 8+2,none⟩=some (.slice x.aN x.L8.length x.aW):=hat 2 _ rfl;have c3:wr.cell? ⟨b,off+k * 8+3,none⟩=some (.slice x.bc x.aj.length x.bF):=hat 3 _ rfl;have c4:wr.cell? ⟨b,off+k * 8+4,none⟩=some (.slice x.ay x.L9.length x.aO):=hat 4 _ rfl;have c5:wr.cell? ⟨b,off+k * 8+5,none⟩=some (.slice x.ax x.ag.length x.aP):=hat 5 _ rfl;have c6:wr.cell? ⟨b,off+k * 8+6,none⟩=some (.slice x.am x.ae.length x.aG):=hat 6 _ rfl;have c7:wr.cell? ⟨b,off+k * 8+7,none⟩=some (.slice x.aK x.ai.length x.aV):=hat 7 _ rfl;have Mb:=Ve x wr (HKL.I x hmem) (Tl ((HC.I.below HR.I.fill.cd).2 x hmem));have HX:=aA hx;have hfl:=HR.I.fill.lt;unfold af.cells at Mb;clear hx hat hmem;go_wp2_with fail;refine Mb.mono ?_;clear Mb;rintro e w1 ⟨q,rfl,hq,hp,hb1⟩;have pG:Hid (qg w w1 l I k):=HR.I.below hb1;obtain ⟨⟨u,hu⟩,hf⟩:=pG.I.fill.at;have d0:=hu (k * 8) (by show k * 8 < l.length * 8; omega);have f0:=hf (k * 8);have d1:=hu (k * 8+1) (by show k * 8+1 < l.length * 8; omega);have f1:=hf (k * 8+1);have d2:=hu (k * 8+2) (by show k * 8+2 < l.length * 8; omega);have f2:=hf (k * 8+2);have d3:=hu (k * 8+3) (by show k * 8+3 < l.length * 8; omega);have f3:=hf (k * 8+3);have d4:=hu (k * 8+4) (by show k * 8+4 < l.length * 8; omega);have f4:=hf (k * 8+4);have d5:=hu (k * 8+5) (by show k * 8+5 < l.length * 8; omega);have f5:=hf (k * 8+5);have d6:=hu (k * 8+6) (by show k * 8+6 < l.length * 8; omega);have f6:=hf (k * 8+6);have d7:=hu (k * 8+7) (by show k * 8+7 < l.length * 8; omega);have f7:=hf (k * 8+7);have h5:=pG.I.more hlt HX.I hq hp HR.I;rw [show kp.vals q= [.int .i64 q.id,.int .i64 q.next,.slice q.aN q.L8.length q.aW,.slice q.bc q.aj.length q.bF,.slice q.ay q.L9.length q.aO,.slice q.ax q.ag.length q.aP,.slice q.am q.ae.length q.aG,.slice q.aK q.ai.length q.aV] from rfl] at h5;simp only [bn,adV,Nat.reduceAdd] at h5;have HS:=aA h5;clear h5;clear hu hf hb1 HR pG hq hp c0 c1 c2 c3 c4 c5 c6 c7;go_wp2;go_roundw
   case rel=>exact ⟨k+1,by omega,by go_num,_,HS.I⟩
   case measure=>simp [Go.RowKit.intOf]; omega
  ·have i1: ¬ (k:Int) < (l.length:Int):=by omega
   have ek:k=l.length:=by omega
   subst ek;go_wp2;go_ret;exact ⟨rfl,I,HR.I.done (by unfold maxLen; omega)⟩
abbrev Xn (l:List Int):List Value:=l.map (Value.int .i64)
end
end Go.Proofs.YteidkehoekbcaaaGreat
