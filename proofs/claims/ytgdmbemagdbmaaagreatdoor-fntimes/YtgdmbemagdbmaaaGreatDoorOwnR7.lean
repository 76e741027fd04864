/- What the proof leans on, part 7. -/
import Derived.Test.YtgdmbemagdbmaaaGreatDoorOwnR6
import Derived.Laws.CopyOwn
set_option linter.unusedVariables false
set_option maxRecDepth 100000
set_option maxHeartbeats 8000000
open Go.Proofs.Tryz
open Go renaming World->w_,Value->v_,Calls->k_,Addr->d_,TypeId->T_,below_setRow->q_
open Go.Ending renaming returned->r_
open Go.IntKind renaming i64->j_
open Go.Obj renaming cells->c_
open Go.RowKit renaming Below->B_
open Go.Value renaming int->i_,slice->s_,bool->b_,string->t_,agg->a_,pointer->p_,tuple->u_
open Option renaming some->o_,none->n_
open Array renaming getElem?_eq_some_iff->J2
open Bool renaming and_eq_true->J7
open Function renaming comp_def->Ls
open Go renaming bodyPost_ret->KT,frozen_of_row->Ko,heap_alloc2_new->Kq,heap_alloc_new->Kj,setRow_heap->KU,setRow_other->KH,wpList_append_own_at->KD,wp_at_succ->Kd,wp_at_zero->Kc,wp_region_held_drew->Kr
open Go.Proofs.Tryz renaming prog->J3
open Go.RowKit.Below renaming refl->Kp
open Go.World renaming news_of_block->KE,ownsRow_nil->Ke
open List renaming append_assoc->Lm,filterMap_cons->LH,find?_map->aeu,getElem?_eq_getElem->Kz,getElem?_eq_some_iff->Lj,getElem?_map->Kk,getElem_cons_succ->K1,getElem_cons_zero->K0,getElem_toArray->KZ,length_map->KG,map_append->Kl,map_congr_left->Lw,map_map->Lv,mem_append->Kg,mem_append_left->Lz,mem_append_right->Ly,mem_cons->Kt,mem_cons_of_mem->LB,mem_filterMap->Lq,mem_map->Lr,mem_of_getElem?->KA,mem_singleton->KB,nodup_append->Kf,nodup_cons->Lp,not_mem_nil->Ku,setIfInBounds_toArray->Qr,set_cons_succ->Lo,set_cons_zero->Ln,take_length->LQ,take_of_length_le->KF
open Nat renaming le_refl->Ki,lt_of_lt_of_le->Kn,zero_le->Ky
open Option renaming map_eq_some_iff->Kw
open Option.some renaming inj->KC,injEq->LF
open Prod.mk renaming injEq->Kx

namespace Go.Proofs.YtgdmbemagdbmaaaGreatDoor
section
open Go.RowKit
attribute [local go_sem ↓] Kc Kd

end
section
open Go.RowKit
def four (a b c d:List Nat):Nat→List Nat
 | 0=>a
 | 1=>b
 | 2=>c
 | 3=>d
 | _=> []
structure mJ (n0 n:Nat) (X:Nat→List Nat):Prop where
 apart: ∀ i j,i≠j→ ∀ q∈X i,q∉X j
 xy: ∀ i,∀ q∈X i,n0≤q∧q < n
theorem mJ.up {n0 n n':Nat} {X X':Nat→List Nat} (h:mJ n0 n X) (k:Nat) (hk: ∀ j,j≠k→X' j=X j) (hx: ∀ q∈X' k,q∈X k∨q=n) (hn:n < n') (h0:n0≤n):mJ n0 n' X':=by
 refine ⟨fun i j hij q hi hj=> ?_,fun i q hi=> ?_⟩
 ·by_cases ei:i=k
  ·subst ei
   rw [hk j (Ne.symm hij)] at hj;rcases hx q hi with h1 | rfl
   ·exact h.apart i j hij q h1 hj
   ·have:=(h.xy j q hj).2; omega
  ·rw [hk i ei] at hi
   by_cases ej:j=k
   ·subst ej
    rcases hx q hj with h1 | rfl
    ·exact h.apart i j hij q hi h1
    ·have:=(h.xy i q hi).2; omega
   ·rw [hk j ej] at hj
    exact h.apart i j hij q hi hj
 ·by_cases ei:i=k
  ·subst ei
   rcases hx q hi with h1 | rfl
   ·have:=h.xy i q h1; omega
   ·omega
  ·rw [hk i ei] at hi
   have:=h.xy i q hi
   omega
theorem mJ.mono {n0 n n':Nat} {X:Nat→List Nat} (h:mJ n0 n X) (hn:n≤n'):mJ n0 n' X:=⟨h.apart,fun i q hq=>by have:=h.xy i q hq; omega⟩
structure fI (p:af) (We w:w_) (b0 d0 b1 d1 b2 d2 b3 d3 e:Bool) (g0 g1 g2 o:Nat) (a0 a1 a2:Option d_) (c0 c1 c2:Nat):Prop where
 cd:B_ We.heap.size We w
 part:av w We.heap.size p
 ret:w.heap[We.heap.size+1]? =o_ (c_ ar 36)
 s0:su w (We.heap.size+2) 59 3 p.aj.length (dm.flat p.aj) b0 d0 g0 a0 c0
 s1:su w (We.heap.size+2) 122 2 p.L9.length (bJ.flat p.L9) b1 d1 g1 a1 c1
 s2:su w (We.heap.size+2) 126 3 p.ag.length (bG.flat p.ag) b2 d2 g2 a2 c2
 I:b3=true→w.heap[o]? =o_ (c_ (bif d3 then #[i_ j_ p.id,i_ j_ p.next,s_ n_ 0 0,s_ a0 p.aj.length c0,s_ a1 p.L9.length c1,s_ a2 p.ag.length c2,s_ n_ 0 0,s_ n_ 0 0] else ar) 36)
 cl:(e=true→d0=true∧d1=true∧d2=true)∧(d3=true→e=true∧b3=true)
 size:We.heap.size+2≤w.heap.size
 pR:mJ (We.heap.size+2) w.heap.size (four (bM b0 d0 g0 a0) (bM b1 d1 g1 a1) (bM b2 d2 g2 a2) (bif b3 then [o] else []))
section
variable {p:af} {We w:w_} {b0 d0 b1 d1 b2 d2 b3 d3 e:Bool} {g0 g1 g2 o:Nat} {a0 a1 a2:Option d_} {c0 c1 c2:Nat}
theorem fI.aaZ (h:fI p We w false d0 b1 d1 b2 d2 b3 d3 e g0 g1 g2 o a0 a1 a2 c0 c1 c2):fI p We (w.alloc (c_ #[] 59)) true d0 b1 d1 b2 d2 b3 d3 e w.heap.size g1 g2 o a0 a1 a2 c0 c1 c2:=by
 have hb:B_ w.heap.size w (w.alloc (c_ #[] 59)):=(Kp _ _).alloc (Ki _) _;have hlt: ∀ i,∀ q∈four (bM false d0 g0 a0) (bM b1 d1 g1 a1) (bM b2 d2 g2 a2) (bif b3 then [o] else []) i,q < w.heap.size:=fun i q hq=>(h.pR.xy i q hq).2
 exact ⟨h.cd.trans (hb.mono h.cd.size),h.part.below hb,(hb.block _ Zc5).trans h.ret,⟨fun _ hd=>⟨Kj _ _,h.size⟩,fun hd=>aL (h.s0.done hd) fun q hq=>hb.block q (hlt 0 q Zdp)⟩,h.s1.same fun q hq=>hb.block q (hlt 1 q hq),h.s2.same fun q hq=>hb.block q (hlt 2 q hq),fun e=>(hb.block _ (hlt 3 o Zdo)).trans (h.I e),h.cl,by have:=h.size; simp; omega,h.pR.up 0 (fun j hj=>by rcases j with _ | _ | _ | _ | _ <;> first | rfl | exact absurd rfl hj) (fun q hq=>by cases d0 with | true=>exact .inl Zc2 | false=>exact .inr Zc2) (by simp) h.size⟩
theorem fI.abg (h:fI p We w b0 d0 false d1 b2 d2 b3 d3 e g0 g1 g2 o a0 a1 a2 c0 c1 c2):fI p We (w.alloc (c_ #[] 122)) b0 d0 true d1 b2 d2 b3 d3 e g0 w.heap.size g2 o a0 a1 a2 c0 c1 c2:=by
 have hb:B_ w.heap.size w (w.alloc (c_ #[] 122)):=(Kp _ _).alloc (Ki _) _;have hlt: ∀ i,∀ q∈four (bM b0 d0 g0 a0) (bM false d1 g1 a1) (bM b2 d2 g2 a2) (bif b3 then [o] else []) i,q < w.heap.size:=fun i q hq=>(h.pR.xy i q hq).2
 exact ⟨h.cd.trans (hb.mono h.cd.size),h.part.below hb,(hb.block _ Zc5).trans h.ret,h.s0.same fun q hq=>hb.block q (hlt 0 q hq),⟨fun _ hd=>⟨Kj _ _,h.size⟩,fun hd=>aL (h.s1.done hd) fun q hq=>hb.block q (hlt 1 q Zdp)⟩,h.s2.same fun q hq=>hb.block q (hlt 2 q hq),fun e=>(hb.block _ (hlt 3 o Zdo)).trans (h.I e),h.cl,by have:=h.size; simp; omega,h.pR.up 1 (fun j hj=>by rcases j with _ | _ | _ | _ | _ <;> first | rfl | exact absurd rfl hj) (fun q hq=>by cases d1 with | true=>exact .inl Zc2 | false=>exact .inr Zc2) (by simp) h.size⟩
theorem fI.make2 (h:fI p We w b0 d0 b1 d1 false d2 b3 d3 e g0 g1 g2 o a0 a1 a2 c0 c1 c2):fI p We (w.alloc (c_ #[] 126)) b0 d0 b1 d1 true d2 b3 d3 e g0 g1 w.heap.size o a0 a1 a2 c0 c1 c2:=by
 have hb:B_ w.heap.size w (w.alloc (c_ #[] 126)):=(Kp _ _).alloc (Ki _) _;have hlt: ∀ i,∀ q∈four (bM b0 d0 g0 a0) (bM b1 d1 g1 a1) (bM false d2 g2 a2) (bif b3 then [o] else []) i,q < w.heap.size:=fun i q hq=>(h.pR.xy i q hq).2
 exact ⟨h.cd.trans (hb.mono h.cd.size),h.part.below hb,(hb.block _ Zc5).trans h.ret,h.s0.same fun q hq=>hb.block q (hlt 0 q hq),h.s1.same fun q hq=>hb.block q (hlt 1 q hq),⟨fun _ hd=>⟨Kj _ _,h.size⟩,fun hd=>aL (h.s2.done hd) fun q hq=>hb.block q (hlt 2 q Zdp)⟩,fun e=>(hb.block _ (hlt 3 o Zdo)).trans (h.I e),h.cl,by have:=h.size; simp; omega,h.pR.up 2 (fun j hj=>by rcases j with _ | _ | _ | _ | _ <;> first | rfl | exact absurd rfl hj) (fun q hq=>by cases d2 with | true=>exact .inl Zc2 | false=>exact .inr Zc2) (by simp) h.size⟩
theorem fI.aa1 {w2:w_} {a:Option d_} {c:Nat} (h:fI p We w true false b1 d1 b2 d2 b3 d3 e g0 g1 g2 o a0 a1 a2 c0 c1 c2) (ho:w2.ownsRow (We.heap.size+2) 59 3 (s_ a p.aj.length c) p.aj.length (dm.flat p.aj)) (hg:w.grownBy w2 (o_ g0)) (hq: ∀ q∈blk a,q=g0∨q=w.heap.size):fI p We w2 true true b1 d1 b2 d2 b3 d3 e g0 g1 g2 o a a1 a2 c c1 c2:=by
 have hlt: ∀ i,∀ q∈four (bM true false g0 a0) (bM b1 d1 g1 a1) (bM b2 d2 g2 a2) (bif b3 then [o] else []) i,q < w.heap.size:=fun i q hq=>(h.pR.xy i q hq).2
 have hgl:We.heap.size+2≤g0∧g0 < w.heap.size:=h.pR.xy 0 g0 (by simp [four,bM]);have hne: ∀ i,i≠0→ ∀ q∈four (bM true false g0 a0) (bM b1 d1 g1 a1) (bM b2 d2 g2 a2) (bif b3 then [o] else []) i,w2.heap[q]? =w.heap[q]? :=fun i hi q hq=>hg.block q (hlt i q hq) fun e=>h.pR.apart i 0 hi q hq ZdI
 have hbe:B_ We.heap.size We w2:=h.cd.grown hg Zc5 (fun k hk=>by cases hk; omega);have he:e=false:=by cases e with | false=>rfl | true=>have:=h.cl.1 rfl; simp at this
 have hd:d3=false:=by cases hx:d3 with | false=>rfl | true=>rw [(h.cl.2 hx).1] at he; cases he
 subst he hd;have hz:=hg.size;have hsz:=h.size;refine ⟨hbe,(hg.block _ (by omega) (fun e=>by have:=KC e; omega)).trans h.part,(hg.block _ (by omega) (fun e=>by have:=KC e; omega)).trans h.ret,⟨(fun _ hd=>by cases hd),fun _=>ho⟩,h.s1.same fun q hq=>hne 1 (by decide) q hq,h.s2.same fun q hq=>hne 2 (by decide) q hq,fun e=>(hne 3 (by decide) o Zdo).trans (h.I e),⟨(fun e=>by cases e),fun e=>by cases e⟩,by omega,?_⟩;by_cases hnew: ∃ q∈blk a,q=w.heap.size
 ·obtain ⟨q0,nu,hqe⟩:=hnew
  have hw2:=(cf ho nu).2;refine h.pR.up 0 (fun j hj=>by rcases j with _ | _ | _ | _ | _ <;> first | rfl | exact absurd rfl hj) (fun q hq'=> ?_) (by omega) hsz;exact Zac
 ·have hall: ∀ q∈blk a,q=g0:=fun q hq'=>(hq q hq').resolve_right fun e=>hnew ⟨q,hq',e⟩
  refine mJ.mono (n:=w.heap.size) ⟨fun i i2 hij q hi hi2=> ?_,fun i q hi=> ?_⟩ hz
  ·have e1: ∀ i,∀ q∈four (bM true true g0 a) (bM b1 d1 g1 a1) (bM b2 d2 g2 a2) (bif b3 then [o] else []) i,q∈four (bM true false g0 a0) (bM b1 d1 g1 a1) (bM b2 d2 g2 a2) (bif b3 then [o] else []) i:=fun i q hq'=>by
    by_cases ei:i=0
    ·exact ZaM
    ·exact Za6
   exact ZbA
  ·by_cases ei:i=0
   ·exact ZaZ
   ·exact ZaA
theorem fI.aa2 {w2:w_} {a:Option d_} {c:Nat} (h:fI p We w b0 d0 true false b2 d2 b3 d3 e g0 g1 g2 o a0 a1 a2 c0 c1 c2) (ho:w2.ownsRow (We.heap.size+2) 122 2 (s_ a p.L9.length c) p.L9.length (bJ.flat p.L9)) (hg:w.grownBy w2 (o_ g1)) (hq: ∀ q∈blk a,q=g1∨q=w.heap.size):fI p We w2 b0 d0 true true b2 d2 b3 d3 e g0 g1 g2 o a0 a a2 c0 c c2:=by
 have hlt: ∀ i,∀ q∈four (bM b0 d0 g0 a0) (bM true false g1 a1) (bM b2 d2 g2 a2) (bif b3 then [o] else []) i,q < w.heap.size:=fun i q hq=>(h.pR.xy i q hq).2
 have hgl:We.heap.size+2≤g1∧g1 < w.heap.size:=h.pR.xy 1 g1 (by simp [four,bM]);have hne: ∀ i,i≠1→ ∀ q∈four (bM b0 d0 g0 a0) (bM true false g1 a1) (bM b2 d2 g2 a2) (bif b3 then [o] else []) i,w2.heap[q]? =w.heap[q]? :=fun i hi q hq=>hg.block q (hlt i q hq) fun e=>h.pR.apart i 1 hi q hq ZdI
 have hbe:B_ We.heap.size We w2:=h.cd.grown hg Zc5 (fun k hk=>by cases hk; omega);have he:e=false:=by cases e with | false=>rfl | true=>have:=h.cl.1 rfl; simp at this
 have hd:d3=false:=by cases hx:d3 with | false=>rfl | true=>rw [(h.cl.2 hx).1] at he; cases he
 subst he hd;have hz:=hg.size;have hsz:=h.size;refine ⟨hbe,(hg.block _ (by omega) (fun e=>by have:=KC e; omega)).trans h.part,(hg.block _ (by omega) (fun e=>by have:=KC e; omega)).trans h.ret,h.s0.same fun q hq=>hne 0 (by decide) q hq,⟨(fun _ hd=>by cases hd),fun _=>ho⟩,h.s2.same fun q hq=>hne 2 (by decide) q hq,fun e=>(hne 3 (by decide) o Zdo).trans (h.I e),⟨(fun e=>by cases e),fun e=>by cases e⟩,by omega,?_⟩;by_cases hnew: ∃ q∈blk a,q=w.heap.size
 ·obtain ⟨q0,nu,hqe⟩:=hnew
  have hw2:=(cf ho nu).2;refine h.pR.up 1 (fun j hj=>by rcases j with _ | _ | _ | _ | _ <;> first | rfl | exact absurd rfl hj) (fun q hq'=> ?_) (by omega) hsz;exact Zac
 ·have hall: ∀ q∈blk a,q=g1:=fun q hq'=>(hq q hq').resolve_right fun e=>hnew ⟨q,hq',e⟩
  refine mJ.mono (n:=w.heap.size) ⟨fun i i2 hij q hi hi2=> ?_,fun i q hi=> ?_⟩ hz
  ·have e1: ∀ i,∀ q∈four (bM b0 d0 g0 a0) (bM true true g1 a) (bM b2 d2 g2 a2) (bif b3 then [o] else []) i,q∈four (bM b0 d0 g0 a0) (bM true false g1 a1) (bM b2 d2 g2 a2) (bif b3 then [o] else []) i:=fun i q hq'=>by
    by_cases ei:i=1
    ·exact ZaM
    ·exact Za6
   exact ZbA
  ·by_cases ei:i=1
   ·exact ZaZ
   ·exact ZaA
theorem fI.copy2 {w2:w_} {a:Option d_} {c:Nat} (h:fI p We w b0 d0 b1 d1 true false b3 d3 e g0 g1 g2 o a0 a1 a2 c0 c1 c2) (ho:w2.ownsRow (We.heap.size+2) 126 3 (s_ a p.ag.length c) p.ag.length (bG.flat p.ag)) (hg:w.grownBy w2 (o_ g2)) (hq: ∀ q∈blk a,q=g2∨q=w.heap.size):fI p We w2 b0 d0 b1 d1 true true b3 d3 e g0 g1 g2 o a0 a1 a c0 c1 c:=by
 have hlt: ∀ i,∀ q∈four (bM b0 d0 g0 a0) (bM b1 d1 g1 a1) (bM true false g2 a2) (bif b3 then [o] else []) i,q < w.heap.size:=fun i q hq=>(h.pR.xy i q hq).2
 have hgl:We.heap.size+2≤g2∧g2 < w.heap.size:=h.pR.xy 2 g2 (by simp [four,bM]);have hne: ∀ i,i≠2→ ∀ q∈four (bM b0 d0 g0 a0) (bM b1 d1 g1 a1) (bM true false g2 a2) (bif b3 then [o] else []) i,w2.heap[q]? =w.heap[q]? :=fun i hi q hq=>hg.block q (hlt i q hq) fun e=>h.pR.apart i 2 hi q hq ZdI
 have hbe:B_ We.heap.size We w2:=h.cd.grown hg Zc5 (fun k hk=>by cases hk; omega);have he:e=false:=by cases e with | false=>rfl | true=>have:=h.cl.1 rfl; simp at this
 have hd:d3=false:=by cases hx:d3 with | false=>rfl | true=>rw [(h.cl.2 hx).1] at he; cases he
 subst he hd;have hz:=hg.size;have hsz:=h.size;refine ⟨hbe,(hg.block _ (by omega) (fun e=>by have:=KC e; omega)).trans h.part,(hg.block _ (by omega) (fun e=>by have:=KC e; omega)).trans h.ret,h.s0.same fun q hq=>hne 0 (by decide) q hq,h.s1.same fun q hq=>hne 1 (by decide) q hq,⟨(fun _ hd=>by cases hd),fun _=>ho⟩,fun e=>(hne 3 (by decide) o Zdo).trans (h.I e),⟨(fun e=>by cases e),fun e=>by cases e⟩,by omega,?_⟩;by_cases hnew: ∃ q∈blk a,q=w.heap.size
 ·obtain ⟨q0,nu,hqe⟩:=hnew
  have hw2:=(cf ho nu).2;refine h.pR.up 2 (fun j hj=>by rcases j with _ | _ | _ | _ | _ <;> first | rfl | exact absurd rfl hj) (fun q hq'=> ?_) (by omega) hsz;exact Zac
 ·have hall: ∀ q∈blk a,q=g2:=fun q hq'=>(hq q hq').resolve_right fun e=>hnew ⟨q,hq',e⟩
  refine mJ.mono (n:=w.heap.size) ⟨fun i i2 hij q hi hi2=> ?_,fun i q hi=> ?_⟩ hz
  ·have e1: ∀ i,∀ q∈four (bM b0 d0 g0 a0) (bM b1 d1 g1 a1) (bM true true g2 a) (bif b3 then [o] else []) i,q∈four (bM b0 d0 g0 a0) (bM b1 d1 g1 a1) (bM true false g2 a2) (bif b3 then [o] else []) i:=fun i q hq'=>by
    by_cases ei:i=2
    ·exact ZaM
    ·exact Za6
   exact ZbA
  ·by_cases ei:i=2
   ·exact ZaZ
   ·exact ZaA
theorem fI.aa9 (h:fI p We w b0 d0 b1 d1 b2 d2 false false e g0 g1 g2 o a0 a1 a2 c0 c1 c2):fI p We (w.alloc (c_ ar 36)) b0 d0 b1 d1 b2 d2 true false e g0 g1 g2 w.heap.size a0 a1 a2 c0 c1 c2:=by
 have hb:B_ w.heap.size w (w.alloc (c_ ar 36)):=(Kp _ _).alloc (Ki _) _;have hlt: ∀ i,∀ q∈four (bM b0 d0 g0 a0) (bM b1 d1 g1 a1) (bM b2 d2 g2 a2) (bif false then [o] else []) i,q < w.heap.size:=fun i q hq=>(h.pR.xy i q hq).2
 exact ⟨h.cd.trans (hb.mono h.cd.size),h.part.below hb,(hb.block _ Zc5).trans h.ret,h.s0.same fun q hq=>hb.block q (hlt 0 q hq),h.s1.same fun q hq=>hb.block q (hlt 1 q hq),h.s2.same fun q hq=>hb.block q (hlt 2 q hq),fun _=>Kj _ _,⟨h.cl.1,fun e=>by cases e⟩,by have:=h.size; simp; omega,h.pR.up 3 (fun j hj=>by rcases j with _ | _ | _ | _ | _ <;> first | rfl | exact absurd rfl hj) (fun q hq=> .inr (by simpa [four] using hq)) (by simp) h.size⟩
theorem fI.build (h:fI p We w b0 d0 b1 d1 b2 d2 b3 d3 false g0 g1 g2 o a0 a1 a2 c0 c1 c2) (h0:d0=true) (h1:d1=true) (h2:d2=true):fI p We w b0 d0 b1 d1 b2 d2 b3 d3 true g0 g1 g2 o a0 a1 a2 c0 c1 c2:=⟨h.cd,h.part,h.ret,h.s0,h.s1,h.s2,h.I,⟨fun _=>⟨h0,h1,h2⟩,fun hd=>⟨rfl,(h.cl.2 hd).2⟩⟩,h.size,h.pR⟩
theorem fI.store (h:fI p We w b0 d0 b1 d1 b2 d2 true false true g0 g1 g2 o a0 a1 a2 c0 c1 c2):fI p We (w.setRow o #[i_ j_ p.id,i_ j_ p.next,s_ n_ 0 0,s_ a0 p.aj.length c0,s_ a1 p.L9.length c1,s_ a2 p.ag.length c2,s_ n_ 0 0,s_ n_ 0 0]) b0 d0 b1 d1 b2 d2 true true true g0 g1 g2 o a0 a1 a2 c0 c1 c2:=by
 have ho:=h.pR.xy 3 o ZdL;have hne: ∀ q,q≠o→(w.setRow o #[i_ j_ p.id,i_ j_ p.next,s_ n_ 0 0,s_ a0 p.aj.length c0,s_ a1 p.L9.length c1,s_ a2 p.ag.length c2,s_ n_ 0 0,s_ n_ 0 0]).heap[q]? =w.heap[q]? :=fun q hq=>KH _ _ _ _ hq
 have hap: ∀ i,i≠3→ ∀ q∈four (bM b0 d0 g0 a0) (bM b1 d1 g1 a1) (bM b2 d2 g2 a2) [o] i,q≠o:=fun i hi q hq e=>h.pR.apart i 3 hi q hq (by subst e; simp [four])
 have hsz:=h.size;exact ⟨q_ h.cd (by omega) _,(hne _ (by omega)).trans h.part,(hne _ (by omega)).trans h.ret,h.s0.same fun q hq=>hne q (hap 0 (by decide) q hq),h.s1.same fun q hq=>hne q (hap 1 (by decide) q hq),h.s2.same fun q hq=>hne q (hap 2 (by decide) q hq),fun _=>KU _ _ _ _ _ _ (h.I rfl),⟨h.cl.1,fun _=>⟨rfl,rfl⟩⟩,by rw [size_setRow]; exact h.size,by rw [size_setRow]; exact h.pR⟩
end
end
section
open Go.RowKit Go.Maps
attribute [local go_sem ↓] Kc Kd
theorem Dv {VO VS VV r1 r2 r3 r4 r5 r6:List Nat} {N n1 n2 n3 n4 n5 n6:Nat} (hk:(VO ++ (VS ++ VV)).Nodup) (hkl: ∀ g∈VO ++ (VS ++ VV),g < N) (h1:nU N n1 r1) (h2:nU n1 n2 r2) (h3:nU n2 n3 r3) (h4:nU n3 n4 r4) (h5:nU n4 n5 r5) (h6:nU n5 n6 r6)
  (e:N≤n1∧n1≤n2∧n2≤n3∧n3≤n4∧n4≤n5∧n5≤n6):(r1 ++ (VO ++ (r2 ++ (r3 ++ (r4 ++ (r5 ++ (VS ++ (r6 ++ VV)))))))).Nodup:=by
 have hp:(r1 ++ (VO ++ (r2 ++ (r3 ++ (r4 ++ (r5 ++ (VS ++ (r6 ++ VV)))))))).Perm ((VO ++ (VS ++ VV)) ++ (r1 ++ (r2 ++ (r3 ++ (r4 ++ (r5 ++ r6)))))):=by
  rw [List.perm_iff_count];intro x;simp only [List.count_append];omega
 rw [hp.nodup_iff,Kf];have hr:nU N n6 (r1 ++ (r2 ++ (r3 ++ (r4 ++ (r5 ++ r6))))):=h1.append (h2.append (h3.append (h4.append (h5.append h6 (by omega) (by omega) (by omega)) (by omega) (by omega) (by omega)) (by omega) (by omega) (by omega)) (by omega) (by omega) (by omega)) (by omega) (by omega) (by omega);refine ⟨hk,hr.1,fun a ha b hb e=> ?_⟩
 have:=hkl a ha
 have:=(hr.2 b hb).1
 omega
theorem px {w:w_} {base n size cap:Nat} {e:T_} {a:Option d_} {xs:List v_} (h:w.ownsRow base e size (s_ a n cap) n xs):nU base w.heap.size (blk a):=⟨fN a,fun _ hg=>cf h hg⟩
structure aZ.Fits (S:aZ):Prop where
 dl:S.lp.length≤1048576
 Jl: ∀ p∈RW (fun x:ao=>x.id) S.lp,(Lit.int j_ p.1).wf=true
 fx:S.ls.length≤1048576
 adG: ∀ p∈RW (fun x:bD=>x.id) S.ls,(Lit.int j_ p.1).wf=true
 cD:S.le.length≤1048576
 G4: ∀ p∈RW (fun x:aB=>x.id) S.le,(Lit.int j_ p.1).wf=true
 cC:S.lb.length≤1048576
 FP: ∀ p∈RW (fun x:az=>x.id) S.lb,(Lit.int j_ p.1).wf=true
 cb:S.lf.length≤1048576
 DW: ∀ p∈RW (fun x:au=>x.id) S.lf,(Lit.int j_ p.1).wf=true
 dH:S.lq.length≤1048576
 Jz: ∀ p∈RW (fun x:aM=>x.id) S.lq,(Lit.int j_ p.1).wf=true
abbrev GR (o:Nat) (S:aZ) (w':w_):Prop:=w'.cell? ⟨o,0,n_⟩=o_ (i_ j_ S.q.id)∧w'.cell? ⟨o,1,n_⟩=o_ (i_ j_ S.q.next)∧w'.cell? ⟨o,2,n_⟩=o_ (i_ j_ 6)∧w'.cell? ⟨o,3,n_⟩=o_ (.map (o_ S.q.bp))∧w'.cell? ⟨o,4,n_⟩=o_ (i_ j_ 5)∧w'.cell? ⟨o,5,n_⟩=o_ (.map (o_ S.q.bs))∧w'.cell? ⟨o,6,n_⟩=o_ (i_ j_ 5)∧w'.cell? ⟨o,7,n_⟩=o_ (.map (o_ S.q.be))∧w'.cell? ⟨o,8,n_⟩=o_ (i_ j_ 5)∧w'.cell? ⟨o,9,n_⟩=o_ (.map (o_ S.q.bb))∧w'.cell? ⟨o,10,n_⟩=o_ (i_ j_ 5)∧w'.cell? ⟨o,11,n_⟩=o_ (.map (o_ S.q.bf))∧w'.cell? ⟨o,12,n_⟩=o_ (i_ j_ 5)∧w'.cell? ⟨o,13,n_⟩=o_ (.map (o_ S.q.bq))
theorem kP {o:Nat} {S:aZ} {w:w_} (h:fa w o S.q):GR o S w:=⟨h.cell 0,h.cell 1,h.cell 2,h.cell 3,h.cell 4,h.cell 5,h.cell 6,h.cell 7,h.cell 8,h.cell 9,h.cell 10,h.cell 11,h.cell 12,h.cell 13⟩
def Hc (w:w_) (base:Nat) (v:aE) (e:Ending) (w':w_):Prop:= ∃ r:af,e=r_ (a_ r.cells)∧ap w' base r∧r.pure=v∧B_ w.heap.size w w'
def aaM (w:w_) (base:Nat) (S:aZ) (e:Ending) (w':w_):Prop:= ∃ r:af,e=r_ (a_ r.cells)∧ap w' base r∧r.pure=S.pure∧B_ w.heap.size w w'∧ ∀ g∈r.Mc,g∈S.kids∨w.heap.size≤g
theorem ZZ (o base:Nat) (S:aZ) (w:w_) (h:cJ w base o S) (hf:S.Fits):k_ J3 26 #[p_ (o_ ⟨o,0,n_⟩)] w fun e w'=>aaM w base S e w':=by
 have hb0:B_ w.heap.size w (w.alloc (c_ ar 36)):=(Kp _ _).alloc (Ki _) _;have HZ:Hid (cJ w base o S∧S.Fits∧B_ w.heap.size w (w.alloc (c_ ar 36)).drew∧(w.alloc (c_ ar 36)).drew.heap[w.heap.size]? =o_ (c_ ar 36)∧w.heap.size < (w.alloc (c_ ar 36)).drew.heap.size):=⟨h,hf,hb0.drew,Kj _ _,by simp⟩
 have HS:Hid (GR o S (w.alloc (c_ ar 36)).drew):=kP (h.opn.below hb0.drew);clear h hf hb0
 go_enter func26,ntmps26
 go_wp2_with fail;generalize w.alloc (c_ ar 36)=W at *;refine Kr (S:=GR o S) ZcI HS.I (fun hHeld=> ?_);refine tt 0 hHeld ?_;refine tt 1 hHeld ?_;refine tt 2 hHeld ?_;refine tt 3 hHeld ?_;refine tt 4 hHeld ?_;refine tt 5 hHeld ?_;refine tt 6 hHeld ?_;refine tt 7 hHeld ?_;refine tt 8 hHeld ?_;refine tt 9 hHeld ?_;refine tt 10 hHeld ?_;refine tt 11 hHeld ?_;refine tt 13 hHeld ?_;refine tt 14 hHeld ?_;refine tt 15 hHeld ?_;refine tt 16 hHeld ?_;refine tt 18 hHeld ?_;refine tt 19 hHeld ?_;refine tt 20 hHeld ?_;refine tt 21 hHeld ?_;refine tt 23 hHeld ?_;refine tt 24 hHeld ?_;refine tt 25 hHeld ?_;refine tt 26 hHeld ?_;refine tt 28 hHeld ?_;refine tt 29 hHeld ?_;refine tt 30 hHeld ?_;refine tt 31 hHeld ?_;refine tt 33 hHeld ?_;refine tt 34 hHeld ?_;refine tt 35 hHeld ?_;refine tt 36 hHeld ?_;clear HS;generalize hWd:W.drew=W0 at *;clear hWd;refine L7 12 (fun K hK=> ?_);go_wp2_with fail;refine (zj 6 base S.q.bp S.lp W0 (HZ.I.1.L8.below HZ.I.2.2.1) HZ.I.2.1.dl HZ.I.2.1.Jl).mono ?_;rintro e W1 ⟨a1,c1,rfl,hown,hb⟩;have wm:Hid (nU W0.heap.size W1.heap.size (blk a1)∧W0.heap.size≤W1.heap.size):=⟨px hown,hb.size⟩
 have HY:Hid (W1.ownsRow W0.heap.size 44 12 (s_ a1 (S.lp.map (·.1)).length c1) (S.lp.map (·.1)).length (bg.flat (S.lp.map (·.1)))∧W0.heap.size≤W1.heap.size):=⟨hown,hb.size⟩
 have HR:=HY;clear HY;have iP:Hid (cJ w base o S∧S.Fits∧B_ w.heap.size w W1∧W1.heap[w.heap.size]? =o_ (c_ ar 36)∧w.heap.size < W0.heap.size):=⟨HZ.I.1,HZ.I.2.1,HZ.I.2.2.1.trans (hb.mono HZ.I.2.2.1.size),(hb.block _ (J2.1 HZ.I.2.2.2.1).1).trans HZ.I.2.2.2.1,HZ.I.2.2.2.2⟩
 clear HZ hown hb;have HZ:=iP;clear iP hHeld;refine hK.out _ _ (kP (HZ.I.1.opn.below HZ.I.2.2.1)) (fun hHeld=> ?_);clear hK K
 try simp only [KZ,K0,K1,Act.put,Qr,Ln,Lo]
 refine L7 17 (fun K hK=> ?_);go_wp2_with fail;refine (AN 5 base S.q.bs S.ls W1 (HZ.I.1.aj.below HZ.I.2.2.1) HZ.I.2.1.fx HZ.I.2.1.adG).mono ?_;rintro e W2 ⟨a2,c2,rfl,hown,hb⟩;have xD:Hid (nU W1.heap.size W2.heap.size (blk a2)∧W1.heap.size≤W2.heap.size):=⟨px hown,hb.size⟩
 have HY:Hid (W2.ownsRow W0.heap.size 44 12 (s_ a1 (S.lp.map (·.1)).length c1) (S.lp.map (·.1)).length (bg.flat (S.lp.map (·.1)))∧W2.ownsRow W1.heap.size 59 3 (s_ a2 (S.ls.map (·.1)).length c2) (S.ls.map (·.1)).length (dm.flat (S.ls.map (·.1)))∧W0.heap.size≤W1.heap.size∧W1.heap.size≤W2.heap.size):=⟨cR HR.I.1 hb,hown,HR.I.2,hb.size⟩
 clear HR;have HR:=HY;clear HY;have iP:Hid (cJ w base o S∧S.Fits∧B_ w.heap.size w W2∧W2.heap[w.heap.size]? =o_ (c_ ar 36)∧w.heap.size < W0.heap.size):=⟨HZ.I.1,HZ.I.2.1,HZ.I.2.2.1.trans (hb.mono HZ.I.2.2.1.size),(hb.block _ (J2.1 HZ.I.2.2.2.1).1).trans HZ.I.2.2.2.1,HZ.I.2.2.2.2⟩
 clear HZ hown hb;have HZ:=iP;clear iP hHeld;refine hK.out _ _ (kP (HZ.I.1.opn.below HZ.I.2.2.1)) (fun hHeld=> ?_);clear hK K
 try simp only [KZ,K0,K1,Act.put,Qr,Ln,Lo]
 refine L7 22 (fun K hK=> ?_);go_wp2_with fail;refine (wN 5 base S.q.be S.le W2 (HZ.I.1.L9.below HZ.I.2.2.1) HZ.I.2.1.cD HZ.I.2.1.G4).mono ?_;rintro e W3 ⟨a3,c3,rfl,hown,hb⟩;have Fz:Hid (nU W2.heap.size W3.heap.size (blk a3)∧W2.heap.size≤W3.heap.size):=⟨px hown,hb.size⟩
 have HY:Hid (W3.ownsRow W0.heap.size 44 12 (s_ a1 (S.lp.map (·.1)).length c1) (S.lp.map (·.1)).length (bg.flat (S.lp.map (·.1)))∧W3.ownsRow W1.heap.size 59 3 (s_ a2 (S.ls.map (·.1)).length c2) (S.ls.map (·.1)).length (dm.flat (S.ls.map (·.1)))∧W3.ownsRow W2.heap.size 122 2 (s_ a3 (S.le.map (·.1)).length c3) (S.le.map (·.1)).length (bJ.flat (S.le.map (·.1)))∧W0.heap.size≤W1.heap.size∧W1.heap.size≤W2.heap.size∧W2.heap.size≤W3.heap.size):=⟨cR HR.I.1 hb,cR HR.I.2.1 hb,hown,HR.I.2.2.1,HR.I.2.2.2,hb.size⟩
 clear HR;have HR:=HY;clear HY;have iP:Hid (cJ w base o S∧S.Fits∧B_ w.heap.size w W3∧W3.heap[w.heap.size]? =o_ (c_ ar 36)∧w.heap.size < W0.heap.size):=⟨HZ.I.1,HZ.I.2.1,HZ.I.2.2.1.trans (hb.mono HZ.I.2.2.1.size),(hb.block _ (J2.1 HZ.I.2.2.2.1).1).trans HZ.I.2.2.2.1,HZ.I.2.2.2.2⟩
 clear HZ hown hb;have HZ:=iP;clear iP hHeld;refine hK.out _ _ (kP (HZ.I.1.opn.below HZ.I.2.2.1)) (fun hHeld=> ?_);clear hK K
 try simp only [KZ,K0,K1,Act.put,Qr,Ln,Lo]
 refine L7 27 (fun K hK=> ?_);go_wp2_with fail;refine (wC 5 base S.q.bb S.lb W3 (HZ.I.1.ag.below HZ.I.2.2.1) HZ.I.2.1.cC HZ.I.2.1.FP).mono ?_;rintro e W4 ⟨a4,c4,rfl,hown,hb⟩;have FA:Hid (nU W3.heap.size W4.heap.size (blk a4)∧W3.heap.size≤W4.heap.size):=⟨px hown,hb.size⟩
 have HY:Hid (W4.ownsRow W0.heap.size 44 12 (s_ a1 (S.lp.map (·.1)).length c1) (S.lp.map (·.1)).length (bg.flat (S.lp.map (·.1)))∧W4.ownsRow W1.heap.size 59 3 (s_ a2 (S.ls.map (·.1)).length c2) (S.ls.map (·.1)).length (dm.flat (S.ls.map (·.1)))∧W4.ownsRow W2.heap.size 122 2 (s_ a3 (S.le.map (·.1)).length c3) (S.le.map (·.1)).length (bJ.flat (S.le.map (·.1)))∧W4.ownsRow W3.heap.size 126 3 (s_ a4 (S.lb.map (·.1)).length c4) (S.lb.map (·.1)).length (bG.flat (S.lb.map (·.1)))∧W0.heap.size≤W1.heap.size∧W1.heap.size≤W2.heap.size∧W2.heap.size≤W3.heap.size∧W3.heap.size≤W4.heap.size):=⟨cR HR.I.1 hb,cR HR.I.2.1 hb,cR HR.I.2.2.1 hb,hown,HR.I.2.2.2.1,HR.I.2.2.2.2.1,HR.I.2.2.2.2.2,hb.size⟩
 clear HR;have HR:=HY;clear HY;have iP:Hid (cJ w base o S∧S.Fits∧B_ w.heap.size w W4∧W4.heap[w.heap.size]? =o_ (c_ ar 36)∧w.heap.size < W0.heap.size):=⟨HZ.I.1,HZ.I.2.1,HZ.I.2.2.1.trans (hb.mono HZ.I.2.2.1.size),(hb.block _ (J2.1 HZ.I.2.2.2.1).1).trans HZ.I.2.2.2.1,HZ.I.2.2.2.2⟩
 clear HZ hown hb;have HZ:=iP;clear iP hHeld;refine hK.out _ _ (kP (HZ.I.1.opn.below HZ.I.2.2.1)) (fun hHeld=> ?_);clear hK K
 try simp only [KZ,K0,K1,Act.put,Qr,Ln,Lo]
 refine L7 32 (fun K hK=> ?_);go_wp2_with fail;refine (uk 5 base S.q.bf S.lf W4 (HZ.I.1.ae.below HZ.I.2.2.1) HZ.I.2.1.cb HZ.I.2.1.DW).mono ?_;rintro e W5 ⟨a5,c5,rfl,hown,hb⟩;have Ik:Hid (nU W4.heap.size W5.heap.size (blk a5)∧W4.heap.size≤W5.heap.size):=⟨px hown,hb.size⟩
 have HY:Hid (W5.ownsRow W0.heap.size 44 12 (s_ a1 (S.lp.map (·.1)).length c1) (S.lp.map (·.1)).length (bg.flat (S.lp.map (·.1)))∧W5.ownsRow W1.heap.size 59 3 (s_ a2 (S.ls.map (·.1)).length c2) (S.ls.map (·.1)).length (dm.flat (S.ls.map (·.1)))∧W5.ownsRow W2.heap.size 122 2 (s_ a3 (S.le.map (·.1)).length c3) (S.le.map (·.1)).length (bJ.flat (S.le.map (·.1)))∧W5.ownsRow W3.heap.size 126 3 (s_ a4 (S.lb.map (·.1)).length c4) (S.lb.map (·.1)).length (bG.flat (S.lb.map (·.1)))∧W5.ownsRow W4.heap.size 114 3 (s_ a5 (S.lf.map (·.1)).length c5) (S.lf.map (·.1)).length (bm.flat (S.lf.map (·.1)))∧W0.heap.size≤W1.heap.size∧W1.heap.size≤W2.heap.size∧W2.heap.size≤W3.heap.size∧W3.heap.size≤W4.heap.size∧W4.heap.size≤W5.heap.size):=⟨cR HR.I.1 hb,cR HR.I.2.1 hb,cR HR.I.2.2.1 hb,cR HR.I.2.2.2.1 hb,hown,HR.I.2.2.2.2.1,HR.I.2.2.2.2.2.1,HR.I.2.2.2.2.2.2.1,HR.I.2.2.2.2.2.2.2,hb.size⟩
 clear HR;have HR:=HY;clear HY;have iP:Hid (cJ w base o S∧S.Fits∧B_ w.heap.size w W5∧W5.heap[w.heap.size]? =o_ (c_ ar 36)∧w.heap.size < W0.heap.size):=⟨HZ.I.1,HZ.I.2.1,HZ.I.2.2.1.trans (hb.mono HZ.I.2.2.1.size),(hb.block _ (J2.1 HZ.I.2.2.2.1).1).trans HZ.I.2.2.2.1,HZ.I.2.2.2.2⟩
 clear HZ hown hb;have HZ:=iP;clear iP hHeld;refine hK.out _ _ (kP (HZ.I.1.opn.below HZ.I.2.2.1)) (fun hHeld=> ?_);clear hK K
 try simp only [KZ,K0,K1,Act.put,Qr,Ln,Lo]
 refine L7 37 (fun K hK=> ?_);go_wp2_with fail;refine (zf 5 base S.q.bq S.lq W5 (HZ.I.1.ai.below HZ.I.2.2.1) HZ.I.2.1.dH HZ.I.2.1.Jz).mono ?_;rintro e W6 ⟨a6,c6,rfl,hown,hb⟩;have Jw:Hid (nU W5.heap.size W6.heap.size (blk a6)∧W5.heap.size≤W6.heap.size):=⟨px hown,hb.size⟩
 have HY:Hid (W6.ownsRow W0.heap.size 44 12 (s_ a1 (S.lp.map (·.1)).length c1) (S.lp.map (·.1)).length (bg.flat (S.lp.map (·.1)))∧W6.ownsRow W1.heap.size 59 3 (s_ a2 (S.ls.map (·.1)).length c2) (S.ls.map (·.1)).length (dm.flat (S.ls.map (·.1)))∧W6.ownsRow W2.heap.size 122 2 (s_ a3 (S.le.map (·.1)).length c3) (S.le.map (·.1)).length (bJ.flat (S.le.map (·.1)))∧W6.ownsRow W3.heap.size 126 3 (s_ a4 (S.lb.map (·.1)).length c4) (S.lb.map (·.1)).length (bG.flat (S.lb.map (·.1)))∧W6.ownsRow W4.heap.size 114 3 (s_ a5 (S.lf.map (·.1)).length c5) (S.lf.map (·.1)).length (bm.flat (S.lf.map (·.1)))∧W6.ownsRow W5.heap.size 132 5 (s_ a6 (S.lq.map (·.1)).length c6) (S.lq.map (·.1)).length (bX.flat (S.lq.map (·.1)))∧W0.heap.size≤W1.heap.size∧W1.heap.size≤W2.heap.size∧W2.heap.size≤W3.heap.size∧W3.heap.size≤W4.heap.size∧W4.heap.size≤W5.heap.size∧W5.heap.size≤W6.heap.size):=⟨cR HR.I.1 hb,cR HR.I.2.1 hb,cR HR.I.2.2.1 hb,cR HR.I.2.2.2.1 hb,cR HR.I.2.2.2.2.1 hb,hown,HR.I.2.2.2.2.2.1,HR.I.2.2.2.2.2.2.1,HR.I.2.2.2.2.2.2.2.1,HR.I.2.2.2.2.2.2.2.2.1,HR.I.2.2.2.2.2.2.2.2.2,hb.size⟩
 clear HR;have HR:=HY;clear HY;have iP:Hid (cJ w base o S∧S.Fits∧B_ w.heap.size w W6∧W6.heap[w.heap.size]? =o_ (c_ ar 36)∧w.heap.size < W0.heap.size):=⟨HZ.I.1,HZ.I.2.1,HZ.I.2.2.1.trans (hb.mono HZ.I.2.2.1.size),(hb.block _ (J2.1 HZ.I.2.2.2.1).1).trans HZ.I.2.2.2.1,HZ.I.2.2.2.2⟩
 clear HZ hown hb;have HZ:=iP;clear iP hHeld;refine hK.out _ _ (kP (HZ.I.1.opn.below HZ.I.2.2.1)) (fun hHeld=> ?_);clear hK K
 try simp only [KZ,K0,K1,Act.put,Qr,Ln,Lo]
 refine wpAnyH_take (i:=38) (v:=a_ #[i_ j_ S.q.id,i_ j_ S.q.next,s_ a1 S.lp.length c1,s_ a2 S.ls.length c2,s_ a3 S.le.length c3,s_ a4 S.lb.length c4,s_ a5 S.lf.length c5,s_ a6 S.lq.length c6]) rfl ZcI ZcI ZcI (fun _ _ _ h=>h) (Or.inl ⟨by kernel_rfl,?_⟩) hHeld ?_
 ·intro w0 hS0
  exact Fd
 simp only [KZ,K0,K1,Act.put,Qr,Ln,Lo];refine L7 39 (fun K hK=> ?_);refine qd _ _ _ rfl w.heap.size _ _ #[i_ j_ S.q.id,i_ j_ S.q.next,s_ a1 S.lp.length c1,s_ a2 S.ls.length c2,s_ a3 S.le.length c3,s_ a4 S.lb.length c4,s_ a5 S.lf.length c5,s_ a6 S.lq.length c6] rfl rfl HZ.I.2.2.2.1 ZcI rfl ZcT ?_;have p7:o < w.heap.size:=(J2.1 HZ.I.1.opn).1;have hbs:B_ w.heap.size w (W6.setRow w.heap.size #[i_ j_ S.q.id,i_ j_ S.q.next,s_ a1 S.lp.length c1,s_ a2 S.ls.length c2,s_ a3 S.le.length c3,s_ a4 S.lb.length c4,s_ a5 S.lf.length c5,s_ a6 S.lq.length c6]):=q_ HZ.I.2.2.1 (Ki _) _;refine hK.out _ _ (kP (HZ.I.1.opn.below hbs)) (fun hHeld=> ?_);clear hK K hHeld;refine wpAnyH_done ZcI ?_ _
 repeat (first | go_values | go_skip | go_guarded | go_step | go_upon)
 refine gZ results26 HZ.I.2.2.2.1 ?_;have hA:=HZ.I.1;have kj:=HZ.I.2.2.1;have hlo:=hA.low;have hw0:=HZ.I.2.2.2.2;have t1:=wm.I.2;have t2:=xD.I.2;have t3:=Fz.I.2;have t4:=FA.I.2;have t5:=Ik.I.2;have t6:=Jw.I.2;have hmP: ∀ q∈S.lp,aR.cO W6 base q.1:=fun q hq=>(hA.eI q hq).same fun g hk=>kj.block g ((hA.eI q hq).lt hk).2
 have hmF: ∀ q∈S.lf,aC.cO W6 base q.1:=fun q hq=>(hA.eE q hq).same fun g hk=>kj.block g ((hA.eE q hq).lt hk).2
 have hmQ: ∀ q∈S.lq,aU.cO W6 base q.1:=fun q hq=>(hA.eR q hq).same fun g hk=>kj.block g ((hA.eR q hq).lt hk).2
 have hkn:S.kids.Nodup:=(Kf.1 (Lp.1 hA.nodup).2).2.1;have hkl: ∀ g∈S.kids,g < w.heap.size:=fun g hg=>by
  simp only [aZ.kids,Kg,kids,Lq] at hg;rcases hg with ⟨q,hq,hk⟩ | ⟨q,hq,hk⟩ | ⟨q,hq,hk⟩
  ·exact ((hA.eI q hq).lt hk).2
  ·exact ((hA.eE q hq).lt hk).2
  ·exact ((hA.eR q hq).lt hk).2
 have VU:(S.lp.map (·.1)).filterMap aR.bt=kids aR S.lp:=by rw [List.filterMap_map]; rfl
 have eF:(S.lf.map (·.1)).filterMap aC.bt=kids aC S.lf:=by rw [List.filterMap_map]; rfl
 have eQ:(S.lq.map (·.1)).filterMap aU.bt=kids aU S.lq:=by rw [List.filterMap_map]; rfl
 have hown:ap W6 base (⟨S.q.id,S.q.next,S.lp.map (·.1),a1,c1,S.ls.map (·.1),a2,c2,S.le.map (·.1),a3,c3,S.lb.map (·.1),a4,c4,S.lf.map (·.1),a5,c5,S.lq.map (·.1),a6,c6⟩:af):=by
  refine ⟨cq HR.I.1 (by omega),cq HR.I.2.1 (by omega),cq HR.I.2.2.1 (by omega),cq HR.I.2.2.2.1 (by omega),cq HR.I.2.2.2.2.1 (by omega),cq HR.I.2.2.2.2.2.1 (by omega),?_,?_,?_,?_⟩
  ·intro x hx
   obtain ⟨q,hq,rfl⟩:=Lr.1 hx;exact hmP q hq
  ·intro x hx
   obtain ⟨q,hq,rfl⟩:=Lr.1 hx;exact hmF q hq
  ·intro x hx
   obtain ⟨q,hq,rfl⟩:=Lr.1 hx;exact hmQ q hq
  ·simp only [af.Mc,VU,eF,eQ]
   exact Dv (N:=W0.heap.size) hkn (fun g hg=>by have:=hkl g hg; omega) wm.I.1 xD.I.1 Fz.I.1 FA.I.1 Ik.I.1 Jw.I.1 ⟨t1,t2,t3,t4,t5,t6⟩
 have hnk: ∀ g∈(⟨S.q.id,S.q.next,S.lp.map (·.1),a1,c1,S.ls.map (·.1),a2,c2,S.le.map (·.1),a3,c3,S.lb.map (·.1),a4,c4,S.lf.map (·.1),a5,c5,S.lq.map (·.1),a6,c6⟩:af).Mc,g∈S.kids∨w.heap.size < g:=fun g hg=>by
  simp only [af.Mc,VU,eF,eQ,Kg] at hg;have hk: ∀ g,(g∈kids aR S.lp∨g∈kids aC S.lf∨g∈kids aU S.lq)→g∈S.kids:=fun g h5=>by simp only [aZ.kids,Kg]; exact h5
  rcases hg with hg | hg | hg | hg | hg | hg | hg | hg | hg
  ·exact .inr (by have:=(wm.I.1.2 g hg).1; omega)
  ·exact .inl (hk g (.inl hg))
  ·exact .inr (by have:=(xD.I.1.2 g hg).1; omega)
  ·exact .inr (by have:=(Fz.I.1.2 g hg).1; omega)
  ·exact .inr (by have:=(FA.I.1.2 g hg).1; omega)
  ·exact .inr (by have:=(Ik.I.1.2 g hg).1; omega)
  ·exact .inl (hk g (.inr (.inl hg)))
  ·exact .inr (by have:=(Jw.I.1.2 g hg).1; omega)
  ·exact .inl (hk g (.inr (.inr hg)))
 have hne: ∀ g∈(⟨S.q.id,S.q.next,S.lp.map (·.1),a1,c1,S.ls.map (·.1),a2,c2,S.le.map (·.1),a3,c3,S.lb.map (·.1),a4,c4,S.lf.map (·.1),a5,c5,S.lq.map (·.1),a6,c6⟩:af).Mc,g≠w.heap.size:=fun g hg e=>by
  rcases hnk g hg with h5 | h5
  ·have:=hkl g h5; omega
  ·omega
 exact ⟨(⟨S.q.id,S.q.next,S.lp.map (·.1),a1,c1,S.ls.map (·.1),a2,c2,S.le.map (·.1),a3,c3,S.lb.map (·.1),a4,c4,S.lf.map (·.1),a5,c5,S.lq.map (·.1),a6,c6⟩:af),by simp [af.cells],hown.same fun g hg=>KH _ _ _ _ (hne g hg),by simp [af.pure,aZ.pure,Ls],hbs,fun g hg=>(hnk g hg).imp_right Nat.le_of_lt⟩
theorem jR (o base:Nat) (S:aZ) (w:w_) (h:cJ w base o S) (hf:S.Fits):k_ J3 26 #[p_ (o_ ⟨o,0,n_⟩)] w fun e w'=>Hc w base S.pure e w':=
 (ZZ o base S w h hf).mono fun _ _ ⟨r,h1,h2,h3,h4,_⟩=>⟨r,h1,h2,h3,h4⟩
end
section
open Go.RowKit
attribute [local go_sem ↓] Kc Kd
abbrev afB (q:af):List Nat:=blk q.am ++ (q.ae.filterMap aC.bt ++ (blk q.aK ++ (q.ai.filterMap aU.bt)))
abbrev afC (q:af):List Nat:=blk q.ax ++ (blk q.am ++ (q.ae.filterMap aC.bt ++ (blk q.aK ++ (q.ai.filterMap aU.bt))))
abbrev afw (q:af):List Nat:=blk q.ay ++ (blk q.ax ++ (blk q.am ++ (q.ae.filterMap aC.bt ++ (blk q.aK ++ (q.ai.filterMap aU.bt)))))
abbrev afo (q:af):List Nat:=blk q.bc ++ (blk q.ay ++ (blk q.ax ++ (blk q.am ++ (q.ae.filterMap aC.bt ++ (blk q.aK ++ (q.ai.filterMap aU.bt))))))
theorem ap.As {w w':w_} {base:Nat} {q:af} {l:List ao} (h:ap w base q) (ho:w'.ownsRow base 44 12 (s_ q.aN q.L8.length q.aW) q.L8.length (bg.flat l)) (hl:l.length=q.L8.length) (hm: ∀ y∈l,aR.cO w' base y) (hki:l.filterMap aR.bt=q.L8.filterMap aR.bt) (hk:aI w w' (blk q.aN ++ q.L8.filterMap aR.bt)):
  ap w' base ({ q with L8:=l } :af)∧({ q with L8:=l } :af).Mc=q.Mc:=by
 have hbs:q.Mc= [] ++ ((blk q.aN ++ q.L8.filterMap aR.bt) ++ (afo q)):=by simp [af.Mc,Lm]
 have rN:({ q with L8:=l } :af).Mc=q.Mc:=by simp only [af.Mc,hki]
 have hnd:=h.nodup;rw [hbs] at hnd;have nc: ∀ g,(g∈ [] ∨g∈(afo q))→g∉(blk q.aN ++ q.L8.filterMap aR.bt):=fun g bR hA=>by
  exact F_
 have hs: ∀ g,(g∈ [] ∨g∈(afo q))→w'.heap[g]? =w.heap[g]? :=fun g bR=>hk.same g (h.lt g (by
  rw [hbs];rcases bR with bR | bR
  ·exact Lz _ bR
  ·exact Ly _ (Ly _ bR))).2 (nc g bR)
 refine ⟨⟨ZdE,aL h.aj fun g bR=>hs g (.inr ZcM),aL h.L9 fun g bR=>hs g (.inr ZcM),aL h.ag fun g bR=>hs g (.inr ZcM),aL h.ae fun g bR=>hs g (.inr ZcM),aL h.ai fun g bR=>hs g (.inr ZcM),hm,fun y hy=>(h.eE y hy).same fun g hk=>hs g (.inr ZcK),fun y hy=>(h.eR y hy).same fun g hk=>hs g (.inr ZcK),?_⟩,rN⟩;rw [rN];exact h.nodup
theorem ap.DT {w w':w_} {base:Nat} {q:af} {l:List bD} (h:ap w base q) (ho:w'.ownsRow base 59 3 (s_ q.bc q.aj.length q.bF) q.aj.length (dm.flat l)) (hl:l.length=q.aj.length) (hk:aI w w' (blk q.bc)):
  ap w' base ({ q with aj:=l } :af)∧({ q with aj:=l } :af).Mc=q.Mc:=by
 have hbs:q.Mc=(blk q.aN ++ q.L8.filterMap aR.bt) ++ ((blk q.bc) ++ (afw q)):=by simp [af.Mc,Lm]
 have rN:({ q with aj:=l } :af).Mc=q.Mc:=by rfl
 have hnd:=h.nodup;rw [hbs] at hnd;have nc: ∀ g,(g∈(blk q.aN ++ q.L8.filterMap aR.bt)∨g∈(afw q))→g∉(blk q.bc):=fun g bR hA=>by
  exact F_
 have hs: ∀ g,(g∈(blk q.aN ++ q.L8.filterMap aR.bt)∨g∈(afw q))→w'.heap[g]? =w.heap[g]? :=fun g bR=>hk.same g (h.lt g (by
  rw [hbs];rcases bR with bR | bR
  ·exact Lz _ bR
  ·exact Ly _ (Ly _ bR))).2 (nc g bR)
 refine ⟨⟨aL h.L8 fun g bR=>hs g (.inl ZcM),ZdE,aL h.L9 fun g bR=>hs g (.inr ZcM),aL h.ag fun g bR=>hs g (.inr ZcM),aL h.ae fun g bR=>hs g (.inr ZcM),aL h.ai fun g bR=>hs g (.inr ZcM),fun y hy=>(h.eI y hy).same fun g hk=>hs g (.inl ZcK),fun y hy=>(h.eE y hy).same fun g hk=>hs g (.inr ZcK),fun y hy=>(h.eR y hy).same fun g hk=>hs g (.inr ZcK),?_⟩,rN⟩;rw [rN];exact h.nodup
theorem ap.xA {w w':w_} {base:Nat} {q:af} {l:List aB} (h:ap w base q) (ho:w'.ownsRow base 122 2 (s_ q.ay q.L9.length q.aO) q.L9.length (bJ.flat l)) (hl:l.length=q.L9.length) (hk:aI w w' (blk q.ay)):
  ap w' base ({ q with L9:=l } :af)∧({ q with L9:=l } :af).Mc=q.Mc:=by
 have hbs:q.Mc=(blk q.aN ++ q.L8.filterMap aR.bt ++ blk q.bc) ++ ((blk q.ay) ++ (afC q)):=by simp [af.Mc,Lm]
 have rN:({ q with L9:=l } :af).Mc=q.Mc:=by rfl
 have hnd:=h.nodup;rw [hbs] at hnd;have nc: ∀ g,(g∈(blk q.aN ++ q.L8.filterMap aR.bt ++ blk q.bc)∨g∈(afC q))→g∉(blk q.ay):=fun g bR hA=>by
  exact F_
 have hs: ∀ g,(g∈(blk q.aN ++ q.L8.filterMap aR.bt ++ blk q.bc)∨g∈(afC q))→w'.heap[g]? =w.heap[g]? :=fun g bR=>hk.same g (h.lt g (by
  rw [hbs];rcases bR with bR | bR
  ·exact Lz _ bR
  ·exact Ly _ (Ly _ bR))).2 (nc g bR)
 refine ⟨⟨aL h.L8 fun g bR=>hs g (.inl ZcM),aL h.aj fun g bR=>hs g (.inl ZcM),ZdE,aL h.ag fun g bR=>hs g (.inr ZcM),aL h.ae fun g bR=>hs g (.inr ZcM),aL h.ai fun g bR=>hs g (.inr ZcM),fun y hy=>(h.eI y hy).same fun g hk=>hs g (.inl ZcK),fun y hy=>(h.eE y hy).same fun g hk=>hs g (.inr ZcK),fun y hy=>(h.eR y hy).same fun g hk=>hs g (.inr ZcK),?_⟩,rN⟩;rw [rN];exact h.nodup
theorem ap.xM {w w':w_} {base:Nat} {q:af} {l:List az} (h:ap w base q) (ho:w'.ownsRow base 126 3 (s_ q.ax q.ag.length q.aP) q.ag.length (bG.flat l)) (hl:l.length=q.ag.length) (hk:aI w w' (blk q.ax)):
  ap w' base ({ q with ag:=l } :af)∧({ q with ag:=l } :af).Mc=q.Mc:=by
 have hbs:q.Mc=(blk q.aN ++ q.L8.filterMap aR.bt ++ blk q.bc ++ blk q.ay) ++ ((blk q.ax) ++ (afB q)):=by simp [af.Mc,Lm]
 have rN:({ q with ag:=l } :af).Mc=q.Mc:=by rfl
 have hnd:=h.nodup;rw [hbs] at hnd;have nc: ∀ g,(g∈(blk q.aN ++ q.L8.filterMap aR.bt ++ blk q.bc ++ blk q.ay)∨g∈(afB q))→g∉(blk q.ax):=fun g bR hA=>by
  exact F_
 have hs: ∀ g,(g∈(blk q.aN ++ q.L8.filterMap aR.bt ++ blk q.bc ++ blk q.ay)∨g∈(afB q))→w'.heap[g]? =w.heap[g]? :=fun g bR=>hk.same g (h.lt g (by
  rw [hbs];rcases bR with bR | bR
  ·exact Lz _ bR
  ·exact Ly _ (Ly _ bR))).2 (nc g bR)
 refine ⟨⟨aL h.L8 fun g bR=>hs g (.inl ZcM),aL h.aj fun g bR=>hs g (.inl ZcM),aL h.L9 fun g bR=>hs g (.inl ZcM),ZdE,aL h.ae fun g bR=>hs g (.inr ZcM),aL h.ai fun g bR=>hs g (.inr ZcM),fun y hy=>(h.eI y hy).same fun g hk=>hs g (.inl ZcK),fun y hy=>(h.eE y hy).same fun g hk=>hs g (.inr ZcK),fun y hy=>(h.eR y hy).same fun g hk=>hs g (.inr ZcK),?_⟩,rN⟩;rw [rN];exact h.nodup
def CY (p:af) (B:Nat) (b0 d0 b1 d1 b2 d2 b3 e:Bool) (g0 g1 g2 o:Nat) (a0 a1 a2:Option d_) (c0 c1 c2:Nat):Act:=⟨#[a_ #[i_ j_ p.id,i_ j_ p.next,s_ p.aN p.L8.length p.aW,s_ p.bc p.aj.length p.bF,s_ p.ay p.L9.length p.aO,s_ p.ax p.ag.length p.aP,s_ p.am p.ae.length p.aG,s_ p.aK p.ai.length p.aV],p_ (o_ ⟨B,0,n_⟩),p_ (o_ ⟨(B+1),0,n_⟩),bif b3 then p_ (o_ ⟨o,0,n_⟩) else undef,undef,undef,undef,undef,undef,undef,p_ (o_ ⟨B,0,n_⟩),i_ j_ p.id,p_ (o_ ⟨B,1,n_⟩),i_ j_ p.next,bif b0 then s_ (o_ ⟨g0,0,n_⟩) 0 0 else undef,p_ (o_ ⟨B,3,n_⟩),s_ p.bc p.aj.length p.bF,bif d0 then s_ a0 p.aj.length c0 else undef,bif b1 then s_ (o_ ⟨g1,0,n_⟩) 0 0 else undef,p_ (o_ ⟨B,4,n_⟩),s_ p.ay p.L9.length p.aO,bif d1 then s_ a1 p.L9.length c1 else undef,bif b2 then s_ (o_ ⟨g2,0,n_⟩) 0 0 else undef,p_ (o_ ⟨B,5,n_⟩),s_ p.ax p.ag.length p.aP,bif d2 then s_ a2 p.ag.length c2 else undef,bif e then a_ #[i_ j_ p.id,i_ j_ p.next,s_ n_ 0 0,s_ a0 p.aj.length c0,s_ a1 p.L9.length c1,s_ a2 p.ag.length c2,s_ n_ 0 0,s_ n_ 0 0] else undef,undef,undef,undef,undef,undef,undef,undef,undef,undef,undef,undef,undef,undef,undef,undef,undef,undef,undef,undef,undef,undef,undef,undef,undef,undef,undef,undef,undef,undef,undef,undef,undef,undef,undef,undef,undef,undef,undef,undef,undef,undef,undef,undef,undef,undef,undef,undef,undef,undef,undef,undef,undef,undef,undef,undef,undef,undef,undef,undef,undef,undef,undef,undef,undef,undef,undef,undef,undef,undef,undef],[]⟩
def IP (p:af) (We:w_) (l:Array Bool) (a:Act) (w:w_):Prop:= ∃ (b0 d0 b1 d1 b2 d2 b3 d3 e:Bool) (g0 g1 g2 o:Nat) (a0 a1 a2:Option d_) (c0 c1 c2:Nat),l= #[true,true,true,true,b0,true,true,d0,b1,true,true,d1,b2,true,true,d2,e,b3,d3] ∧a=CY p We.heap.size b0 d0 b1 d1 b2 d2 b3 e g0 g1 g2 o a0 a1 a2 c0 c1 c2∧fI p We w b0 d0 b1 d1 b2 d2 b3 d3 e g0 g1 g2 o a0 a1 a2 c0 c1 c2
abbrev pcA (x:ao) (a2:Option d_) (c2:Nat):Array v_:= #[i_ j_ x.id,i_ j_ x.RX,s_ a2 x.prog.length c2,i_ j_ x.Md,i_ j_ x.pc,i_ j_ x.left,i_ j_ x.Mg,i_ j_ x.on,t_ x.held,t_ x.got,i_ j_ x.code,i_ j_ x.RU]
abbrev pcB (x:aM) (a2:Option d_) (c2:Nat):Array v_:= #[i_ j_ x.id,b_ x.I,b_ x.Mf,i_ j_ x.max,s_ a2 x.Ma.length c2]
structure cL (p:af) (We w:w_) (o:Nat) (q:af):Prop where
 cd:B_ We.heap.size We w
 part:av w We.heap.size p
 ret:w.heap[We.heap.size+1]? =o_ (c_ ar 36)
 I:av w o q
 own:ap w (We.heap.size+2) q
 low:We.heap.size+2≤o
 free:o∉q.Mc
theorem cL.below {p:af} {We w w':w_} {o:Nat} {q:af} (h:cL p We w o q) (hb:B_ w.heap.size w w'):cL p We w' o q:=
 ⟨h.cd.trans (hb.mono h.cd.size),h.part.below hb,(hb.block _ (J2.1 h.ret).1).trans h.ret,h.I.below hb,h.own.below hb,h.low,h.free⟩
theorem cL.start {p:af} {We w:w_} {g0 g1 g2 o:Nat} {a0 a1 a2:Option d_} {c0 c1 c2:Nat} (h:fI p We w true true true true true true true true true g0 g1 g2 o a0 a1 a2 c0 c1 c2):
  cL p We w o ⟨p.id,p.next,[],n_,0,p.aj,a0,c0,p.L9,a1,c1,p.ag,a2,c2,[],n_,0,[],n_,0⟩:=by
 have hap:=h.pR.apart;refine ⟨h.cd,h.part,h.ret,h.I rfl,⟨Ke _ _ _ _,h.s0.done rfl,h.s1.done rfl,h.s2.done rfl,Ke _ _ _ _,Ke _ _ _ _,(fun x hx=>by cases hx),(fun x hx=>by cases hx),(fun x hx=>by cases hx),?_⟩,(h.pR.xy 3 o ZdL).1,?_⟩
 ·have e:af.Mc ⟨p.id,p.next,[],n_,0,p.aj,a0,c0,p.L9,a1,c1,p.ag,a2,c2,[],n_,0,[],n_,0⟩=blk a0 ++ (blk a1 ++ blk a2):=by simp [af.Mc,blk]
  rw [e];simp only [Kf,Kg];refine ⟨fN _,⟨fN _,fN _,fun a ha b hb e=> ?_⟩,fun a ha b hb e=> ?_⟩
  ·subst e
   exact hap 1 2 (by decide) a ZdK Zc3
  ·subst e
   rcases hb with hb | hb
   ·exact hap 0 1 (by decide) a ZdK Zc3
   ·exact hap 0 2 (by decide) a ZdK Zc3
 ·have e:af.Mc ⟨p.id,p.next,[],n_,0,p.aj,a0,c0,p.L9,a1,c1,p.ag,a2,c2,[],n_,0,[],n_,0⟩=blk a0 ++ (blk a1 ++ blk a2):=by simp [af.Mc,blk]
  rw [e];simp only [Kg];rintro (hb | hb | hb)
  ·exact hap 3 0 (by decide) o ZdL Zc3
  ·exact hap 3 1 (by decide) o ZdL Zc3
  ·exact hap 3 2 (by decide) o ZdL Zc3
theorem di {a:Option d_} {n c g:Nat} (h:(Value.slice a n c).ownBlock=o_ g):g∈blk a:=by
 cases a with
 | none=>simp [Value.ownBlock] at h
 | some ad=>simp [Value.ownBlock] at h; simp [blk,h]
theorem aH {w:w_} {o i g:Nat} {v:v_} (h:g≠o):(w.setCell ⟨o,i,n_⟩ v).heap[g]? =w.heap[g]? :=de [v] h
theorem cx {w:w_} {o i:Nat} {v:v_} {cs:Array v_} {t:T_} (h:w.heap[o]? =o_ (c_ cs t)):(w.setCell ⟨o,i,n_⟩ v).heap[o]? =o_ (c_ (cs.setIfInBounds i v) t):=jc [v] h
theorem bP {B o i:Nat} {w0 w:w_} {v:v_} (h:B_ B w0 w) (hb:B≤o):B_ B w0 (w.setCell ⟨o,i,n_⟩ v):=
 ⟨h.os,h.tape,h.output,by have:=h.size; rw [show (w.setCell ⟨o,i,n_⟩ v).heap.size=w.heap.size from fH [v]]; exact this,fun k hk=>(aH (by omega)).trans (h.block k hk)⟩
theorem IV {p q:af} {k:Nat} (h:q.pure= { p.pure with L8:=p.pure.L8.take k,ae:= [],ai:= [] }) (hk:k≤p.L8.length):q.L8.length=k:=by
 have h5:=congrArg (fun z=>(aE.L8 z).length) h;simp [af.pure] at h5;omega
theorem Fs {p q:af} {k:Nat} (h:q.pure= { p.pure with ae:=p.pure.ae.take k,ai:= [] }) (hk:k≤p.ae.length):q.ae.length=k:=by
 have h5:=congrArg (fun z=>(aE.ae z).length) h;simp [af.pure] at h5;omega
theorem I0 {p q:af} {k:Nat} (h:q.pure= { p.pure with ai:=p.pure.ai.take k }) (hk:k≤p.ai.length):q.ai.length=k:=by
 have h5:=congrArg (fun z=>(aE.ai z).length) h;simp [af.pure] at h5;omega
theorem cL.yg {p:af} {We w w':w_} {o:Nat} {q:af} {x:ao} {a:Option d_} {c:Nat} (h:cL p We w o q) (hm:aR.cO w (We.heap.size+2) x) (hx: ∀ g,aR.bt x=o_ g→g∉q.Mc∧g≠o)
  (ho:w'.ownsRow (We.heap.size+2) 44 12 (s_ a (q.L8.length+1) c) (q.L8.length+1) (bg.flat (q.L8 ++ [x]))) (hg:w.grownBy w' ((Value.slice q.aN q.L8.length q.aW).ownBlock)) (hb: ∀ g∈blk a,g∈blk q.aN∨g=w.heap.size):
  cL p We (w'.setCell ⟨o,2,n_⟩ (s_ a (q.L8.length+1) c)) o ({ q with L8:=q.L8 ++ [x],aN:=a,aW:=c } :af):=by
 have p7:o < w.heap.size:=(J2.1 h.I).1;have hrow: ∀ g,g < w.heap.size→g∉blk q.aN→w'.heap[g]? =w.heap[g]? :=fun g hgl hn=>hg.block g hgl fun e=>hn (di e.symm)
 obtain ⟨hown,hbl⟩:=h.own.yg hm (fun g hk=>(hx g hk).1) ho hrow hb;have hoA:o∉blk q.aN:=fun hm'=>h.free (by simp [af.Mc,hm'])
 have hlow: ∀ g,g∈blk q.aN→We.heap.size+2≤g:=fun g hg'=>(cf h.own.L8 hg').1
 have hfree:o∉({ q with L8:=q.L8 ++ [x],aN:=a,aW:=c } :af).Mc:=fun hm'=>by
  exact ZaQ
 have hsc: ∀ g,g≠o→(w'.setCell ⟨o,2,n_⟩ (s_ a (q.L8.length+1) c)).heap[g]? =w'.heap[g]? :=fun g hne=>aH hne
 have lY:B_ We.heap.size We w':=h.cd.grown hg (by have:=h.low; omega) (fun k hk=>by have:=hlow k (di hk); omega);have hout:w'.heap[o]? =w.heap[o]? :=hrow o p7 hoA;have hlo:=h.low;refine ⟨bP lY (by omega),(hsc _ (by omega)).trans ((hrow _ (by omega) fun hm'=>by have:=hlow _ hm'; omega).trans h.part),(hsc _ (by omega)).trans ((hrow _ (by omega) fun hm'=>by have:=hlow _ hm'; omega).trans h.ret),?_,hown.same fun g hg'=>hsc g fun e=>hfree (e ▸ hg'),h.low,hfree⟩;have h5:=cx (i:=2) (v:=s_ a (q.L8.length+1) c) (hout.trans h.I);have e:(q.L8 ++ [x]).length=q.L8.length+1:=by simp
 unfold av;simp only [e];exact h5
def vt (wr w7:w_) (x:ao) (a2:Option d_) (c2:Nat):Prop:=w7.heap[wr.heap.size]? =o_ (c_ #[i_ j_ x.id,i_ j_ x.RX,s_ x.aY x.prog.length x.bH,i_ j_ x.Md,i_ j_ x.pc,i_ j_ x.left,i_ j_ x.Mg,i_ j_ x.on,t_ x.held,t_ x.got,i_ j_ x.code,i_ j_ x.RU] 44)∧B_ wr.heap.size wr w7∧w7.ownsRow wr.heap.size 40 4 (s_ a2 x.prog.length c2) x.prog.length (fk.flat x.prog)∧ ∀ g∈blk a2,g=wr.heap.size+1∨g=wr.heap.size+2
section
variable {p q:af} {We wr w7 pH W8 W9:w_} {o c2 c k:Nat} {x:ao} {a2 a:Option d_}
theorem cL.ago (h:cL p We wr o q) (h7:vt wr w7 x a2 c2) (e8:W8=w7.setCell ⟨wr.heap.size,2,n_⟩ (s_ a2 x.prog.length c2)):W8.cell? ⟨o,2,n_⟩=o_ (s_ q.aN q.L8.length q.aW)∧W8.cell? ⟨wr.heap.size,0,n_⟩=o_ (i_ j_ x.id)∧W8.cell? ⟨wr.heap.size,1,n_⟩=o_ (i_ j_ x.RX)∧W8.cell? ⟨wr.heap.size,2,n_⟩=o_ (s_ a2 x.prog.length c2)∧W8.cell? ⟨wr.heap.size,3,n_⟩=o_ (i_ j_ x.Md)∧W8.cell? ⟨wr.heap.size,4,n_⟩=o_ (i_ j_ x.pc)∧W8.cell? ⟨wr.heap.size,5,n_⟩=o_ (i_ j_ x.left)∧W8.cell? ⟨wr.heap.size,6,n_⟩=o_ (i_ j_ x.Mg)∧W8.cell? ⟨wr.heap.size,7,n_⟩=o_ (i_ j_ x.on)∧W8.cell? ⟨wr.heap.size,8,n_⟩=o_ (t_ x.held)∧W8.cell? ⟨wr.heap.size,9,n_⟩=o_ (t_ x.got)∧W8.cell? ⟨wr.heap.size,10,n_⟩=o_ (i_ j_ x.code)∧W8.cell? ⟨wr.heap.size,11,n_⟩=o_ (i_ j_ x.RU):=by
 subst e8;have p7:o < wr.heap.size:=(J2.1 h.I).1;have h1:=(aH (i:=2) (v:=s_ a2 x.prog.length c2) (by omega:o≠wr.heap.size)).trans (h7.2.1.block o p7);have h2:=cx (i:=2) (v:=s_ a2 x.prog.length c2) h7.1;exact ZaR
theorem cL.Hm (h7:vt wr w7 x a2 c2) (e8:W8=w7.setCell ⟨wr.heap.size,2,n_⟩ (s_ a2 x.prog.length c2)) (e9:W9=W8.alloc (c_ (pcA x a2 c2) 44)):B_ wr.heap.size wr W9∧W8.heap.size=w7.heap.size:=by
 exact ZaX
theorem cL.IH (h:cL p We wr o q) (h7:vt wr w7 x a2 c2) (e8:W8=w7.setCell ⟨wr.heap.size,2,n_⟩ (s_ a2 x.prog.length c2)) (e9:W9=W8.alloc (c_ (pcA x a2 c2) 44)):W9.ownsRow (We.heap.size+2) 44 12 (s_ q.aN q.L8.length q.aW) q.L8.length (bg.flat q.L8)∧W9.heap[w7.heap.size]? =o_ (c_ (pcA x a2 c2) 44):=by
 have kN:=cL.Hm h7 e8 e9;refine ⟨(h.below kN.1).own.L8,?_⟩;subst e9;have h5:=Kj W8 (c_ (pcA x a2 c2) 44)
 rwa [kN.2] at h5
theorem cL.upProc (h:q.pure= { p.pure with L8:=p.pure.L8.take k,ae:= [],ai:= [] }) (hx:p.L8[k]? =o_ x):({ q with L8:=q.L8 ++ [({ x with aY:=a2,bH:=c2 } :ao)],aN:=a,aW:=c } :af).pure= { p.pure with L8:=p.pure.L8.take (k+1),ae:= [],ai:= [] } :=by
 have e:p.pure.L8.take (k+1)=p.pure.L8.take k ++ [x.toaD] :=by
  rw [cj (x:=x.toaD)]
  show (p.L8.map (·.toaD))[k]? =_
  rw [Kk,hx];rfl
 rw [e];have h5:=congrArg aE.L8 h;have h6:(q.L8 ++ [({ x with aY:=a2,bH:=c2 } :ao)]).map (·.toaD)=p.pure.L8.take k ++ [x.toaD] :=by
  rw [Kl];exact congrArg (· ++ [x.toaD]) h5
 show ({ q.pure with L8:=(q.L8 ++ [({ x with aY:=a2,bH:=c2 } :ao)]).map (·.toaD) } :aE)=_
 rw [h6,h]
theorem cL.G5 (h:cL p We wr o q) (h7:vt wr w7 x a2 c2) (e8:W8=w7.setCell ⟨wr.heap.size,2,n_⟩ (s_ a2 x.prog.length c2)) (e9:W9=W8.alloc (c_ (pcA x a2 c2) 44))
  (ho:pH.ownsRow (We.heap.size+2) 44 12 (s_ a (q.L8.length+1) c) (q.L8.length+1) (bg.flat q.L8 ++ bg.vals ({ x with aY:=a2,bH:=c2 } :ao))) (hg:W9.grownBy pH ((Value.slice q.aN q.L8.length q.aW).ownBlock))
  (hb:(Value.slice a (q.L8.length+1) c).ownBlock=(Value.slice q.aN q.L8.length q.aW).ownBlock∨(Value.slice a (q.L8.length+1) c).ownBlock=o_ W9.heap.size):
  cL p We (pH.setCell ⟨o,2,n_⟩ (s_ a (q.L8.length+1) c)) o ({ q with L8:=q.L8 ++ [({ x with aY:=a2,bH:=c2 } :ao)],aN:=a,aW:=c } :af)∧pH.cell? ⟨o,2,n_⟩=o_ (s_ q.aN q.L8.length q.aW)∧pH.frozen? ⟨o,2,n_⟩=false:=by
 have p7:o < wr.heap.size:=(J2.1 h.I).1;obtain ⟨kN,hs8⟩:=cL.Hm h7 e8 e9;have h9:=h.below kN;have hlow:=h.low;have hm:aR.cO W9 (We.heap.size+2) ({ x with aY:=a2,bH:=c2 } :ao):=by
  exact I_
 have hx: ∀ g,aR.bt ({ x with aY:=a2,bH:=c2 } :ao)=o_ g→g∉q.Mc∧g≠o:=fun g hk=>by
  exact ZaB
 have hn: ∀ g∈blk a,g∈blk q.aN∨g=W9.heap.size:=fun g hg'=>by
  exact P_
 have hL:=h9.yg hm hx (by rw [bg.dc]; exact ho) hg hn;exact J_
end
theorem cL.sD {p:af} {We w w':w_} {o:Nat} {q:af} {x:au} {a:Option d_} {c:Nat} (h:cL p We w o q) (hm:aC.cO w (We.heap.size+2) x) (hx: ∀ g,aC.bt x=o_ g→g∉q.Mc∧g≠o)
  (ho:w'.ownsRow (We.heap.size+2) 114 3 (s_ a (q.ae.length+1) c) (q.ae.length+1) (bm.flat (q.ae ++ [x]))) (hg:w.grownBy w' ((Value.slice q.am q.ae.length q.aG).ownBlock)) (hb: ∀ g∈blk a,g∈blk q.am∨g=w.heap.size):
  cL p We (w'.setCell ⟨o,6,n_⟩ (s_ a (q.ae.length+1) c)) o ({ q with ae:=q.ae ++ [x],am:=a,aG:=c } :af):=by
 have p7:o < w.heap.size:=(J2.1 h.I).1;have hrow: ∀ g,g < w.heap.size→g∉blk q.am→w'.heap[g]? =w.heap[g]? :=fun g hgl hn=>hg.block g hgl fun e=>hn (di e.symm)
 obtain ⟨hown,hbl⟩:=h.own.sD hm (fun g hk=>(hx g hk).1) ho hrow hb;have hoA:o∉blk q.am:=fun hm'=>h.free (by simp [af.Mc,hm'])
 have hlow: ∀ g,g∈blk q.am→We.heap.size+2≤g:=fun g hg'=>(cf h.own.ae hg').1
 have hfree:o∉({ q with ae:=q.ae ++ [x],am:=a,aG:=c } :af).Mc:=fun hm'=>by
  exact ZaQ
 have hsc: ∀ g,g≠o→(w'.setCell ⟨o,6,n_⟩ (s_ a (q.ae.length+1) c)).heap[g]? =w'.heap[g]? :=fun g hne=>aH hne
 have lY:B_ We.heap.size We w':=h.cd.grown hg (by have:=h.low; omega) (fun k hk=>by have:=hlow k (di hk); omega);have hout:w'.heap[o]? =w.heap[o]? :=hrow o p7 hoA;have hlo:=h.low;refine ⟨bP lY (by omega),(hsc _ (by omega)).trans ((hrow _ (by omega) fun hm'=>by have:=hlow _ hm'; omega).trans h.part),(hsc _ (by omega)).trans ((hrow _ (by omega) fun hm'=>by have:=hlow _ hm'; omega).trans h.ret),?_,hown.same fun g hg'=>hsc g fun e=>hfree (e ▸ hg'),h.low,hfree⟩;have h5:=cx (i:=6) (v:=s_ a (q.ae.length+1) c) (hout.trans h.I);have e:(q.ae ++ [x]).length=q.ae.length+1:=by simp
 unfold av;simp only [e];exact h5
def o9 (wr w7:w_) (x:au) (a2:Option d_) (c2:Nat):Prop:=w7.heap[wr.heap.size]? =o_ (c_ #[i_ j_ x.id,i_ j_ x.max,s_ x.ak x.Ma.length x.aq] 114)∧B_ wr.heap.size wr w7∧w7.ownsRow wr.heap.size 9 1 (s_ a2 x.Ma.length c2) x.Ma.length (bT.flat x.Ma)∧ ∀ g∈blk a2,g=wr.heap.size+1∨g=wr.heap.size+2
section
variable {p q:af} {We wr w7 pH W8 W9:w_} {o c2 c k:Nat} {x:au} {a2 a:Option d_}
theorem cL.F9 (h:cL p We wr o q) (h7:o9 wr w7 x a2 c2) (e8:W8=w7.setCell ⟨wr.heap.size,2,n_⟩ (s_ a2 x.Ma.length c2)):W8.cell? ⟨o,6,n_⟩=o_ (s_ q.am q.ae.length q.aG)∧W8.cell? ⟨wr.heap.size,0,n_⟩=o_ (i_ j_ x.id)∧W8.cell? ⟨wr.heap.size,1,n_⟩=o_ (i_ j_ x.max)∧W8.cell? ⟨wr.heap.size,2,n_⟩=o_ (s_ a2 x.Ma.length c2):=by
 subst e8;have p7:o < wr.heap.size:=(J2.1 h.I).1;have h1:=(aH (i:=2) (v:=s_ a2 x.Ma.length c2) (by omega:o≠wr.heap.size)).trans (h7.2.1.block o p7);have h2:=cx (i:=2) (v:=s_ a2 x.Ma.length c2) h7.1;exact ZaR
theorem cL.zQ (h7:o9 wr w7 x a2 c2) (e8:W8=w7.setCell ⟨wr.heap.size,2,n_⟩ (s_ a2 x.Ma.length c2)) (e9:W9=W8.alloc (c_ #[i_ j_ x.id,i_ j_ x.max,s_ a2 x.Ma.length c2] 114)):B_ wr.heap.size wr W9∧W8.heap.size=w7.heap.size:=by
 exact ZaX
theorem cL.Fl (h:cL p We wr o q) (h7:o9 wr w7 x a2 c2) (e8:W8=w7.setCell ⟨wr.heap.size,2,n_⟩ (s_ a2 x.Ma.length c2)) (e9:W9=W8.alloc (c_ #[i_ j_ x.id,i_ j_ x.max,s_ a2 x.Ma.length c2] 114)):W9.ownsRow (We.heap.size+2) 114 3 (s_ q.am q.ae.length q.aG) q.ae.length (bm.flat q.ae)∧W9.heap[w7.heap.size]? =o_ (c_ #[i_ j_ x.id,i_ j_ x.max,s_ a2 x.Ma.length c2] 114):=by
 have kN:=cL.zQ h7 e8 e9;refine ⟨(h.below kN.1).own.ae,?_⟩;subst e9;have h5:=Kj W8 (c_ #[i_ j_ x.id,i_ j_ x.max,s_ a2 x.Ma.length c2] 114)
 rwa [kN.2] at h5
theorem cL.FY (h:q.pure= { p.pure with ae:=p.pure.ae.take k,ai:= [] }) (hx:p.ae[k]? =o_ x):({ q with ae:=q.ae ++ [({ x with ak:=a2,aq:=c2 } :au)],am:=a,aG:=c } :af).pure= { p.pure with ae:=p.pure.ae.take (k+1),ai:= [] } :=by
 have e:p.pure.ae.take (k+1)=p.pure.ae.take k ++ [x.toci] :=by
  rw [cj (x:=x.toci)]
  show (p.ae.map (·.toci))[k]? =_
  rw [Kk,hx];rfl
 rw [e];have h5:=congrArg aE.ae h;have h6:(q.ae ++ [({ x with ak:=a2,aq:=c2 } :au)]).map (·.toci)=p.pure.ae.take k ++ [x.toci] :=by
  rw [Kl];exact congrArg (· ++ [x.toci]) h5
 show ({ q.pure with ae:=(q.ae ++ [({ x with ak:=a2,aq:=c2 } :au)]).map (·.toci) } :aE)=_
 rw [h6,h]
theorem cL.Do (h:cL p We wr o q) (h7:o9 wr w7 x a2 c2) (e8:W8=w7.setCell ⟨wr.heap.size,2,n_⟩ (s_ a2 x.Ma.length c2)) (e9:W9=W8.alloc (c_ #[i_ j_ x.id,i_ j_ x.max,s_ a2 x.Ma.length c2] 114))
  (ho:pH.ownsRow (We.heap.size+2) 114 3 (s_ a (q.ae.length+1) c) (q.ae.length+1) (bm.flat q.ae ++ bm.vals ({ x with ak:=a2,aq:=c2 } :au))) (hg:W9.grownBy pH ((Value.slice q.am q.ae.length q.aG).ownBlock))
  (hb:(Value.slice a (q.ae.length+1) c).ownBlock=(Value.slice q.am q.ae.length q.aG).ownBlock∨(Value.slice a (q.ae.length+1) c).ownBlock=o_ W9.heap.size):
  cL p We (pH.setCell ⟨o,6,n_⟩ (s_ a (q.ae.length+1) c)) o ({ q with ae:=q.ae ++ [({ x with ak:=a2,aq:=c2 } :au)],am:=a,aG:=c } :af)∧pH.cell? ⟨o,6,n_⟩=o_ (s_ q.am q.ae.length q.aG)∧pH.frozen? ⟨o,6,n_⟩=false:=by
 have p7:o < wr.heap.size:=(J2.1 h.I).1;obtain ⟨kN,hs8⟩:=cL.zQ h7 e8 e9;have h9:=h.below kN;have hlow:=h.low;have hm:aC.cO W9 (We.heap.size+2) ({ x with ak:=a2,aq:=c2 } :au):=by
  exact I_
 have hx: ∀ g,aC.bt ({ x with ak:=a2,aq:=c2 } :au)=o_ g→g∉q.Mc∧g≠o:=fun g hk=>by
  exact ZaB
 have hn: ∀ g∈blk a,g∈blk q.am∨g=W9.heap.size:=fun g hg'=>by
  exact P_
 have hL:=h9.sD hm hx (by rw [bm.dc]; exact ho) hg hn;exact J_
end
theorem cL.yf {p:af} {We w w':w_} {o:Nat} {q:af} {x:aM} {a:Option d_} {c:Nat} (h:cL p We w o q) (hm:aU.cO w (We.heap.size+2) x) (hx: ∀ g,aU.bt x=o_ g→g∉q.Mc∧g≠o)
  (ho:w'.ownsRow (We.heap.size+2) 132 5 (s_ a (q.ai.length+1) c) (q.ai.length+1) (bX.flat (q.ai ++ [x]))) (hg:w.grownBy w' ((Value.slice q.aK q.ai.length q.aV).ownBlock)) (hb: ∀ g∈blk a,g∈blk q.aK∨g=w.heap.size):
  cL p We (w'.setCell ⟨o,7,n_⟩ (s_ a (q.ai.length+1) c)) o ({ q with ai:=q.ai ++ [x],aK:=a,aV:=c } :af):=by
 have p7:o < w.heap.size:=(J2.1 h.I).1;have hrow: ∀ g,g < w.heap.size→g∉blk q.aK→w'.heap[g]? =w.heap[g]? :=fun g hgl hn=>hg.block g hgl fun e=>hn (di e.symm)
 obtain ⟨hown,hbl⟩:=h.own.yf hm (fun g hk=>(hx g hk).1) ho hrow hb;have hoA:o∉blk q.aK:=fun hm'=>h.free (by simp [af.Mc,hm'])
 have hlow: ∀ g,g∈blk q.aK→We.heap.size+2≤g:=fun g hg'=>(cf h.own.ai hg').1
 have hfree:o∉({ q with ai:=q.ai ++ [x],aK:=a,aV:=c } :af).Mc:=fun hm'=>by
  exact ZaQ
 have hsc: ∀ g,g≠o→(w'.setCell ⟨o,7,n_⟩ (s_ a (q.ai.length+1) c)).heap[g]? =w'.heap[g]? :=fun g hne=>aH hne
 have lY:B_ We.heap.size We w':=h.cd.grown hg (by have:=h.low; omega) (fun k hk=>by have:=hlow k (di hk); omega);have hout:w'.heap[o]? =w.heap[o]? :=hrow o p7 hoA;have hlo:=h.low;refine ⟨bP lY (by omega),(hsc _ (by omega)).trans ((hrow _ (by omega) fun hm'=>by have:=hlow _ hm'; omega).trans h.part),(hsc _ (by omega)).trans ((hrow _ (by omega) fun hm'=>by have:=hlow _ hm'; omega).trans h.ret),?_,hown.same fun g hg'=>hsc g fun e=>hfree (e ▸ hg'),h.low,hfree⟩;have h5:=cx (i:=7) (v:=s_ a (q.ai.length+1) c) (hout.trans h.I);have e:(q.ai ++ [x]).length=q.ai.length+1:=by simp
 unfold av;simp only [e];exact h5
def uT (wr w7:w_) (x:aM) (a2:Option d_) (c2:Nat):Prop:=w7.heap[wr.heap.size]? =o_ (c_ #[i_ j_ x.id,b_ x.I,b_ x.Mf,i_ j_ x.max,s_ x.ak x.Ma.length x.aq] 132)∧B_ wr.heap.size wr w7∧w7.ownsRow wr.heap.size 9 1 (s_ a2 x.Ma.length c2) x.Ma.length (bT.flat x.Ma)∧ ∀ g∈blk a2,g=wr.heap.size+1∨g=wr.heap.size+2
section
variable {p q:af} {We wr w7 pH W8 W9:w_} {o c2 c k:Nat} {x:aM} {a2 a:Option d_}
theorem cL.agV (h:cL p We wr o q) (h7:uT wr w7 x a2 c2) (e8:W8=w7.setCell ⟨wr.heap.size,4,n_⟩ (s_ a2 x.Ma.length c2)):W8.cell? ⟨o,7,n_⟩=o_ (s_ q.aK q.ai.length q.aV)∧W8.cell? ⟨wr.heap.size,0,n_⟩=o_ (i_ j_ x.id)∧W8.cell? ⟨wr.heap.size,1,n_⟩=o_ (b_ x.I)∧W8.cell? ⟨wr.heap.size,2,n_⟩=o_ (b_ x.Mf)∧W8.cell? ⟨wr.heap.size,3,n_⟩=o_ (i_ j_ x.max)∧W8.cell? ⟨wr.heap.size,4,n_⟩=o_ (s_ a2 x.Ma.length c2):=by
 subst e8;have p7:o < wr.heap.size:=(J2.1 h.I).1;have h1:=(aH (i:=4) (v:=s_ a2 x.Ma.length c2) (by omega:o≠wr.heap.size)).trans (h7.2.1.block o p7);have h2:=cx (i:=4) (v:=s_ a2 x.Ma.length c2) h7.1;exact ZaR
theorem cL.F4 (h7:uT wr w7 x a2 c2) (e8:W8=w7.setCell ⟨wr.heap.size,4,n_⟩ (s_ a2 x.Ma.length c2)) (e9:W9=W8.alloc (c_ (pcB x a2 c2) 132)):B_ wr.heap.size wr W9∧W8.heap.size=w7.heap.size:=by
 exact ZaX
theorem cL.I4 (h:cL p We wr o q) (h7:uT wr w7 x a2 c2) (e8:W8=w7.setCell ⟨wr.heap.size,4,n_⟩ (s_ a2 x.Ma.length c2)) (e9:W9=W8.alloc (c_ (pcB x a2 c2) 132)):W9.ownsRow (We.heap.size+2) 132 5 (s_ q.aK q.ai.length q.aV) q.ai.length (bX.flat q.ai)∧W9.heap[w7.heap.size]? =o_ (c_ (pcB x a2 c2) 132):=by
 have kN:=cL.F4 h7 e8 e9;refine ⟨(h.below kN.1).own.ai,?_⟩;subst e9;have h5:=Kj W8 (c_ (pcB x a2 c2) 132)
 rwa [kN.2] at h5
theorem cL.upPort (h:q.pure= { p.pure with ai:=p.pure.ai.take k }) (hx:p.ai[k]? =o_ x):({ q with ai:=q.ai ++ [({ x with ak:=a2,aq:=c2 } :aM)],aK:=a,aV:=c } :af).pure= { p.pure with ai:=p.pure.ai.take (k+1) } :=by
 have e:p.pure.ai.take (k+1)=p.pure.ai.take k ++ [x.todS] :=by
  rw [cj (x:=x.todS)]
  show (p.ai.map (·.todS))[k]? =_
  rw [Kk,hx];rfl
 rw [e];have h5:=congrArg aE.ai h;have h6:(q.ai ++ [({ x with ak:=a2,aq:=c2 } :aM)]).map (·.todS)=p.pure.ai.take k ++ [x.todS] :=by
  rw [Kl];exact congrArg (· ++ [x.todS]) h5
 show ({ q.pure with ai:=(q.ai ++ [({ x with ak:=a2,aq:=c2 } :aM)]).map (·.todS) } :aE)=_
 rw [h6,h]
theorem cL.Gi (h:cL p We wr o q) (h7:uT wr w7 x a2 c2) (e8:W8=w7.setCell ⟨wr.heap.size,4,n_⟩ (s_ a2 x.Ma.length c2)) (e9:W9=W8.alloc (c_ (pcB x a2 c2) 132))
  (ho:pH.ownsRow (We.heap.size+2) 132 5 (s_ a (q.ai.length+1) c) (q.ai.length+1) (bX.flat q.ai ++ bX.vals ({ x with ak:=a2,aq:=c2 } :aM))) (hg:W9.grownBy pH ((Value.slice q.aK q.ai.length q.aV).ownBlock))
  (hb:(Value.slice a (q.ai.length+1) c).ownBlock=(Value.slice q.aK q.ai.length q.aV).ownBlock∨(Value.slice a (q.ai.length+1) c).ownBlock=o_ W9.heap.size):
  cL p We (pH.setCell ⟨o,7,n_⟩ (s_ a (q.ai.length+1) c)) o ({ q with ai:=q.ai ++ [({ x with ak:=a2,aq:=c2 } :aM)],aK:=a,aV:=c } :af)∧pH.cell? ⟨o,7,n_⟩=o_ (s_ q.aK q.ai.length q.aV)∧pH.frozen? ⟨o,7,n_⟩=false:=by
 have p7:o < wr.heap.size:=(J2.1 h.I).1;obtain ⟨kN,hs8⟩:=cL.F4 h7 e8 e9;have h9:=h.below kN;have hlow:=h.low;have hm:aU.cO W9 (We.heap.size+2) ({ x with ak:=a2,aq:=c2 } :aM):=by
  exact I_
 have hx: ∀ g,aU.bt ({ x with ak:=a2,aq:=c2 } :aM)=o_ g→g∉q.Mc∧g≠o:=fun g hk=>by
  exact ZaB
 have hn: ∀ g∈blk a,g∈blk q.aK∨g=W9.heap.size:=fun g hg'=>by
  exact P_
 have hL:=h9.yf hm hx (by rw [bX.dc]; exact ho) hg hn;exact J_
end
abbrev Jn (p:af) (w w':w_):Prop:=w'.cell? ⟨w.heap.size,0,n_⟩=o_ (i_ j_ p.id)∧w'.cell? ⟨w.heap.size,1,n_⟩=o_ (i_ j_ p.next)∧w'.cell? ⟨w.heap.size,3,n_⟩=o_ (s_ p.bc p.aj.length p.bF)∧w'.cell? ⟨w.heap.size,4,n_⟩=o_ (s_ p.ay p.L9.length p.aO)∧w'.cell? ⟨w.heap.size,5,n_⟩=o_ (s_ p.ax p.ag.length p.aP)
theorem fR (p:af) (w:w_) (hf:p.Fit) (hsh: ∀ x∈p.L8,x.dX) (h:af.At w p):
  k_ J3 30 #[a_ p.cells] w fun e w'=> ∃ p',e=r_ (a_ p'.cells)∧ap w' w.heap.size p'∧p'.pure=p.pure∧B_ w.heap.size w w':=by
 have HF:Hid (p.Fit∧af.At w p):=⟨hf,h⟩
 have HFS:Hid (∀ x∈p.L8,x.dX):=hsh;have HC:Hid (fI p w (((w.alloc (c_ p.row 36)).alloc (c_ ar 36))).drew false false false false false false false false false 0 0 0 0 n_ n_ n_ 0 0 0):=by
  have b1:B_ w.heap.size w ((w.alloc (c_ p.row 36)).alloc (c_ ar 36)):=((Kp _ _).alloc (Ki _) _).alloc (by simp) _;exact ⟨b1.drew,(PU (by simp)).trans (Kj _ _),Kq _ _ _,⟨(fun h=>by cases h),fun h=>by cases h⟩,⟨(fun h=>by cases h),fun h=>by cases h⟩,⟨(fun h=>by cases h),fun h=>by cases h⟩,(fun h=>by cases h),⟨(fun h=>by cases h),fun h=>by cases h⟩,(by simp),⟨fun i j _ q hq=>by rcases i with _ | _ | _ | _ | _ <;> simp [four,bM] at hq,fun i q hq=>by rcases i with _ | _ | _ | _ | _ <;> simp [four,bM] at hq⟩⟩
 have HS:Hid (Jn p w (((w.alloc (c_ p.row 36)).alloc (c_ ar 36))).drew):=by obtain ⟨m0,m1,m2,m3,m4,m5,m6,m7⟩:=HC.I.part.cells; exact ⟨m0,m1,m3,m4,m5⟩
 clear hf h hsh;unfold af.cells
 go_enter func30,ntmps30
 go_wp2_with fail;generalize (w.alloc (c_ p.row 36)).alloc (c_ ar 36)=W at *;refine Kr (S:=Jn p w) ZcI HS.I (fun hHeld=> ?_);refine tt 0 hHeld ?_;refine tt 1 hHeld ?_;refine tt 2 hHeld ?_;refine tt 3 hHeld ?_;refine tt 5 hHeld ?_;refine tt 6 hHeld ?_;refine tt 9 hHeld ?_;refine tt 10 hHeld ?_;refine tt 13 hHeld ?_;refine tt 14 hHeld ?_;refine wild (IP p w) (fun l a w1 hI=> ?_) (fun l a w1 hI i hi=> ?_) (fun l a w1 hI h0=> ?_) _ _ _ _ ⟨false,false,false,false,false,false,false,false,false,0,0,0,0,n_,n_,n_,0,0,0,by kernel_rfl,rfl,HC.I⟩ (of_decide_eq_true ZcI)
 ·obtain ⟨b0,d0,b1,d1,b2,d2,b3,d3,e,g0,g1,g2,o,a0,a1,a2,c0,c1,c2,-,-,hC⟩:=hI
  obtain ⟨m0,m1,m2,m3,m4,m5,m6,m7⟩:=hC.part.cells;exact ⟨m0,m1,m3,m4,m5⟩
 ·obtain ⟨b0,d0,b1,d1,b2,d2,b3,d3,e,g0,g1,g2,o,a0,a1,a2,c0,c1,c2,rfl,rfl,hC⟩:=hI
  have HI:Hid (fI p w w1 b0 d0 b1 d1 b2 d2 b3 d3 e g0 g1 g2 o a0 a1 a2 c0 c1 c2):=hC;clear hC;unfold CY
  match i,hi with
  | 0,hi=>exact absurd (cX hi) (by simp)
  | 1,hi=>exact absurd (cX hi) (by simp)
  | 2,hi=>exact absurd (cX hi) (by simp)
  | 3,hi=>exact absurd (cX hi) (by simp)
  | 4,hi=>
   have hb:b0=false:=by have h5:=cX hi; simpa using h5
   subst hb;refine ln (o:=_) rfl ZcI (fun K hK=> ?_);go_wp2_with fail;exact hK.out _ _ ⟨true,d0,b1,d1,b2,d2,b3,d3,e,w1.heap.size,g1,g2,o,a0,a1,a2,c0,c1,c2,by rfl,by rfl,HI.I.aaZ⟩
  | 5,hi=>exact absurd (cX hi) (by simp)
  | 6,hi=>exact absurd (cX hi) (by simp)
  | 7,hi=>
   have hb:d0=false:=by have h5:=cX hi; simpa using h5
   have hn4:b0=true:=by have h5:=hF [4,6] hi ZcI 4 (by decide); simpa using h5
   subst hb hn4;refine ln (o:=_) rfl ZcI (fun K hK=> ?_);obtain ⟨a',c',w2,hr,ho,hg,hq⟩:=Iq w1 (w.heap.size+2) g0 (HI.I.s0.made rfl rfl).1 (HI.I.s0.made rfl rfl).2 p.bc p.aj p.bF ((HF.I.2.below HI.I.cd).2.1.1) HF.I.1.short.aj HI.I.size;refine cM _ _ _ rfl _ _ _ w2 rfl rfl hr ?_;have he:e=false:=by cases e with | false=>rfl | true=>(have h5:=HI.I.cl.1 rfl; simp at h5)
   subst he;exact hK.out _ _ ⟨true,true,b1,d1,b2,d2,b3,d3,false,g0,g1,g2,o,a',a1,a2,c',c1,c2,by rfl,by rfl,HI.I.aa1 ho hg hq⟩
  | 8,hi=>
   have hb:b1=false:=by have h5:=cX hi; simpa using h5
   subst hb;refine ln (o:=_) rfl ZcI (fun K hK=> ?_);go_wp2_with fail;exact hK.out _ _ ⟨b0,d0,true,d1,b2,d2,b3,d3,e,g0,w1.heap.size,g2,o,a0,a1,a2,c0,c1,c2,by rfl,by rfl,HI.I.abg⟩
  | 9,hi=>exact absurd (cX hi) (by simp)
  | 10,hi=>exact absurd (cX hi) (by simp)
  | 11,hi=>
   have hb:d1=false:=by have h5:=cX hi; simpa using h5
   have hn8:b1=true:=by have h5:=hF [8,10,7] hi ZcI 8 (by decide); simpa using h5
   subst hb hn8;refine ln (o:=_) rfl ZcI (fun K hK=> ?_);obtain ⟨a',c',w2,hr,ho,hg,hq⟩:=Fp w1 (w.heap.size+2) g1 (HI.I.s1.made rfl rfl).1 (HI.I.s1.made rfl rfl).2 p.ay p.L9 p.aO ((HF.I.2.below HI.I.cd).2.2.1.1) HF.I.1.short.L9 HI.I.size;refine cM _ _ _ rfl _ _ _ w2 rfl rfl hr ?_;have he:e=false:=by cases e with | false=>rfl | true=>(have h5:=HI.I.cl.1 rfl; simp at h5)
   subst he;exact hK.out _ _ ⟨b0,d0,true,true,b2,d2,b3,d3,false,g0,g1,g2,o,a0,a',a2,c0,c',c2,by rfl,by rfl,HI.I.aa2 ho hg hq⟩
  | 12,hi=>
   have hb:b2=false:=by have h5:=cX hi; simpa using h5
   subst hb;refine ln (o:=_) rfl ZcI (fun K hK=> ?_);go_wp2_with fail;exact hK.out _ _ ⟨b0,d0,b1,d1,true,d2,b3,d3,e,g0,g1,w1.heap.size,o,a0,a1,a2,c0,c1,c2,by rfl,by rfl,HI.I.make2⟩
  | 13,hi=>exact absurd (cX hi) (by simp)
  | 14,hi=>exact absurd (cX hi) (by simp)
  | 15,hi=>
   have hb:d2=false:=by have h5:=cX hi; simpa using h5
   have adF:b2=true:=by have h5:=hF [12,14,11] hi ZcI 12 (by decide); simpa using h5
   subst hb adF;refine ln (o:=_) rfl ZcI (fun K hK=> ?_);obtain ⟨a',c',w2,hr,ho,hg,hq⟩:=ED w1 (w.heap.size+2) g2 (HI.I.s2.made rfl rfl).1 (HI.I.s2.made rfl rfl).2 p.ax p.ag p.aP ((HF.I.2.below HI.I.cd).2.2.2.1.1) HF.I.1.short.ag HI.I.size;refine cM _ _ _ rfl _ _ _ w2 rfl rfl hr ?_;have he:e=false:=by cases e with | false=>rfl | true=>(have h5:=HI.I.cl.1 rfl; simp at h5)
   subst he;exact hK.out _ _ ⟨b0,d0,b1,d1,true,true,b3,d3,false,g0,g1,g2,o,a0,a1,a',c0,c1,c',by rfl,by rfl,HI.I.copy2 ho hg hq⟩
  | 16,hi=>
   have hb:e=false:=by have h5:=cX hi; simpa using h5
   have hn7:d0=true:=by have h5:=hF [1,3,7,11,15] hi ZcI 7 (by decide); simpa using h5
   have hn11:d1=true:=by have h5:=hF [1,3,7,11,15] hi ZcI 11 (by decide); simpa using h5
   have hn15:d2=true:=by have h5:=hF [1,3,7,11,15] hi ZcI 15 (by decide); simpa using h5
   subst hb hn7 hn11 hn15;refine ln (o:=_) rfl ZcI (fun K hK=> ?_);go_wp2_with fail;exact hK.out _ _ ⟨b0,true,b1,true,b2,true,b3,d3,true,g0,g1,g2,o,a0,a1,a2,c0,c1,c2,by rfl,by rfl,HI.I.build rfl rfl rfl⟩
  | 17,hi=>
   have hb:b3=false:=by have h5:=cX hi; simpa using h5
   subst hb;refine ln (o:=_) rfl ZcI (fun K hK=> ?_);have hd3:d3=false:=by cases d3 with | false=>rfl | true=>(have h5:=HI.I.cl.2 rfl; simp at h5)
   subst hd3;go_wp2_with fail;exact hK.out _ _ ⟨b0,d0,b1,d1,b2,d2,true,false,e,g0,g1,g2,w1.heap.size,a0,a1,a2,c0,c1,c2,by rfl,by rfl,HI.I.aa9⟩
  | 18,hi=>
   have hb:d3=false:=by have h5:=cX hi; simpa using h5
   have hn17:b3=true:=by have h5:=hF [17,16,15,0,1,2,3,4,5,6,7,8,9,10,11,12,13,14,15,16,17] hi ZcI 17 (by decide); simpa using h5
   have hn16:e=true:=by have h5:=hF [17,16,15,0,1,2,3,4,5,6,7,8,9,10,11,12,13,14,15,16,17] hi ZcI 16 (by decide); simpa using h5
   subst hb hn17 hn16;refine ln (o:=_) rfl ZcI (fun K hK=> ?_);refine qd _ _ _ rfl o _ _ _ rfl rfl (HI.I.I rfl) ZcI rfl ZcI ?_;exact hK.out _ _ ⟨b0,d0,b1,d1,b2,d2,true,true,true,g0,g1,g2,o,a0,a1,a2,c0,c1,c2,by rfl,by rfl,HI.I.store⟩
  | n+19,hi=>exact absurd (cX hi) (by simp)
 ·obtain ⟨b0,d0,b1,d1,b2,d2,b3,d3,e,g0,g1,g2,o,a0,a1,a2,c0,c1,c2,rfl,rfl,hC⟩:=hI
  have hno: ∀ i,i∉Region.ready .any _ _:=fun i hi=>by rw [h0] at hi; cases hi
  have hb0:b0=true:=by cases hx:b0 with | true=>rfl | false=>exact absurd (jW [] ZcI ZcI Zdj (fun j hj=>by cases hj)) (hno 4)
  have hd0:d0=true:=by cases hx:d0 with | true=>rfl | false=>exact absurd (jW [4,6] ZcI ZcI Zdj (fun j hj=>by simp only [Kt,Ku,or_false] at hj; rcases hj with rfl | rfl <;> first | rfl | simp [hb0])) (hno 7)
  have hb1:b1=true:=by cases hx:b1 with | true=>rfl | false=>exact absurd (jW [] ZcI ZcI Zdj (fun j hj=>by cases hj)) (hno 8)
  have hd1:d1=true:=by cases hx:d1 with | true=>rfl | false=>exact absurd (jW [8,10,7] ZcI ZcI Zdj (fun j hj=>by simp only [Kt,Ku,or_false] at hj; rcases hj with rfl | rfl | rfl <;> first | rfl | simp [hb1,hd0])) (hno 11)
  have hb2:b2=true:=by cases hx:b2 with | true=>rfl | false=>exact absurd (jW [] ZcI ZcI Zdj (fun j hj=>by cases hj)) (hno 12)
  have hd2:d2=true:=by cases hx:d2 with | true=>rfl | false=>exact absurd (jW [12,14,11] ZcI ZcI Zdj (fun j hj=>by simp only [Kt,Ku,or_false] at hj; rcases hj with rfl | rfl | rfl <;> first | rfl | simp [hb2,hd1])) (hno 15)
  have he:e=true:=by cases hx:e with | true=>rfl | false=>exact absurd (jW [1,3,7,11,15] ZcI ZcI Zdj (fun j hj=>by simp only [Kt,Ku,or_false] at hj; rcases hj with rfl | rfl | rfl | rfl | rfl <;> first | rfl | simp [hd0,hd1,hd2])) (hno 16)
  have hb3:b3=true:=by cases hx:b3 with | true=>rfl | false=>exact absurd (jW [] ZcI ZcI Zdj (fun j hj=>by cases hj)) (hno 17)
  have hd3:d3=true:=by cases hx:d3 with | true=>rfl | false=>exact absurd (jW [17,16,15,0,1,2,3,4,5,6,7,8,9,10,11,12,13,14,15,16,17] ZcI ZcI Zdj (fun j hj=>by simp only [Kt,Ku,or_false] at hj; rcases hj with rfl | rfl | rfl | rfl | rfl | rfl | rfl | rfl | rfl | rfl | rfl | rfl | rfl | rfl | rfl | rfl | rfl | rfl | rfl | rfl | rfl <;> first | rfl | simp [hb0,hd0,hb1,hd1,hb2,hd2,he,hb3])) (hno 18)
  subst hb0 hd0 hb1 hd1 hb2 hd2 he hb3 hd3;have HI:Hid (fI p w w1 true true true true true true true true true g0 g1 g2 o a0 a1 a2 c0 c1 c2):=hC;clear hC hno h0;simp only [CY,cond_true];have HLS:Hid (cL p w w1 o ⟨p.id,p.next,[],n_,0,p.aj,a0,c0,p.L9,a1,c1,p.ag,a2,c2,[],n_,0,[],n_,0⟩):=cL.start HI.I;clear HI HC HS hHeld;obtain ⟨qE,hi',GQ⟩:=Kw.1 nb;simp only [Kx] at GQ;have HI:Hid (Tryz.prog.info? 44=o_ qE∧qE.zero=o_ _∧qE.size=12∧qE.bytes=128):=⟨hi',GQ⟩
  clear hi' GQ;have hpProc:p.L8.length≤1048576:=HF.I.1.short.L8;go_wp2_with fail
  go_loopw [4] (fun i wr=> ∃ k:Nat,k≤p.L8.length∧i=i_ j_ k∧Hid (∃ q,cL p w wr o q∧q.pure= { p.pure with L8:=p.pure.L8.take k,ae:= [],ai:= [] })) (fun i _=>p.L8.length - (Go.RowKit.intOf i).toNat)
  case atStart=>exact ⟨0,Ky _,rfl,⟨_,HLS.I,rfl⟩⟩
  case round=>
   obtain ⟨k,hk,rfl,HA⟩:=hrel;obtain ⟨q,hL,hq⟩:=HA.I;have HL:Hid (cL p w wr o q∧(q.pure= { p.pure with L8:=p.pure.L8.take k,ae:= [],ai:= [] })∧q.L8.length=k):=⟨hL,hq,IV hq hk⟩
   clear HA hL hq;have mp:wr.cell? ⟨w.heap.size,2,n_⟩=o_ (s_ p.aN p.L8.length p.aW):=by obtain ⟨m0,m1,m2,m3,m4,m5,m6,m7⟩:=HL.I.1.part.cells; exact m2
   by_cases hlt:k < p.L8.length
   ·have i0:(0:Int)≤(k:Int):=by omega
    have i1:(k:Int) < (p.L8.length:Int):=by omega
    obtain ⟨x,hx⟩: ∃ x,p.L8[k]? =o_ x:=⟨_,Kz hlt⟩
    have hAt:=HF.I.2.below HL.I.1.cd;obtain ⟨gs,ha,hat⟩:=cn hAt.1 hx;rw [ha] at mp;obtain ⟨d0,d1,d2,d3,d4,d5,d6,d7,d8,d9,tH,tS⟩:=hat;have HX:Hid (p.L8[k]? =o_ x∧Row wr x.aY (fk.flat x.prog)∧x.prog.length≤1048576):=⟨hx,hAt.1.2 x (KA hx) (x.aY,fk.flat x.prog) (KB.2 rfl),(HFS.I x (KA hx)).prog⟩
    clear hx ha hAt;have hb2:B_ wr.heap.size wr ((wr.alloc (c_ x.row 44)).alloc (c_ #[] 40)):=((Kp _ _).alloc (Ki _) _).alloc (by simp) _;obtain ⟨a2,c2,w7,hap,how,Fw,nW⟩:=Gg ((wr.alloc (c_ x.row 44)).alloc (c_ #[] 40)) wr.heap.size (wr.heap.size+1) (Kq _ _ _) (by omega) x.aY x.prog x.bH (HX.I.2.1.below hb2) HX.I.2.2 ZcJ;have DO:=(Fw.block wr.heap.size ZcJ (fun e=>by have:=KC e; omega)).trans ((PU (by simp)).trans (Kj wr _));have gh:B_ wr.heap.size wr w7:=hb2.grown Fw ZcJ (fun k hk=>by cases hk; omega);have DR:Hid (vt wr w7 x a2 c2):=⟨DO,gh,how,fun g hg=>by have h5:=nW g hg; simp at h5; exact h5⟩
    have z0:w7.frozen? ⟨wr.heap.size,2,n_⟩=false:=Ko _ _ _ _ _ DO;have z1:w7.cell? ⟨wr.heap.size,2,n_⟩=o_ (s_ x.aY x.prog.length x.bH):=by simp [World.cell?,DO]
    clear hb2 how Fw nW DO gh;obtain ⟨co,e0,e1,e2,e3,e4,e5,e6,e7,e8,e9,Pn,e11⟩:=HL.I.1.ago DR.I rfl;have hkl:q.L8.length≤1048576:=by have:=HL.I.2.2; have:=HF.I.1.short.L8; omega
    have hsz:w.heap.size+2≤w7.heap.size:=by have h5:=DR.I.2.1.size; have h6:=HL.I.1.low; have h7:o < wr.heap.size:=(J2.1 HL.I.1.I).1; omega
    have Jr:Hid (_):=HL.I.1.IH DR.I rfl rfl;go_wp2_with (at_builtin; first | (refine br _ rfl _ _ 41 rfl _ _ _ _ rfl rfl hap ?_; clear hap) | (refine KD _ rfl _ _ 29 rfl (w.heap.size+2) 44 qE _ 12 128 underlying29 HI.I.1 HI.I.2.1 HI.I.2.2.1 HI.I.2.2.2 rfl (by decide) (s_ q.aN q.L8.length q.aW) q.L8.length (bg.flat q.L8) rfl Jr.I.1 ⟨w7.heap.size,0,n_⟩ 1 1 (bg.vals ({ x with aY:=a2,bH:=c2 } :ao)) (by rfl) rfl (KE (cs:= #[i_ j_ x.id,i_ j_ x.RX,s_ a2 x.prog.length c2,i_ j_ x.Md,i_ j_ x.pc,i_ j_ x.left,i_ j_ x.Mg,i_ j_ x.on,t_ x.held,t_ x.got,i_ j_ x.code,i_ j_ x.RU]) (t:=44) (fr:=(0,0)) Jr.I.2) (by simp [bg,qN,Value.oneCell']) ZcL (by omega) ZcJ ?_; intro v5 pH oM oq zR sM; obtain ⟨a5,c5,rfl,-⟩:=cr oM; have HN:Hid (cL p w (pH.setCell ⟨o,2,n_⟩ (s_ a5 (q.L8.length+1) c5)) o ({ q with L8:=q.L8 ++ [({ x with aY:=a2,bH:=c2 } :ao)],aN:=a5,aW:=c5 } :af)∧pH.cell? ⟨o,2,n_⟩=o_ (s_ q.aN q.L8.length q.aW)∧pH.frozen? ⟨o,2,n_⟩=false):=HL.I.1.G5 DR.I rfl rfl oM oq sM; have VY:=HN.I.2.1; have VP:=HN.I.2.2; clear oM oq zR sM));go_roundw
    case rel=>exact ⟨k+1,by omega,by go_num,⟨_,HN.I.1,cL.upProc HL.I.2.1 HX.I.1⟩⟩
    case measure=>simp [Go.RowKit.intOf]; omega
   ·have i1: ¬ (k:Int) < (p.L8.length:Int):=by omega
    have HE:Hid (∃ q,cL p w wr o q∧q.pure= { p.pure with ae:= [],ai:= [] }):=by
     have h5:=HL.I.2.1;rw [KF (by show (p.L8.map _).length≤k; rw [KG]; omega)] at h5;exact ⟨q,HL.I.1,h5⟩
    clear HL
    rename w_=>W2
    obtain ⟨qE,hi',GQ⟩:=Kw.1 kh;simp only [Kx] at GQ;have HI:Hid (Tryz.prog.info? 114=o_ qE∧qE.zero=o_ _∧qE.size=3∧qE.bytes=40):=⟨hi',GQ⟩
    clear hi' GQ;have hpBuffer:p.ae.length≤1048576:=HF.I.1.short.ae;go_wp2_with fail;clear mp
    go_loopw [6] (fun i wr=> ∃ k:Nat,k≤p.ae.length∧i=i_ j_ k∧Hid (∃ q,cL p w wr o q∧q.pure= { p.pure with ae:=p.pure.ae.take k,ai:= [] })) (fun i _=>p.ae.length - (Go.RowKit.intOf i).toNat)
    case atStart=>exact ⟨0,Ky _,rfl,by obtain ⟨q,h1,h2⟩:=HE.I; exact ⟨q,h1,h2.trans (by simp)⟩⟩
    case round=>
     obtain ⟨k,hk,rfl,HA⟩:=hrel;obtain ⟨q,hL,hq⟩:=HA.I;have HL:Hid (cL p w wr o q∧(q.pure= { p.pure with ae:=p.pure.ae.take k,ai:= [] })∧q.ae.length=k):=⟨hL,hq,Fs hq hk⟩
     clear HA hL hq;have mp:wr.cell? ⟨w.heap.size,6,n_⟩=o_ (s_ p.am p.ae.length p.aG):=by obtain ⟨m0,m1,m2,m3,m4,m5,m6,m7⟩:=HL.I.1.part.cells; exact m6
     by_cases hlt:k < p.ae.length
     ·have i0:(0:Int)≤(k:Int):=by omega
      have i1:(k:Int) < (p.ae.length:Int):=by omega
      obtain ⟨x,hx⟩: ∃ x,p.ae[k]? =o_ x:=⟨_,Kz hlt⟩
      have hAt:=HF.I.2.below HL.I.1.cd;obtain ⟨gs,ha,hat⟩:=iA hAt.2.2.2.2.1 hx;rw [ha] at mp;obtain ⟨d0,d1,d2⟩:=hat;have HX:Hid (p.ae[k]? =o_ x∧Row wr x.ak (bT.flat x.Ma)∧x.Ma.length≤1048576):=⟨hx,hAt.2.2.2.2.1.2 x (KA hx) (x.ak,bT.flat x.Ma) (KB.2 rfl),(HF.I.1.ae x (KA hx)).1⟩
      clear hx ha hAt;have hb2:B_ wr.heap.size wr ((wr.alloc (c_ #[i_ j_ x.id,i_ j_ x.max,s_ x.ak x.Ma.length x.aq] 114)).alloc (c_ #[] 9)):=((Kp _ _).alloc (Ki _) _).alloc (by simp) _;obtain ⟨a2,c2,w7,hap,how,Fw,nW⟩:=tO ((wr.alloc (c_ #[i_ j_ x.id,i_ j_ x.max,s_ x.ak x.Ma.length x.aq] 114)).alloc (c_ #[] 9)) wr.heap.size (wr.heap.size+1) (Kq _ _ _) (by omega) x.ak x.Ma x.aq (HX.I.2.1.below hb2) HX.I.2.2 ZcJ;have DO:=(Fw.block wr.heap.size ZcJ (fun e=>by have:=KC e; omega)).trans ((PU (by simp)).trans (Kj wr _));have gh:B_ wr.heap.size wr w7:=hb2.grown Fw ZcJ (fun k hk=>by cases hk; omega);have DR:Hid (o9 wr w7 x a2 c2):=⟨DO,gh,how,fun g hg=>by have h5:=nW g hg; simp at h5; exact h5⟩
      have z0:w7.frozen? ⟨wr.heap.size,2,n_⟩=false:=Ko _ _ _ _ _ DO;have z1:w7.cell? ⟨wr.heap.size,2,n_⟩=o_ (s_ x.ak x.Ma.length x.aq):=by simp [World.cell?,DO]
      clear hb2 how Fw nW DO gh;obtain ⟨co,e0,e1,e2⟩:=HL.I.1.F9 DR.I rfl;have hkl:q.ae.length≤1048576:=by have:=HL.I.2.2; have:=HF.I.1.short.ae; omega
      have hsz:w.heap.size+2≤w7.heap.size:=by have h5:=DR.I.2.1.size; have h6:=HL.I.1.low; have h7:o < wr.heap.size:=(J2.1 HL.I.1.I).1; omega
      have Jr:Hid (_):=HL.I.1.Fl DR.I rfl rfl;go_wp2_with (at_builtin; first | (refine br _ rfl _ _ 112 rfl _ _ _ _ rfl rfl hap ?_; clear hap) | (refine KD _ rfl _ _ 33 rfl (w.heap.size+2) 114 qE _ 3 40 underlying33 HI.I.1 HI.I.2.1 HI.I.2.2.1 HI.I.2.2.2 rfl (by decide) (s_ q.am q.ae.length q.aG) q.ae.length (bm.flat q.ae) rfl Jr.I.1 ⟨w7.heap.size,0,n_⟩ 1 1 (bm.vals ({ x with ak:=a2,aq:=c2 } :au)) (by rfl) rfl (KE (cs:= #[i_ j_ x.id,i_ j_ x.max,s_ a2 x.Ma.length c2]) (t:=114) (fr:=(0,0)) Jr.I.2) (by simp [bm,nD,Value.oneCell']) ZcL (by omega) ZcJ ?_; intro v5 pH oM oq zR sM; obtain ⟨a5,c5,rfl,-⟩:=cr oM; have HN:Hid (cL p w (pH.setCell ⟨o,6,n_⟩ (s_ a5 (q.ae.length+1) c5)) o ({ q with ae:=q.ae ++ [({ x with ak:=a2,aq:=c2 } :au)],am:=a5,aG:=c5 } :af)∧pH.cell? ⟨o,6,n_⟩=o_ (s_ q.am q.ae.length q.aG)∧pH.frozen? ⟨o,6,n_⟩=false):=HL.I.1.Do DR.I rfl rfl oM oq sM; have VY:=HN.I.2.1; have VP:=HN.I.2.2; clear oM oq zR sM));go_roundw
      case rel=>exact ⟨k+1,by omega,by go_num,⟨_,HN.I.1,cL.FY HL.I.2.1 HX.I.1⟩⟩
      case measure=>simp [Go.RowKit.intOf]; omega
     ·have i1: ¬ (k:Int) < (p.ae.length:Int):=by omega
      have HE:Hid (∃ q,cL p w wr o q∧q.pure= { p.pure with ai:= [] }):=by
       have h5:=HL.I.2.1;rw [KF (by show (p.ae.map _).length≤k; rw [KG]; omega)] at h5;exact ⟨q,HL.I.1,h5⟩
      clear HL
      rename w_=>W3
      obtain ⟨qE,hi',GQ⟩:=Kw.1 na;simp only [Kx] at GQ;have HI:Hid (Tryz.prog.info? 132=o_ qE∧qE.zero=o_ _∧qE.size=5∧qE.bytes=48):=⟨hi',GQ⟩
      clear hi' GQ;have hpPort:p.ai.length≤1048576:=HF.I.1.short.ai;go_wp2_with fail;clear mp
      go_loopw [8] (fun i wr=> ∃ k:Nat,k≤p.ai.length∧i=i_ j_ k∧Hid (∃ q,cL p w wr o q∧q.pure= { p.pure with ai:=p.pure.ai.take k })) (fun i _=>p.ai.length - (Go.RowKit.intOf i).toNat)
      case atStart=>exact ⟨0,Ky _,rfl,by obtain ⟨q,h1,h2⟩:=HE.I; exact ⟨q,h1,h2.trans (by simp)⟩⟩
      case round=>
       obtain ⟨k,hk,rfl,HA⟩:=hrel;obtain ⟨q,hL,hq⟩:=HA.I;have HL:Hid (cL p w wr o q∧(q.pure= { p.pure with ai:=p.pure.ai.take k })∧q.ai.length=k):=⟨hL,hq,I0 hq hk⟩
       clear HA hL hq;have mp:wr.cell? ⟨w.heap.size,7,n_⟩=o_ (s_ p.aK p.ai.length p.aV):=by obtain ⟨m0,m1,m2,m3,m4,m5,m6,m7⟩:=HL.I.1.part.cells; exact m7
       by_cases hlt:k < p.ai.length
       ·have i0:(0:Int)≤(k:Int):=by omega
        have i1:(k:Int) < (p.ai.length:Int):=by omega
        obtain ⟨x,hx⟩: ∃ x,p.ai[k]? =o_ x:=⟨_,Kz hlt⟩
        have hAt:=HF.I.2.below HL.I.1.cd;obtain ⟨gs,ha,hat⟩:=lm hAt.2.2.2.2.2 hx;rw [ha] at mp;obtain ⟨d0,d1,d2,d3,d4⟩:=hat;have HX:Hid (p.ai[k]? =o_ x∧Row wr x.ak (bT.flat x.Ma)∧x.Ma.length≤1048576):=⟨hx,hAt.2.2.2.2.2.2 x (KA hx) (x.ak,bT.flat x.Ma) (KB.2 rfl),(HF.I.1.ai x (KA hx)).1⟩
        clear hx ha hAt;have hb2:B_ wr.heap.size wr ((wr.alloc (c_ #[i_ j_ x.id,b_ x.I,b_ x.Mf,i_ j_ x.max,s_ x.ak x.Ma.length x.aq] 132)).alloc (c_ #[] 9)):=((Kp _ _).alloc (Ki _) _).alloc (by simp) _;obtain ⟨a2,c2,w7,hap,how,Fw,nW⟩:=tO ((wr.alloc (c_ #[i_ j_ x.id,b_ x.I,b_ x.Mf,i_ j_ x.max,s_ x.ak x.Ma.length x.aq] 132)).alloc (c_ #[] 9)) wr.heap.size (wr.heap.size+1) (Kq _ _ _) (by omega) x.ak x.Ma x.aq (HX.I.2.1.below hb2) HX.I.2.2 ZcJ;have DO:=(Fw.block wr.heap.size ZcJ (fun e=>by have:=KC e; omega)).trans ((PU (by simp)).trans (Kj wr _));have gh:B_ wr.heap.size wr w7:=hb2.grown Fw ZcJ (fun k hk=>by cases hk; omega);have DR:Hid (uT wr w7 x a2 c2):=⟨DO,gh,how,fun g hg=>by have h5:=nW g hg; simp at h5; exact h5⟩
        have z0:w7.frozen? ⟨wr.heap.size,4,n_⟩=false:=Ko _ _ _ _ _ DO;have z1:w7.cell? ⟨wr.heap.size,4,n_⟩=o_ (s_ x.ak x.Ma.length x.aq):=by simp [World.cell?,DO]
        clear hb2 how Fw nW DO gh;obtain ⟨co,e0,e1,e2,e3,e4⟩:=HL.I.1.agV DR.I rfl;have hkl:q.ai.length≤1048576:=by have:=HL.I.2.2; have:=HF.I.1.short.ai; omega
        have hsz:w.heap.size+2≤w7.heap.size:=by have h5:=DR.I.2.1.size; have h6:=HL.I.1.low; have h7:o < wr.heap.size:=(J2.1 HL.I.1.I).1; omega
        have Jr:Hid (_):=HL.I.1.I4 DR.I rfl rfl;go_wp2_with (at_builtin; first | (refine br _ rfl _ _ 112 rfl _ _ _ _ rfl rfl hap ?_; clear hap) | (refine KD _ rfl _ _ 34 rfl (w.heap.size+2) 132 qE _ 5 48 underlying34 HI.I.1 HI.I.2.1 HI.I.2.2.1 HI.I.2.2.2 rfl (by decide) (s_ q.aK q.ai.length q.aV) q.ai.length (bX.flat q.ai) rfl Jr.I.1 ⟨w7.heap.size,0,n_⟩ 1 1 (bX.vals ({ x with ak:=a2,aq:=c2 } :aM)) (by rfl) rfl (KE (cs:= #[i_ j_ x.id,b_ x.I,b_ x.Mf,i_ j_ x.max,s_ a2 x.Ma.length c2]) (t:=132) (fr:=(0,0)) Jr.I.2) (by simp [bX,qT,Value.oneCell']) ZcL (by omega) ZcJ ?_; intro v5 pH oM oq zR sM; obtain ⟨a5,c5,rfl,-⟩:=cr oM; have HN:Hid (cL p w (pH.setCell ⟨o,7,n_⟩ (s_ a5 (q.ai.length+1) c5)) o ({ q with ai:=q.ai ++ [({ x with ak:=a2,aq:=c2 } :aM)],aK:=a5,aV:=c5 } :af)∧pH.cell? ⟨o,7,n_⟩=o_ (s_ q.aK q.ai.length q.aV)∧pH.frozen? ⟨o,7,n_⟩=false):=HL.I.1.Gi DR.I rfl rfl oM oq sM; have VY:=HN.I.2.1; have VP:=HN.I.2.2; clear oM oq zR sM));go_roundw
        case rel=>exact ⟨k+1,by omega,by go_num,⟨_,HN.I.1,cL.upPort HL.I.2.1 HX.I.1⟩⟩
        case measure=>simp [Go.RowKit.intOf]; omega
       ·have i1: ¬ (k:Int) < (p.ai.length:Int):=by omega
        have HE:Hid (∃ q,cL p w wr o q∧q.pure=p.pure):=by
         have h5:=HL.I.2.1;rw [KF (by show (p.ai.map _).length≤k; rw [KG]; omega)] at h5;exact ⟨q,HL.I.1,h5⟩
        clear HL;obtain ⟨q,hL,hq⟩:=HE.I;have HZ:Hid (cL p w wr o q∧q.pure=p.pure):=⟨hL,hq⟩
        obtain ⟨m0,m1,m2,m3,m4,m5,m6,m7⟩:=hL.I.cells;clear hL hq HE
        repeat (first | (go_big_may; refine ec 2 96 q.row HZ.I.1.ret ?_) | go_values | go_skip | go_guarded | go_step | go_upon | go_back)
        repeat (first | go_values | go_skip | go_guarded | go_step | go_upon)
        refine gZ results30 HZ.I.1.ret ?_;have hne: ∀ g∈q.Mc,g≠w.heap.size+1:=fun g hg e=>by have:=(HZ.I.1.own.lt g hg).1; omega
        exact ⟨q,rfl,(HZ.I.1.own.lower (by omega)).same fun g hg=>KH _ _ _ _ (hne g hg),HZ.I.2,q_ HZ.I.1.cd (by omega) _⟩
end
section
open Go.RowKit
def ce (id:Int) (f:aD→aD) (l:List aD):List aD:=l.map fun x=>if x.id=id then f x else x
def hU (p:aE) (id:Int) (ok:aD→Bool) (f:aD→aD) (nx:Int):Option aE:=
 if bK p then match p.L8.find? (fun x=>decide (x.id=id)) with
  | some y=>if ok y then o_ { p with next:=nx,L8:=ce id f p.L8 } else n_
  | none=>n_
 else n_
def cN:aE:=⟨0,0,[],[],[],[],[],[]⟩
def gI (w:w_) (r:Option aE) (e:Ending) (w':w_):Prop:= ∃ q:af,e=r_ (u_ #[a_ q.cells,b_ r.isSome])∧ap w' w.heap.size q∧q.pure=r.getD cN∧B_ w.heap.size w w'
theorem Ai (w:w_) (base:Nat):ap w base ⟨0,0,[],n_,0,[],n_,0,[],n_,0,[],n_,0,[],n_,0,[],n_,0⟩:=
 ⟨Ke _ _ _ _,Ke _ _ _ _,Ke _ _ _ _,Ke _ _ _ _,Ke _ _ _ _,Ke _ _ _ _,(fun x hx=>by cases hx),(fun x hx=>by cases hx),(fun x hx=>by cases hx),by simp [af.Mc,blk]⟩
theorem ca {w w':w_} {r:Option aE} (h:r=n_) (hb:B_ w.heap.size w w'):gI w r (r_ (u_ #[a_ ar,b_ false])) w':=by
 subst h;exact ⟨_,rfl,Ai _ _,rfl,hb⟩
theorem vO {p:aE} {id nx:Int} {ok:aD→Bool} {f:aD→aD} (h:bK p=false):hU p id ok f nx=n_:=by simp [hU,h]
theorem tg {p:aE} {id nx:Int} {ok:aD→Bool} {f:aD→aD} (h:p.L8.find? (fun x=>decide (x.id=id))=n_):hU p id ok f nx=n_:=by
 unfold hU
 split
 ·rw [h]
 ·rfl
theorem sx {p:aE} {id nx:Int} {ok:aD→Bool} {f:aD→aD} {y:aD} (h:p.L8.find? (fun x=>decide (x.id=id))=o_ y) (ho:ok y=false):hU p id ok f nx=n_:=by
 unfold hU
 split
 ·rw [h]; simp [ho]
 ·rfl
theorem tT {p:aE} {id nx:Int} {ok:aD→Bool} {f:aD→aD} {y:aD} (hp:bK p=true) (h:p.L8.find? (fun x=>decide (x.id=id))=o_ y) (ho:ok y=true):hU p id ok f nx=o_ { p with next:=nx,L8:=ce id f p.L8 } :=by
 unfold hU;rw [if_pos hp,h];simp [ho]
theorem db {α:Type} {num:α→Int} {ok:α→Bool} : ∀ {l:List α} {last:Int},aw num ok last l=true→(∀ x∈l,last < num x)∧l.Pairwise (fun x y=>num x < num y)
 | [],_,_=>⟨(fun x hx=>by cases hx),List.Pairwise.nil⟩
 | x :: r,last,h=>by
  simp only [aw,J7,decide_eq_true_eq] at h;obtain ⟨h1,h2⟩:=db h.2;refine ⟨fun y hy=> ?_,List.Pairwise.cons (fun y hy=>h1 y hy) h2⟩;rcases Kt.1 hy with rfl | hy
  ·exact h.1.1.2
  ·have:=h1 y hy; have:=h.1.1.2; omega
theorem rp {l:List aD} {f:aD→aD} {id:Int} {n:Nat} {y:aD} (hr:l.Pairwise (fun x y=>x.id < y.id)) (hn:l[n]? =o_ y) (hy:y.id=id):ce id f l=l.set n (f y):=by
 induction l generalizing n with
 | nil=>simp at hn
 | cons x r ih=>
  obtain ⟨h1,h2⟩:=List.pairwise_cons.1 hr;cases n with
  | zero=>
   simp only [List.getElem?_cons_zero,LF] at hn;subst hn;have e:ce id f r=r:=by
    unfold ce
    conv=>rhs; rw [← List.map_id r]
    refine Lw fun z hz=> ?_
    rw [if_neg (by have:=h1 z hz; omega)];rfl
   simp only [Ln]
   show (if x.id=id then f x else x) :: ce id f r=_
   rw [if_pos hy,e]
  | succ n=>
   simp only [List.getElem?_cons_succ] at hn;have hlt:=h1 y (KA hn);simp only [Lo]
   show (if x.id=id then f x else x) :: ce id f r=_
   rw [if_neg (by omega),ih h2 hn]
theorem sc {p:aE} (h:bK p=true):p.L8.Pairwise (fun x y=>x.id < y.id):=(db ((ch _).1 h).L8).2
def GM (x:aD):Prop:=(x.prog.length≤1048576∧(∀ o∈x.prog,o.2.2.2.size≤1048576)∧x.held.size≤1048576∧x.got.size≤1048576)∧(Lit.int j_ x.id).wf=true∧(Lit.int j_ x.on).wf=true∧(Lit.int j_ x.RU).wf=true
theorem IZ {p:aE} (h:bK p=true):(Lit.int j_ p.next).wf=true:=by
 have h2:=bz.1 ((ch _).1 h).next;have e1:IntKind.min j_≤0:=by decide
 have e2:2000000000≤IntKind.max j_:=by decide
 exact ZbR
theorem hY:cN.Small:=⟨Ky _,Ky _,Ky _,Ky _,Ky _,Ky _,(fun x hx=>by cases hx),(fun x hx=>by cases hx),(fun x hx=>by cases hx),(fun x hx=>by cases hx),(fun x hx=>by cases hx),(fun x hx=>by cases hx)⟩
theorem qQ {p:aE} {id nx:Int} {ok:aD→Bool} {f:aD→aD} :(hU p id ok f nx).getD cN=cN∨bK p=true∧(hU p id ok f nx).getD cN= { p with next:=nx,L8:=ce id f p.L8 } :=by
 unfold hU
 split
 ·rename_i hp
  split
  ·split
   ·exact .inr ⟨hp,rfl⟩
   ·exact .inl rfl
  ·exact .inl rfl
 ·exact .inl rfl
theorem zJ {p:aE} {id nx:Int} {ok:aD→Bool} {f:aD→aD} (h:p.Small) (hf:bK p=true→ ∀ y∈p.L8,GM y→GM (f y)):((hU p id ok f nx).getD cN).Small:=by
 rcases qQ (p:=p) (id:=id) (nx:=nx) (ok:=ok) (f:=f) with e | ⟨hp,e⟩
 ·rw [e]; exact hY
 ·rw [e]
  refine ⟨by simpa [ce] using h.dl,h.fx,h.cD,h.cC,h.cb,h.dH,fun x hx=> ?_,h.aj,h.L9,h.ag,h.ae,h.ai⟩;obtain ⟨y,hy,rfl⟩:=Lr.1 hx
  split
  ·exact hf hp y hy (h.L8 y hy)
  ·exact h.L8 y hy
theorem ap.kB {w:w_} {base n j gs:Nat} {q:af} {x y:ao} {vs:List v_} (h:ap w base q) (hx:q.L8[n]? =o_ x) (ha:q.aN=o_ ⟨gs,0,n_⟩) (hy:y.prog=x.prog∧y.aY=x.aY∧y.bH=x.bH)
  (hj:j+vs.length≤12) (h1: ∀ r,r < vs.length→(bg.vals y)[j+r]? =vs[r]?) (h2: ∀ r,r < 12→ ¬ (j≤r∧r < j+vs.length)→(bg.vals y)[r]? =(bg.vals x)[r]?):
  ap (bn w gs (n * 12+j) vs) base ({ q with L8:=q.L8.set n y } :af)∧aI w (bn w gs (n * 12+j) vs) [gs] ∧({ q with L8:=q.L8.set n y } :af).Mc=q.Mc:=by
 have hn:n < q.L8.length:=(Lj.1 hx).1;have hsp:=kL hx;have hset:q.L8.set n y=q.L8.take n ++ y :: q.L8.drop (n+1):=by rw [List.set_eq_take_append_cons_drop,if_pos hn]
 have hl:(q.L8.take n).length=n:=by rw [List.length_take]; omega
 have hkb:aI w (bn w gs (n * 12+j) vs) [gs] :=aI.set _ (by simp);have ho:=h.L8;rw [ha] at ho;obtain ⟨g,hg,hrow⟩:=bl.fX (K:=bg) ho (by omega);cases hg;rw [hsp] at hrow;have h5:=bl.part (K:=bg) (x:=x) (y:=y) (j:=j) (vs:=vs) hrow hj h1 h2;rw [hl,show bg.n=12 from rfl,← hset] at h5;have h6:=h5.owns;have hki:(q.L8.set n y).filterMap aR.bt=q.L8.filterMap aR.bt:=by
  rw [hset]
  conv=>rhs; rw [hsp]
  have e:aR.bt y=aR.bt x:=by show y.aY.map (·.block)=x.aY.map (·.block); rw [hy.2.1]
  simp only [List.filterMap_append,LH,e]
 have Pp:aR.cO w base y:=by
  have h7:=h.eI x (KA hx)
  show w.ownsRow base _ 4 (s_ y.aY y.prog.length y.bH) y.prog.length (fk.flat y.prog)
  rw [hy.1,hy.2.1,hy.2.2];exact h7
 have EI: ∀ z∈q.L8,∀ b,aR.bt z=o_ b→b≠gs:=fun z hz b hb e=>by
  have h8:=h.nodup;rw [af.Mc,ha] at h8;have h9:=(Kf.1 h8).2.2 gs (by simp [blk]) b (Lz _ (Lq.2 ⟨z,hz,hb⟩));exact h9 e.symm
 have hsame: ∀ b,b≠gs→(bn w gs (n * 12+j) vs).heap[b]? =w.heap[b]? :=fun b hb=>de _ hb
 have hm: ∀ z∈q.L8.set n y,aR.cO (bn w gs (n * 12+j) vs) base z:=fun z hz=>by
  rcases List.mem_or_eq_of_mem_set hz with hz | rfl
  ·exact (h.eI z hz).same fun b hb=>hsame b (EI z hz b hb)
  ·refine Pp.same fun b hb=>hsame b (EI x (KA hx) b ?_)
   rw [← hb]
   show x.aY.map (·.block)=z.aY.map (·.block)
   rw [hy.2.1]
 have ht:=h.As (w':=bn w gs (n * 12+j) vs) (l:=q.L8.set n y) (by rw [ha]; rw [List.length_set] at h6; exact h6) (by simp) hm hki (hkb.mono (by simp [ha,blk]));exact ⟨ht.1,hkb,ht.2⟩
end
section
open Go.RowKit Go.Maps
attribute [local go_sem ↓] Kc Kd
def uK:aD:=⟨0,0,[],0,0,0,0,0,rM,rM,0,0⟩
def ew (p:aE) (id:Int):Option aD:=if bK p then p.L8.find? (fun x=>decide (x.id=id)) else n_
def wb (w:w_) (r:Option aD) (e:Ending) (w':w_):Prop:= ∃ x:ao,e=r_ (u_ #[a_ (aX x),b_ r.isSome])∧aR.cO w' w.heap.size x∧x.toaD=r.getD uK∧B_ w.heap.size w w'
theorem l7 {w w':w_} {r:Option aD} (h:r=n_) (hb:B_ w.heap.size w w'):wb w r (r_ (u_ #[a_ cE,b_ false])) w':=by
 subst h;exact ⟨⟨uK,n_,0⟩,rfl,Ke _ _ _ _,rfl,hb⟩
theorem ui {p:aE} {id:Int} (h:bK p=false):ew p id=n_:=by simp [ew,h]
theorem E0 (id:Int) (lp:List (ao × Nat)):cz (RW (fun x:ao=>x.id) lp) id=(lp.find? (fun p=>decide (p.1.id=id))).map (·.2):=by
 unfold cz RW;rw [aeu,Option.map_map];have e:((fun p:Int × Nat=>p.1 == id) ∘ fun p:ao × Nat=>(p.1.id,p.2))=fun p=>decide (p.1.id=id):=by
  funext p
  show (p.1.id == id)=_
  rw [Bool.beq_eq_decide_eq]
 rw [e];rfl
theorem Fj (id:Int) (lp:List (ao × Nat)):(lp.map fun p=>p.1.toaD).find? (fun x=>decide (x.id=id))=(lp.find? (fun p=>decide (p.1.id=id))).map (fun p=>p.1.toaD):=by
 rw [aeu];rfl
theorem uN (p:af) (id:Int) (w:w_) (hid:(Lit.int j_ id).wf=true) (hg:p.Good w):
  k_ J3 12 #[a_ p.cells,i_ j_ id] w fun e w'=>wb w (ew p.pure id) e w':=by
 have HB:Hid (p.Good ((w.alloc (c_ p.row 36)).alloc (c_ cE 44))∧B_ w.heap.size w ((w.alloc (c_ p.row 36)).alloc (c_ cE 44))∧((w.alloc (c_ p.row 36)).alloc (c_ cE 44)).heap[w.heap.size+1]? =o_ (c_ cE 44)∧av ((w.alloc (c_ p.row 36)).alloc (c_ cE 44)) w.heap.size p∧(Lit.int j_ id).wf=true):=by
  have b1:B_ w.heap.size w ((w.alloc (c_ p.row 36)).alloc (c_ cE 44)):=((Kp _ _).alloc (Ki _) _).alloc (by simp) _;exact ⟨hg.below b1,b1,Kq _ _ _,(PU (by simp)).trans (Kj _ _),hid⟩
 clear hg hid;obtain ⟨m0,m1,m2,m3,m4,m5,m6,m7⟩:=HB.I.2.2.2.1.cells;unfold af.cells
 go_enter func12,ntmps12
 go_wp2_with fail;generalize (w.alloc (c_ p.row 36)).alloc (c_ cE 44)=W at *;clear m0 m1 m2 m3 m4 m5 m6 m7;refine (iO p W HB.I.1).mono ?_;rintro e w1 ⟨hb1,⟨hno,rfl⟩ | ⟨fm,o,S,rfl,hat,gn⟩⟩
 ·have HZ:Hid (B_ w.heap.size w w1∧w1.heap[w.heap.size+1]? =o_ (c_ cE 44)∧True):=⟨HB.I.2.1.trans (hb1.mono HB.I.2.1.size),(hb1.block _ (J2.1 HB.I.2.2.1).1).trans HB.I.2.2.1,trivial⟩
  have HN:Hid (ew p.pure id=n_):=ui (dL hno);clear hb1 hno
  dsimp only
  repeat (first | (go_big_may; refine wpList_store_row rfl 44 (Operand.tmp 4) (Operand.tmp 16) rfl (w.heap.size+1) _ _ cE rfl rfl HZ.I.2.1 ZcI rfl ZcI ?_) | go_values | go_skip | go_guarded | go_step | go_upon | go_back)
  exact Zaw
 have HZ:Hid (B_ w.heap.size w w1∧w1.heap[w.heap.size+1]? =o_ (c_ cE 44)∧aQ S.pure∧cJ w1 W.heap.size o S∧S.pure=p.pure∧w.heap.size+1 < W.heap.size):=⟨HB.I.2.1.trans (hb1.mono HB.I.2.1.size),(hb1.block _ (J2.1 HB.I.2.2.1).1).trans HB.I.2.2.1,by rw [gn]; exact fm,hat,gn,(J2.1 HB.I.2.2.1).1⟩
 have c3:w1.cell? ⟨o,3,n_⟩=o_ (.map (o_ S.q.bp)):=hat.opn.cell 3;have hlk:=hat.L8.map.look underlying73 (oD w1) HB.I.2.2.2.2 true;have td:ew p.pure id=(S.lp.find? (fun p=>decide (p.1.id=id))).map (fun p=>p.1.toaD):=by
  rw [← gn];simp only [ew,fP HZ.I.2.2.1,if_true];exact Fj id S.lp
 rw [E0] at hlk;simp only [if_true] at hlk;clear hb1 fm hat gn;cases Dc:S.lp.find? (fun p=>decide (p.1.id=id)) with
 | none=>
  rw [Dc] at hlk td;simp only [Option.map_none,qz,Option.isSome_none] at hlk;have HN:Hid (ew p.pure id=n_):=td;clear Dc td;go_wp2_with (refine wpList_store_row rfl 44 (Operand.tmp 4) (Operand.tmp 29) rfl (w.heap.size+1) _ _ cE rfl rfl HZ.I.2.1 ZcI rfl ZcI ?_);exact Zaw
 | some r=>
  obtain ⟨x,g⟩:=r;rw [Dc] at hlk td;simp only [Option.map_some,qz,dt,Option.isSome_some] at hlk;have hm:(x,g)∈S.lp:=List.mem_of_find?_eq_some Dc;have HN:Hid (ew p.pure id=o_ x.toaD∧aR.cO w1 W.heap.size x):=⟨td,HZ.I.2.2.2.1.eI (x,g) hm⟩
  obtain ⟨d0,d1,d2,d3,d4,d5,d6,d7,d8,d9,tH,tS⟩:=bo (HZ.I.2.2.2.1.L8.box (x,g) hm);clear Dc td hm;go_wp2_with (refine wpList_store_row rfl 44 (Operand.tmp 4) (Operand.tmp 32) rfl (w.heap.size+1) _ _ x.row rfl rfl HZ.I.2.1 ZcI rfl ZcI ?_);refine KT (v:=u_ #[a_ x.row,b_ true]) (bL results12 _ _ (w.heap.size+1) _ _ _ _ (by rfl) (KU _ _ _ _ _ _ HZ.I.2.1) underlying44 rfl ZcI) rfl ?_;rw [HN.I.1];have hWs:=HZ.I.2.2.2.2.2;exact ⟨x,rfl,(HN.I.2.low (by omega)).same fun g hk=>KH _ _ _ _ (by have:=(HN.I.2.lt hk).1; omega),rfl,q_ HZ.I.1 (by omega) _⟩
end
section
open Go.RowKit
theorem Di {α:Type} {N:gd α} {w w':w_} {base:Nat} {x:α} (h:N.cO w base x) (hb:B_ w.heap.size w w'):N.cO w' base x:=h.same fun g hk=>hb.block g (h.lt hk).2
def o8 (W:w_) (X b:Nat) (q:af):Prop:=av W X q∧ap W b q
def rT (W:w_) (X b:Nat) (x:ao):Prop:=jx W X x∧aR.cO W b x
section
variable {p q:af} {x:ao} {w W W':w_} {X b:Nat} {bs:List Nat}
theorem o8.below (h:o8 W X b q) (hb:B_ W.heap.size W W'):o8 W' X b q:=⟨h.1.below hb,h.2.below hb⟩
theorem o8.kept (h:o8 W X b q) (hk:aI W W' bs) (hs:X∉bs) (ho: ∀ g∈q.Mc,g∉bs):o8 W' X b q:=⟨(hk.same _ (J2.1 h.1).1 hs).trans h.1,h.2.same fun g hg=>hk.same g (h.2.lt g hg).2 (ho g hg)⟩
theorem rT.below (h:rT W X b x) (hb:B_ W.heap.size W W'):rT W' X b x:=⟨h.1.below hb,Di h.2 hb⟩
theorem rT.kept (h:rT W X b x) (hk:aI W W' bs) (hs:X∉bs) (ho: ∀ g∈blk x.aY,g∉bs):rT W' X b x:=⟨(hk.same _ (J2.1 h.1).1 hs).trans h.1,h.2.same fun g hg=>hk.same g (h.2.lt hg).2 (ho g (fZ.2 hg))⟩
theorem av.lt {W:w_} {X:Nat} {q:af} (h:av W X q):X < W.heap.size:=(J2.1 h).1
theorem jx.lt {W:w_} {X:Nat} {x:ao} (h:jx W X x):X < W.heap.size:=(J2.1 h).1
end
end
section
open Go.RowKit Go.Maps
attribute [local go_sem ↓] Kc Kd
def j7 (y:aD):aD:=⟨y.id,y.RX,y.prog,0,0,0,0,0,rM,y.got,y.code,0⟩
def sW (y:ao):ao:=⟨j7 y.toaD,y.aY,y.bH⟩
theorem mN (x:ao) (w:w_):k_ J3 189 #[a_ x.row] w fun e w'=>e=r_ (a_ #[i_ j_ x.id,i_ j_ x.RX,s_ x.aY x.prog.length x.bH,i_ j_ 0,i_ j_ 0,i_ j_ 0,i_ j_ 0,i_ j_ 0,t_ ⟨#[]⟩,t_ x.got,i_ j_ x.code,i_ j_ 0])∧B_ w.heap.size w w':=by
 have HB:Hid (B_ w.heap.size w ((w.alloc (c_ x.row 44)).alloc (c_ cE 44))∧((w.alloc (c_ x.row 44)).alloc (c_ cE 44)).heap[w.heap.size+1]? =o_ (c_ cE 44)):=⟨((Kp _ _).alloc (Ki _) _).alloc (by simp) _,Kq _ _ _⟩
 go_enter func189,ntmps189
 go_wp2_with (refine wpList_store_row rfl 44 (Operand.tmp 2) (Operand.tmp 13) rfl (w.heap.size+1) _ _ #[i_ j_ x.id,i_ j_ x.RX,s_ x.aY x.prog.length x.bH,i_ j_ 0,i_ j_ 0,i_ j_ 0,i_ j_ 0,i_ j_ 0,t_ ⟨#[]⟩,t_ x.got,i_ j_ x.code,i_ j_ 0] rfl rfl HB.I.2 ZcI rfl ZcI ?_);refine KT (v:=a_ #[i_ j_ x.id,i_ j_ x.RX,s_ x.aY x.prog.length x.bH,i_ j_ 0,i_ j_ 0,i_ j_ 0,i_ j_ 0,i_ j_ 0,t_ ⟨#[]⟩,t_ x.got,i_ j_ x.code,i_ j_ 0]) (results_cell_row results189 _ _ (w.heap.size+1) _ _ (0,0) _ rfl (KU _ _ _ _ _ _ HB.I.2) underlying44 rfl ZcI) rfl ?_;exact ⟨rfl,q_ HB.I.1 (by omega) _⟩
def Ba (O gs n:Nat) (q:af) (x:ao) (w':w_):Prop:=w'.cell? ⟨O,2,n_⟩=o_ (s_ (o_ ⟨gs,0,n_⟩) q.L8.length q.aW)∧w'.cell? ⟨gs,n * 12,n_⟩=o_ (i_ j_ x.id)∧w'.cell? ⟨gs,n * 12+1,n_⟩=o_ (i_ j_ x.RX)∧w'.cell? ⟨gs,n * 12+2,n_⟩=o_ (s_ x.aY x.prog.length x.bH)∧w'.cell? ⟨gs,n * 12+3,n_⟩=o_ (i_ j_ x.Md)∧w'.cell? ⟨gs,n * 12+4,n_⟩=o_ (i_ j_ x.pc)∧w'.cell? ⟨gs,n * 12+5,n_⟩=o_ (i_ j_ x.left)∧w'.cell? ⟨gs,n * 12+6,n_⟩=o_ (i_ j_ x.Mg)∧w'.cell? ⟨gs,n * 12+7,n_⟩=o_ (i_ j_ x.on)∧w'.cell? ⟨gs,n * 12+8,n_⟩=o_ (t_ x.held)∧w'.cell? ⟨gs,n * 12+9,n_⟩=o_ (t_ x.got)∧w'.cell? ⟨gs,n * 12+10,n_⟩=o_ (i_ j_ x.code)∧w'.cell? ⟨gs,n * 12+11,n_⟩=o_ (i_ j_ x.RU)
end
section
open Go.RowKit Go.Maps
def aZ.ju (S:aZ) (g:Nat) (f:ao→ao) (nx:Int):aZ:= { S with q:= { S.q with next:=nx },lp:=sU g f S.lp }
theorem GW {g:Nat} {f:ao→ao} (hf: ∀ x,aR.bt (f x)=aR.bt x) (l:List (ao × Nat)):kids aR (sU g f l)=kids aR l:=by
 induction l with
 | nil=>rfl
 | cons p r ih=>
  have e:(sU g f (p :: r))=(if p.2=g then (f p.1,p.2) else p) :: sU g f r:=rfl;simp only [kids,LH] at ih ⊢;rw [e];simp only [LH];by_cases h:p.2=g
  ·simp only [h,if_true,hf]
   rw [ih]
  ·simp only [h,if_false]
   rw [ih]
theorem cJ.ju {w w':w_} {base o g:Nat} {S:aZ} {f:ao→ao} {nx:Int} (h:cJ w base o S) (hf: ∀ x,(f x).id=x.id∧(f x).prog=x.prog∧(f x).aY=x.aY∧(f x).bH=x.bH)
  (hc: ∀ p∈S.lp,p.2=g→w'.heap[g]? =o_ (c_ (aX (f p.1)) 44)) (hg:g∈S.lp.map (·.2)) (ho:fa w' o { S.q with next:=nx }) (hs: ∀ b,b≠g→b≠o→w'.heap[b]? =w.heap[b]?):cJ w' base o (S.ju g f nx):=by
 have iH: ∀ x,aR.bt (f x)=aR.bt x:=fun x=>by show (f x).aY.map (·.block)=x.aY.map (·.block); rw [(hf x).2.2.1]
 have hn:=h.nodup;have hno:=(Lp.1 hn).1;have yD:=(Kf.1 (Lp.1 hn).2)
 have jQ:=yD.1;unfold aZ.boxes at jQ;have hin: ∀ b,b∈S.boxes∨b∈S.kids→b≠o:=fun b hb e=>hno (by rw [← e]; exact Kg.2 hb)
 have hp:=Kf.1 jQ;have l9:g∈S.q.bp :: S.lp.map (·.2):=LB _ hg;have hgr: ∀ b,b∈((S.q.bs :: S.ls.map (·.2)) ++ ((S.q.be :: S.le.map (·.2)) ++ ((S.q.bb :: S.lb.map (·.2)) ++ ((S.q.bf :: S.lf.map (·.2)) ++ (S.q.bq :: S.lq.map (·.2))))))→b≠g:=fun b hb e=>hp.2.2 g l9 b hb e.symm
 have EI: ∀ b∈S.kids,b≠g:=fun b hb e=>yD.2.2 g (by unfold aZ.boxes; exact Lz _ l9) b hb e.symm
 have hbp:S.q.bp≠g:=fun e=>by
  have:=(Lp.1 hp.1).1
  rw [e] at this;exact this hg
 have lW: ∀ b,b∈(S.q.bp :: S.lp.map (·.2))→b≠o:=fun b hb=>hin b (.inl (by unfold aZ.boxes; exact Lz _ hb))
 have hbr: ∀ b,b∈((S.q.bs :: S.ls.map (·.2)) ++ ((S.q.be :: S.le.map (·.2)) ++ ((S.q.bb :: S.lb.map (·.2)) ++ ((S.q.bf :: S.lf.map (·.2)) ++ (S.q.bq :: S.lq.map (·.2))))))→w'.heap[b]? =w.heap[b]? :=fun b hb=>hs b (hgr b hb) (hin b (.inl Zdy))
 have hkk: ∀ b∈S.kids,w'.heap[b]? =w.heap[b]? :=fun b hb=>hs b (EI b hb) (hin b (.inr hb))
 have hmem: ∀ (b:Nat),(b∈kids aR S.lp∨b∈kids aC S.lf∨b∈kids aU S.lq)→b∈S.kids:=fun b hb=>by simp only [aZ.kids,Kg]; exact hb
 refine ⟨ho,h.L8.sU (fun p _ _=>(hf p.1).1) hc (hs _ hbp (lW _ (by simp))) (fun b hb hne=>hs b hne (lW b (LB _ hb))),h.aj.same fun b hb=>hbr b (Lz _ hb),h.L9.same fun b hb=>hbr b (Ly _ (Lz _ hb)),h.ag.same fun b hb=>hbr b (Ly _ (Ly _ (Lz _ hb))),h.ae.same fun b hb=>hbr b (Ly _ (Ly _ (Ly _ (Lz _ hb)))),h.ai.same fun b hb=>hbr b (Ly _ (Ly _ (Ly _ (Ly _ hb)))),fun p hp'=> ?_,fun p hp'=>(h.eE p hp').same fun b hb=>hkk b (hmem b (.inr (.inl (Lq.2 ⟨p,hp',hb⟩)))),fun p hp'=>(h.eR p hp').same fun b hb=>hkk b (hmem b (.inr (.inr (Lq.2 ⟨p,hp',hb⟩)))),?_,h.low⟩
 ·exact Q_
 ·exact ZaS
theorem aZ.NW {S:aZ} {g:Nat} {x:ao} {f:ao→ao} {f':aD→aD} {nx:Int} (hr:aQ S.pure) (hn: ∀ p∈S.lp,p.2=g→p=(x,g)) (hx:(x,g)∈S.lp) (hf: ∀ y,(f y).toaD=f' y.toaD):
  (S.ju g f nx).pure= { S.pure with next:=nx,L8:=ce x.id f' S.pure.L8 } :=by
 have Sw:=sc (fP hr);have key:(sU g f S.lp).map (·.1.toaD)=ce x.id f' (S.lp.map (·.1.toaD)):=by
  unfold sU ce;rw [Lv,Lv];refine Lw fun p hp=> ?_
  simp only [Ls];by_cases hg:p.2=g
  ·have hpx:=hn p hp hg
   subst hpx;rw [if_pos rfl,if_pos rfl];exact hf x
  ·rw [if_neg hg]
   have hne: ¬ p.1.toaD.id=x.id:=fun e=>by
    have h5:S.pure.L8.Pairwise (fun a b=>a.id < b.id):=Sw;have h6:(S.lp.map (·.1.toaD)).Pairwise (fun a b=>a.id < b.id):=h5;rw [List.pairwise_map] at h6;obtain ⟨i,hi⟩:=List.mem_iff_getElem?.1 hp;obtain ⟨j,hj⟩:=List.mem_iff_getElem?.1 hx;obtain ⟨hi1,rfl⟩:=Lj.1 hi;obtain ⟨DS,hj2⟩:=Lj.1 hj;rw [List.pairwise_iff_getElem] at h6;have OG:(S.lp[j]).1.id=x.id:=by rw [hj2]
    rcases Nat.lt_trichotomy i j with hlt | heq | hgt
    ·exact ZbB
    ·subst heq; exact hg (by rw [hj2])
    ·exact ZbC
   rw [if_neg hne]
 exact ZbP
end
section
open Go.RowKit Go.Maps
attribute [local go_sem ↓] Kc Kd
def kD (p:aE) (id:Int):Option aE:=hU p id (fun y=>decide (y.Md=0) && !decide (p.next=1000000000)) (fun y=> { y with Md:=1,RU:=p.next }) (p.next+1)
def N4 (t:ByteArray) (x:aD):ByteArray:=t ++ ⟨#[112,114,111,99,32]⟩ ++ Ij x.id ++ ⟨#[32]⟩ ++ Ij x.RX ++ ⟨#[32]⟩ ++ Ij x.Md ++ ⟨#[32]⟩ ++ Ij x.pc ++ ⟨#[32]⟩ ++ Ij x.left ++ ⟨#[32]⟩ ++ Ij x.Mg ++ ⟨#[32]⟩ ++ Ij x.on ++ ⟨#[32]⟩ ++ Ij x.code ++ ⟨#[32]⟩ ++ Ij x.RU ++ ⟨#[32,59]⟩ ++ x.held ++ ⟨#[59]⟩ ++ x.got ++ ⟨#[59]⟩ ++ NQ x.prog ++ ⟨#[10]⟩
def OT (t:ByteArray) (x:bD):ByteArray:=t ++ ⟨#[115,101,109,32]⟩ ++ Ij x.id ++ ⟨#[32]⟩ ++ Ij x.n ++ ⟨#[32]⟩ ++ Ij x.max ++ ⟨#[10]⟩
def NE (t:ByteArray) (x:aB):ByteArray:=t ++ ⟨#[101,118,101,110,116,32]⟩ ++ Ij x.id ++ ⟨#[32]⟩ ++ Ij (MJ x.up) ++ ⟨#[10]⟩
def NJ (t:ByteArray) (x:az):ByteArray:=t ++ ⟨#[98,111,97,114,100,32]⟩ ++ Ij x.id ++ ⟨#[32]⟩ ++ Ij (MJ x.shown) ++ ⟨#[32]⟩ ++ x.text ++ ⟨#[10]⟩
def Nm (t:ByteArray) (x:ci):ByteArray:=t ++ ⟨#[98,117,102,102,101,114,32]⟩ ++ Ij x.id ++ ⟨#[32]⟩ ++ Ij x.max ++ MI x.Ma ++ ⟨#[10]⟩
def N5 (t:ByteArray) (x:dS):ByteArray:=t ++ ⟨#[112,111,114,116,32]⟩ ++ Ij x.id ++ ⟨#[32]⟩ ++ Ij (MJ x.I) ++ ⟨#[32]⟩ ++ Ij (MJ x.Mf) ++ ⟨#[32]⟩ ++ Ij x.max ++ MI x.Ma ++ ⟨#[10]⟩
def Pu (p:aE):ByteArray:=⟨#[112,97,114,116,32]⟩ ++ Ij p.id ++ ⟨#[32]⟩ ++ Ij p.next ++ ⟨#[10]⟩
def NF (p:aE):ByteArray:=if bK p=true then p.ai.foldl N5 (p.ae.foldl Nm (p.ag.foldl NJ (p.L9.foldl NE (p.aj.foldl OT (p.L8.foldl N4 (Pu p)))))) else ⟨#[]⟩
theorem M4 {α:Type} {F:ByteArray→α→ByteArray} {l:List α} {k:Nat} {x:α} {c:ByteArray} (h:l[k]? =o_ x):(l.take (k+1)).foldl F c=F ((l.take k).foldl F c) x:=by
 have hk:=(Lj.1 h).1;rw [List.take_succ_eq_append_getElem hk,List.foldl_append,(Lj.1 h).2];rfl
structure MQ (w:w_) (B:Nat) (p:af) (W:w_):Prop where
 box:av W B p
 MT:af.At W p
 low:B_ w.heap.size w W
theorem MQ.below {w W W2:w_} {B:Nat} {p:af} (h:MQ w B p W) (hb:B_ W.heap.size W W2):MQ w B p W2:=⟨h.box.below hb,h.MT.below hb,h.low.trans (hb.mono h.low.size)⟩
theorem afO {n:Int} (h: -9999999999≤n∧n≤9999999999):(Ij n).size≤2000000000000:=by
 have:=MD h.1 h.2
 omega
theorem Mw {l:List ByteArray} (h:l.length≤1048576) (hs: ∀ x∈l,x.size≤1048576):(MI l).size≤2000000000000:=by
 have h1:=Nf (f:=NS) (l:=l) (m:=1048577) fun y hy=>by have:=hs y hy; rw [Ny]; omega
 have h2:=Nat.mul_le_mul_left 1048577 h;unfold MI;omega
theorem MQ.sem {w W:w_} {B gs k:Nat} {p:af} {x:bD} (h:MQ w B p W) (ha:p.bc=o_ ⟨gs,0,n_⟩) (hx:p.aj[k]? =o_ x):bD.At W gs k x:=by
 obtain ⟨g,h1,h2⟩:=lQ h.MT.2.1 hx;exact Zbn
theorem MQ.event {w W:w_} {B gs k:Nat} {p:af} {x:aB} (h:MQ w B p W) (ha:p.ay=o_ ⟨gs,0,n_⟩) (hx:p.L9[k]? =o_ x):aB.At W gs k x:=by
 obtain ⟨g,h1,h2⟩:=j4 h.MT.2.2.1 hx;exact Zbn
theorem MQ.ajl {w W:w_} {B gs k:Nat} {p:af} {x:az} (h:MQ w B p W) (ha:p.ax=o_ ⟨gs,0,n_⟩) (hx:p.ag[k]? =o_ x):az.At W gs k x:=by
 obtain ⟨g,h1,h2⟩:=jr h.MT.2.2.2.1 hx;exact Zbn
theorem MQ.buffer {w W:w_} {B gs k:Nat} {p:af} {x:au} (h:MQ w B p W) (ha:p.am=o_ ⟨gs,0,n_⟩) (hx:p.ae[k]? =o_ x):au.At W gs k x:=by
 obtain ⟨g,h1,h2⟩:=iA h.MT.2.2.2.2.1 hx;exact Zbn
theorem MQ.port {w W:w_} {B gs k:Nat} {p:af} {x:aM} (h:MQ w B p W) (ha:p.aK=o_ ⟨gs,0,n_⟩) (hx:p.ai[k]? =o_ x):aM.At W gs k x:=by
 obtain ⟨g,h1,h2⟩:=lm h.MT.2.2.2.2.2 hx;exact Zbn
theorem MQ.proc {w W:w_} {B gs k:Nat} {p:af} {x:ao} (h:MQ w B p W) (ha:p.aN=o_ ⟨gs,0,n_⟩) (hx:p.L8[k]? =o_ x):ao.At W gs k x:=by
 obtain ⟨g,h1,h2⟩:=cn h.MT.1 hx;exact Zbn
theorem MS (p:af) (w:w_) (hf:p.Fit) (hs: ∀ x∈p.L8,x.dX) (h:af.At w p):
  k_ J3 31 #[a_ p.cells] w fun e w'=>e=r_ (t_ (NF p.pure))∧B_ w.heap.size w w':=by
 have S:Hid (MQ w w.heap.size p (w.alloc (c_ p.cells 36))):=⟨Kj _ _,h.below ((Kp _ _).alloc (Ki _) _),(Kp _ _).alloc (Ki _) _⟩
 have HF:Hid (p.Fit∧ ∀ x∈p.L8,x.dX):=⟨hf,hs⟩
 clear h hf hs
 go_enter func31,ntmps31
 go_upto_region 1 with fail;generalize w.alloc (c_ p.cells 36)=A at *;have Mb:=eV p A HF.I.1 HF.I.2 S.I.MT;go_wp2_with (refine eT 1 S.I.box ?_);refine Mb.mono ?_;clear Mb;rintro e af8 ⟨rfl,hb⟩;replace S:=aA (S.I.below hb);clear hb;cases hr:bK p.pure
 ·have HT:Hid (NF p.pure=⟨#[]⟩):=if_neg (by rw [hr]; decide)
  clear hr;exact H_
 have HR:=aA ((ch _).1 hr);have HT:=aA (show NF p.pure=_ from if_pos hr);clear hr;have bi: -9999999999≤p.id∧p.id≤9999999999:=by have:=bz.1 HR.I.id; simp only [af.pure] at this; omega
 have Ml: -9999999999≤p.next∧p.next≤9999999999:=by have:=bz.1 HR.I.next; simp only [af.pure] at this; omega
 go_upto_region 3 with fail;refine aT (fun W=>Hid (MQ w w.heap.size p W)) ZcI (S.I.below (Kp _ _).drew) ?_
 iterate 2 (refine PI ?_ (hy:=fun w0 hS0=>by obtain ⟨q0,q1,-,-,-,-,-,-⟩:=hS0.I.box.cells; go_simp; try with_reducible rfl))
 refine b9 (Ij p.id) 65 #[i_ j_ p.id] (fun w0 h0=>(MC _ bi.1 bi.2 w0).mono fun e w1 h=>⟨h.1,h0.I.below h.2⟩) ?_;refine ad (u:=⟨#[112,97,114,116,32]⟩) 1 (by decide) (afO bi) (fun c1 e1 z1=> ?_);refine y7 _ z1 (fun c2 e2 z2=> ?_)
 iterate 2 (refine PI ?_ (hy:=fun w0 hS0=>by obtain ⟨q0,q1,-,-,-,-,-,-⟩:=hS0.I.box.cells; go_simp; try with_reducible rfl))
 refine b9 (Ij p.next) 65 #[i_ j_ p.next] (fun w0 h0=>(MC _ Ml.1 Ml.2 w0).mono fun e w1 h=>⟨h.1,h0.I.below h.2⟩) ?_;refine ad _ z2 (afO Ml) (fun c3 e3 z3=> ?_);refine y7 _ z3 (fun Mn e4 Mj=> ?_);refine PI ?_ (hy:=fun w0 hS0=>by obtain ⟨q0,q1,-,-,-,-,-,-⟩:=hS0.I.box.cells; go_simp; try with_reducible rfl);refine bk ZcI (fun A2 hS2=> ?_) _;have Mh:Hid (Mn=Pu p.pure):=by show _=_; rw [e4.I,e3.I,e2.I,e1.I]; rfl
 clear e4 e3 e2 e1 z1 z2 z3 S bi Ml;have S:=hS2;clear hS2;go_wp2_with fail;have hlProc:p.L8.length≤6:=by have:=HR.I.dl; simp only [af.pure,KG] at this; exact this
 go_loopw [3,4] (fun s i wr=> ∃ (k:Nat) (c:ByteArray),k≤p.L8.length∧i=i_ j_ k∧s=t_ c∧c.size≤2000000000000 * (10+25 * k)∧Hid (c=(p.L8.take k).foldl (fun t x=>N4 t x.toaD) Mn∧MQ w w.heap.size p wr)) (fun _ i _=>p.L8.length - (Go.RowKit.intOf i).toNat)
 case atStart=>exact ⟨0,Mn,Ky _,rfl,rfl,by omega,rfl,S.I⟩
 case round=>
  clear S;obtain ⟨k,c,hk,rfl,rfl,z0,HA⟩:=hrel;by_cases hlt:k < p.L8.length
  ·as_aux_lemma=>
    have i0:(0:Int)≤(k:Int):=by omega
    have i1:(k:Int) < (p.L8.length:Int):=by omega
    obtain ⟨x,hx⟩: ∃ x,p.L8[k]? =o_ x:=⟨_,Kz hlt⟩
    obtain ⟨gs,ha,hat⟩:=cn HA.I.2.MT.1 hx;have HL:=aA (Oy HR.I (x:=x) (Lr.2 ⟨x,KA hx,rfl⟩) (lA HA.I.2.MT.1 hx));have HX:Hid (p.aN=o_ ⟨gs,0,n_⟩∧p.L8[k]? =o_ x):=⟨ha,hx⟩
    have Nv:=HL.I.1 x.id (by simp);have OM:=HL.I.1 x.RX (by simp);have Oe:=HL.I.1 x.Md (by simp);have bpc:=HL.I.1 x.pc (by simp);have O7:=HL.I.1 x.left (by simp);have OW:=HL.I.1 x.Mg (by simp);have bon:=HL.I.1 x.on (by simp);have O9:=HL.I.1 x.code (by simp);have Og:=HL.I.1 x.RU (by simp);obtain ⟨d0,d1,d2,d3,d4,d5,d6,d7,d8,d9,tH,tS⟩:=hat;obtain ⟨-,-,m2,-,-,-,-,-⟩:=HA.I.2.box.cells;rw [ha] at m2;clear hx ha;have HS:Hid (MQ w w.heap.size p (wr.alloc (c_ x.row 44))∧(wr.alloc (c_ x.row 44)).heap[wr.heap.size]? =o_ (c_ x.row 44)):=⟨HA.I.2.below ((Kp _ _).alloc (Ki _) _),Kj _ _⟩
    go_upto_region 8 with fail;generalize wr.alloc (c_ x.row 44)=V at *;generalize wr.heap.size=X at *;clear d0 d1 d2 d3 d4 d5 d6 d7 d8 d9 tH tS m2;have NR:Hid (∀ W W2:w_,Hid (MQ w w.heap.size p W∧W.heap[X]? =o_ (c_ x.row 44))→B_ W.heap.size W W2→Hid (MQ w w.heap.size p W2∧W2.heap[X]? =o_ (c_ x.row 44))):=fun W W2 h hb=>⟨h.I.1.below hb,(hb.block _ (J2.1 h.I.2).1).trans h.I.2⟩
    refine aT (fun W=>Hid (MQ w w.heap.size p W∧W.heap[X]? =o_ (c_ x.row 44))) ZcI (NR.I _ _ HS (Kp _ _).drew) ?_;refine PI ?_ (hy:=fun w0 hS0=>by obtain ⟨q0,q1,q2,q3,q4,q5,q6,q7,q8,q9,kY,kV⟩:=bo hS0.I.2; go_simp; try with_reducible rfl);refine y7 _ z0 (fun c1 e1 z1=> ?_)
    iterate 2 (refine PI ?_ (hy:=fun w0 hS0=>by obtain ⟨q0,q1,q2,q3,q4,q5,q6,q7,q8,q9,kY,kV⟩:=bo hS0.I.2; go_simp; try with_reducible rfl))
    refine b9 (Ij x.id) 65 #[i_ j_ x.id] (fun w0 h0=>(MC _ Nv.1 Nv.2 w0).mono fun e w1 h=>⟨h.1,NR.I _ _ h0 h.2⟩) ?_;refine ad _ z1 (afO Nv) (fun c2 e2 z2=> ?_);refine y7 _ z2 (fun c3 e3 z3=> ?_)
    iterate 2 (refine PI ?_ (hy:=fun w0 hS0=>by obtain ⟨q0,q1,q2,q3,q4,q5,q6,q7,q8,q9,kY,kV⟩:=bo hS0.I.2; go_simp; try with_reducible rfl))
    refine b9 (Ij x.RX) 65 #[i_ j_ x.RX] (fun w0 h0=>(MC _ OM.1 OM.2 w0).mono fun e w1 h=>⟨h.1,NR.I _ _ h0 h.2⟩) ?_;refine ad _ z3 (afO OM) (fun c4 e4 z4=> ?_);refine y7 _ z4 (fun c5 e5 z5=> ?_)
    iterate 2 (refine PI ?_ (hy:=fun w0 hS0=>by obtain ⟨q0,q1,q2,q3,q4,q5,q6,q7,q8,q9,kY,kV⟩:=bo hS0.I.2; go_simp; try with_reducible rfl))
    refine b9 (Ij x.Md) 65 #[i_ j_ x.Md] (fun w0 h0=>(MC _ Oe.1 Oe.2 w0).mono fun e w1 h=>⟨h.1,NR.I _ _ h0 h.2⟩) ?_;refine ad _ z5 (afO Oe) (fun c6 e6 z6=> ?_);refine y7 _ z6 (fun c7 e7 z7=> ?_)
    iterate 2 (refine PI ?_ (hy:=fun w0 hS0=>by obtain ⟨q0,q1,q2,q3,q4,q5,q6,q7,q8,q9,kY,kV⟩:=bo hS0.I.2; go_simp; try with_reducible rfl))
    refine b9 (Ij x.pc) 65 #[i_ j_ x.pc] (fun w0 h0=>(MC _ bpc.1 bpc.2 w0).mono fun e w1 h=>⟨h.1,NR.I _ _ h0 h.2⟩) ?_;refine ad _ z7 (afO bpc) (fun c8 e8 KI=> ?_);refine y7 _ KI (fun c9 e9 z9=> ?_)
    iterate 2 (refine PI ?_ (hy:=fun w0 hS0=>by obtain ⟨q0,q1,q2,q3,q4,q5,q6,q7,q8,q9,kY,kV⟩:=bo hS0.I.2; go_simp; try with_reducible rfl))
    refine b9 (Ij x.left) 65 #[i_ j_ x.left] (fun w0 h0=>(MC _ O7.1 O7.2 w0).mono fun e w1 h=>⟨h.1,NR.I _ _ h0 h.2⟩) ?_;refine ad _ z9 (afO O7) (fun qF Pn z10=> ?_);refine y7 _ z10 (fun pe e11 z11=> ?_)
    iterate 2 (refine PI ?_ (hy:=fun w0 hS0=>by obtain ⟨q0,q1,q2,q3,q4,q5,q6,q7,q8,q9,kY,kV⟩:=bo hS0.I.2; go_simp; try with_reducible rfl))
    refine b9 (Ij x.Mg) 65 #[i_ j_ x.Mg] (fun w0 h0=>(MC _ OW.1 OW.2 w0).mono fun e w1 h=>⟨h.1,NR.I _ _ h0 h.2⟩) ?_;refine ad _ z11 (afO OW) (fun c12 PF z12=> ?_);refine y7 _ z12 (fun c13 PG z13=> ?_)
    iterate 2 (refine PI ?_ (hy:=fun w0 hS0=>by obtain ⟨q0,q1,q2,q3,q4,q5,q6,q7,q8,q9,kY,kV⟩:=bo hS0.I.2; go_simp; try with_reducible rfl))
    refine b9 (Ij x.on) 65 #[i_ j_ x.on] (fun w0 h0=>(MC _ bon.1 bon.2 w0).mono fun e w1 h=>⟨h.1,NR.I _ _ h0 h.2⟩) ?_;refine ad _ z13 (afO bon) (fun c14 e14 z14=> ?_);refine y7 _ z14 (fun c15 e15 z15=> ?_)
    iterate 2 (refine PI ?_ (hy:=fun w0 hS0=>by obtain ⟨q0,q1,q2,q3,q4,q5,q6,q7,q8,q9,kY,kV⟩:=bo hS0.I.2; go_simp; try with_reducible rfl))
    refine b9 (Ij x.code) 65 #[i_ j_ x.code] (fun w0 h0=>(MC _ O9.1 O9.2 w0).mono fun e w1 h=>⟨h.1,NR.I _ _ h0 h.2⟩) ?_;refine ad _ z15 (afO O9) (fun c16 e16 z16=> ?_);refine y7 _ z16 (fun c17 PH z17=> ?_)
    iterate 2 (refine PI ?_ (hy:=fun w0 hS0=>by obtain ⟨q0,q1,q2,q3,q4,q5,q6,q7,q8,q9,kY,kV⟩:=bo hS0.I.2; go_simp; try with_reducible rfl))
    refine b9 (Ij x.RU) 65 #[i_ j_ x.RU] (fun w0 h0=>(MC _ Og.1 Og.2 w0).mono fun e w1 h=>⟨h.1,NR.I _ _ h0 h.2⟩) ?_;refine ad _ z17 (afO Og) (fun c18 e18 z18=> ?_);refine y7 _ z18 (fun c19 e19 z19=> ?_)
    iterate 2 (refine PI ?_ (hy:=fun w0 hS0=>by obtain ⟨q0,q1,q2,q3,q4,q5,q6,q7,q8,q9,kY,kV⟩:=bo hS0.I.2; go_simp; try with_reducible rfl))
    refine ad _ z19 (show x.held.size≤2000000000000 by have:=HL.I.2.2.1.held; omega) (fun c20 e20 z20=> ?_);refine y7 _ z20 (fun c21 e21 z21=> ?_)
    iterate 2 (refine PI ?_ (hy:=fun w0 hS0=>by obtain ⟨q0,q1,q2,q3,q4,q5,q6,q7,q8,q9,kY,kV⟩:=bo hS0.I.2; go_simp; try with_reducible rfl))
    refine ad _ z21 (show x.got.size≤2000000000000 by have:=HL.I.2.2.1.got; omega) (fun c22 e22 z22=> ?_);refine y7 _ z22 (fun c23 e23 z23=> ?_)
    iterate 2 (refine PI ?_ (hy:=fun w0 hS0=>by obtain ⟨q0,q1,q2,q3,q4,q5,q6,q7,q8,q9,kY,kV⟩:=bo hS0.I.2; go_simp; try with_reducible rfl))
    refine b9 (NQ x.prog) 66 #[s_ x.aY x.prog.length x.bH] (fun w0 h0=>(NP _ _ _ w0 HL.I.2.1 HL.I.2.2.1.prog HL.I.2.2.1.ops (lA h0.I.1.MT.1 HX.I.2)).mono fun e w1 h=>⟨h.1,NR.I _ _ h0 h.2⟩) ?_;refine ad _ z23 (show (NQ x.prog).size≤2000000000000 by have:=N8 x.prog; omega) (fun c24 e24 z24=> ?_);refine y7 _ z24 (fun c25 e25 z25=> ?_);refine PI ?_ (hy:=fun w0 hS0=>by obtain ⟨q0,q1,q2,q3,q4,q5,q6,q7,q8,q9,kY,kV⟩:=bo hS0.I.2; go_simp; try with_reducible rfl);refine bk ZcI (fun A3 NO=> ?_) _;have HE:Hid (c25=(p.L8.take (k+1)).foldl (fun t x=>N4 t x.toaD) Mn):=by
     show _=_
     rw [M4 HX.I.2,← HA.I.1,e25.I,e24.I,e23.I,e22.I,e21.I,e20.I,e19.I,e18.I,PH.I,e16.I,e15.I,e14.I,PG.I,PF.I,e11.I,Pn.I,e9.I,e8.I,e7.I,e6.I,e5.I,e4.I,e3.I,e2.I,e1.I];rfl
    clear e1 e2 e3 e4 e5 e6 e7 e8 e9 Pn e11 PF PG e14 e15 e16 PH e18 e19 e20 e21 e22 e23 e24 e25 z1 z2 z3 z4 z5 z6 z7 KI z9 z10 z11 z12 z13 z14 z15 z16 z17 z18 z19 z20 z21 z22 z23 z24;go_wp2;go_roundw
    case rel=>exact ⟨k+1,c25,by omega,by go_num,rfl,by omega,HE.I,NO.I.1⟩
    case measure=>simp [Go.RowKit.intOf]; omega
  have i1: ¬ (k:Int) < (p.L8.length:Int):=by omega
  have ek:k=p.L8.length:=by omega
  obtain ⟨NH,NA⟩: ∃ t,Hid (t=c∧c=p.L8.foldl (fun t x=>N4 t x.toaD) Mn):=⟨c,rfl,by have:=HA.I.1; rwa [ek,LQ] at this⟩
  have yProc:NH.size≤2000000000000 * 160:=by rw [NA.I.1]; omega
  have S:Hid (MQ w w.heap.size p wr):=HA.I.2;have Mi:=NA.I.1;replace NA:Hid (NH=p.L8.foldl (fun t x=>N4 t x.toaD) Mn):=NA.I.1.trans NA.I.2;rw [← Mi];clear Mi HA z0 ek;obtain ⟨wproc,Pc⟩: ∃ W:w_,W=wr:=⟨_,rfl⟩
  rw [← Pc] at S ⊢;clear Pc;obtain ⟨-,-,m2,-,-,-,-,-⟩:=S.I.box.cells;go_wp2_with fail;clear m2 i1;have hlSem:p.aj.length≤5:=by have:=HR.I.fx; simp only [af.pure] at this; exact this
  go_loopw [3,6] (fun s i wr=> ∃ (k:Nat) (c:ByteArray),k≤p.aj.length∧i=i_ j_ k∧s=t_ c∧c.size≤2000000000000 * (160+7 * k)∧Hid (c=(p.aj.take k).foldl (fun t x=>OT t x) NH∧MQ w w.heap.size p wr)) (fun _ i _=>p.aj.length - (Go.RowKit.intOf i).toNat)
  case atStart=>exact ⟨0,NH,Ky _,rfl,rfl,by omega,rfl,S.I⟩
  case round=>
   clear S;obtain ⟨k,c,hk,rfl,rfl,z0,HA⟩:=hrel;by_cases hlt:k < p.aj.length
   ·as_aux_lemma=>
     have i0:(0:Int)≤(k:Int):=by omega
     have i1:(k:Int) < (p.aj.length:Int):=by omega
     obtain ⟨x,hx⟩: ∃ x,p.aj[k]? =o_ x:=⟨_,Kz hlt⟩
     obtain ⟨gs,ha,hat⟩:=lQ HA.I.2.MT.2.1 hx;have HL:=aA (O2 HR.I wr (x:=x) (KA hx));have HX:Hid (p.bc=o_ ⟨gs,0,n_⟩∧p.aj[k]? =o_ x):=⟨ha,hx⟩
     have Nv:=HL.I x.id (by simp);have Ml:=HL.I x.n (by simp);have Nz:=HL.I x.max (by simp);have HC:Hid (∀ W,MQ w w.heap.size p W→W.cell? ⟨w.heap.size,3,n_⟩=o_ (s_ (o_ ⟨gs,0,n_⟩) p.aj.length p.bF)∧bD.At W gs k x):=fun W h=>⟨by obtain ⟨-,-,-,m,-,-,-,-⟩:=h.box.cells; rw [← HX.I.1]; exact m,h.sem HX.I.1 HX.I.2⟩
     obtain ⟨-,-,-,m3,-,-,-,-⟩:=HA.I.2.box.cells;clear hx ha hat;go_upto_region 12 with fail;clear m3;refine aT (fun W=>Hid (MQ w w.heap.size p W)) ZcI (HA.I.2.below (Kp _ _).drew) ?_;refine PI ?_ (hy:=fun w0 hS0=>by obtain ⟨m,q0,q1,q2⟩:=HC.I w0 hS0.I; go_simp; try with_reducible rfl);refine y7 _ z0 (fun c1 e1 z1=> ?_)
     iterate 6 (refine PI ?_ (hy:=fun w0 hS0=>by obtain ⟨m,q0,q1,q2⟩:=HC.I w0 hS0.I; go_simp; try with_reducible rfl))
     refine b9 (Ij x.id) 65 #[i_ j_ x.id] (fun w0 h0=>(MC _ Nv.1 Nv.2 w0).mono fun e w1 h=>⟨h.1,h0.I.below h.2⟩) ?_;refine ad _ z1 (afO Nv) (fun c2 e2 z2=> ?_);refine y7 _ z2 (fun c3 e3 z3=> ?_)
     iterate 6 (refine PI ?_ (hy:=fun w0 hS0=>by obtain ⟨m,q0,q1,q2⟩:=HC.I w0 hS0.I; go_simp; try with_reducible rfl))
     refine b9 (Ij x.n) 65 #[i_ j_ x.n] (fun w0 h0=>(MC _ Ml.1 Ml.2 w0).mono fun e w1 h=>⟨h.1,h0.I.below h.2⟩) ?_;refine ad _ z3 (afO Ml) (fun c4 e4 z4=> ?_);refine y7 _ z4 (fun c5 e5 z5=> ?_)
     iterate 6 (refine PI ?_ (hy:=fun w0 hS0=>by obtain ⟨m,q0,q1,q2⟩:=HC.I w0 hS0.I; go_simp; try with_reducible rfl))
     refine b9 (Ij x.max) 65 #[i_ j_ x.max] (fun w0 h0=>(MC _ Nz.1 Nz.2 w0).mono fun e w1 h=>⟨h.1,h0.I.below h.2⟩) ?_;refine ad _ z5 (afO Nz) (fun c6 e6 z6=> ?_);refine y7 _ z6 (fun c7 e7 z7=> ?_);refine PI ?_ (hy:=fun w0 hS0=>by obtain ⟨m,q0,q1,q2⟩:=HC.I w0 hS0.I; go_simp; try with_reducible rfl);refine bk ZcI (fun A3 NO=> ?_) _;have HE:Hid (c7=(p.aj.take (k+1)).foldl (fun t x=>OT t x) NH):=by
      exact Zb1
     exact ZaE
   have i1: ¬ (k:Int) < (p.aj.length:Int):=by omega
   have ek:k=p.aj.length:=by omega
   obtain ⟨N7,Oh⟩: ∃ t,Hid (t=c∧c=p.aj.foldl (fun t x=>OT t x) NH):=⟨c,rfl,by have:=HA.I.1; rwa [ek,LQ] at this⟩
   have ySem:N7.size≤2000000000000 * 195:=by rw [Oh.I.1]; omega
   have S:Hid (MQ w w.heap.size p wr):=HA.I.2;have Mi:=Oh.I.1;replace Oh:Hid (N7=p.aj.foldl (fun t x=>OT t x) NH):=Oh.I.1.trans Oh.I.2;rw [← Mi];clear Mi HA z0 ek;obtain ⟨wsem,Pr⟩: ∃ W:w_,W=wr:=⟨_,rfl⟩
   rw [← Pr] at S ⊢;clear Pr;obtain ⟨-,-,-,m3,-,-,-,-⟩:=S.I.box.cells;go_wp2_with fail;clear m3 i1;have hlEvent:p.L9.length≤5:=by have:=HR.I.cD; simp only [af.pure] at this; exact this
   go_loopw [3,7] (fun s i wr=> ∃ (k:Nat) (c:ByteArray),k≤p.L9.length∧i=i_ j_ k∧s=t_ c∧c.size≤2000000000000 * (195+5 * k)∧Hid (c=(p.L9.take k).foldl (fun t x=>NE t x) N7∧MQ w w.heap.size p wr)) (fun _ i _=>p.L9.length - (Go.RowKit.intOf i).toNat)
   case atStart=>exact ⟨0,N7,Ky _,rfl,rfl,by omega,rfl,S.I⟩
   case round=>
    clear S;obtain ⟨k,c,hk,rfl,rfl,z0,HA⟩:=hrel;by_cases hlt:k < p.L9.length
    ·as_aux_lemma=>
      have i0:(0:Int)≤(k:Int):=by omega
      have i1:(k:Int) < (p.L9.length:Int):=by omega
      obtain ⟨x,hx⟩: ∃ x,p.L9[k]? =o_ x:=⟨_,Kz hlt⟩
      obtain ⟨gs,ha,hat⟩:=j4 HA.I.2.MT.2.2.1 hx;have HL:=aA (Oi HR.I wr (x:=x) (KA hx));have HX:Hid (p.ay=o_ ⟨gs,0,n_⟩∧p.L9[k]? =o_ x):=⟨ha,hx⟩
      have Nv:=HL.I x.id (by simp);have HC:Hid (∀ W,MQ w w.heap.size p W→W.cell? ⟨w.heap.size,4,n_⟩=o_ (s_ (o_ ⟨gs,0,n_⟩) p.L9.length p.aO)∧aB.At W gs k x):=fun W h=>⟨by obtain ⟨-,-,-,-,m,-,-,-⟩:=h.box.cells; rw [← HX.I.1]; exact m,h.event HX.I.1 HX.I.2⟩
      obtain ⟨-,-,-,-,m4,-,-,-⟩:=HA.I.2.box.cells;clear hx ha hat;go_upto_region 16 with fail;clear m4;refine aT (fun W=>Hid (MQ w w.heap.size p W)) ZcI (HA.I.2.below (Kp _ _).drew) ?_;refine PI ?_ (hy:=fun w0 hS0=>by obtain ⟨m,q0,q1⟩:=HC.I w0 hS0.I; go_simp; try with_reducible rfl);refine y7 _ z0 (fun c1 e1 z1=> ?_)
      iterate 6 (refine PI ?_ (hy:=fun w0 hS0=>by obtain ⟨m,q0,q1⟩:=HC.I w0 hS0.I; go_simp; try with_reducible rfl))
      refine b9 (Ij x.id) 65 #[i_ j_ x.id] (fun w0 h0=>(MC _ Nv.1 Nv.2 w0).mono fun e w1 h=>⟨h.1,h0.I.below h.2⟩) ?_;refine ad _ z1 (afO Nv) (fun c2 e2 z2=> ?_);refine y7 _ z2 (fun c3 e3 z3=> ?_)
      iterate 6 (refine PI ?_ (hy:=fun w0 hS0=>by obtain ⟨m,q0,q1⟩:=HC.I w0 hS0.I; go_simp; try with_reducible rfl))
      refine b9 (Ij (MJ x.up)) 67 #[b_ x.up] (fun w0 h0=>(MX _ w0).mono fun e w1 h=>⟨h.1,by rw [h.2]; exact h0⟩) ?_;refine ad _ z3 (afO (MM _)) (fun c4 e4 z4=> ?_);refine y7 _ z4 (fun c5 e5 z5=> ?_);refine PI ?_ (hy:=fun w0 hS0=>by obtain ⟨m,q0,q1⟩:=HC.I w0 hS0.I; go_simp; try with_reducible rfl);refine bk ZcI (fun A3 NO=> ?_) _;have HE:Hid (c5=(p.L9.take (k+1)).foldl (fun t x=>NE t x) N7):=by
       show _=_
       rw [M4 HX.I.2,← HA.I.1,e5.I,e4.I,e3.I,e2.I,e1.I];rfl
      clear e1 e2 e3 e4 e5 z1 z2 z3 z4;go_wp2;go_roundw
      case rel=>exact ⟨k+1,c5,by omega,by go_num,rfl,by omega,HE.I,NO.I⟩
      case measure=>simp [Go.RowKit.intOf]; omega
    have i1: ¬ (k:Int) < (p.L9.length:Int):=by omega
    have ek:k=p.L9.length:=by omega
    obtain ⟨Ni,Ng⟩: ∃ t,Hid (t=c∧c=p.L9.foldl (fun t x=>NE t x) N7):=⟨c,rfl,by have:=HA.I.1; rwa [ek,LQ] at this⟩
    have yEvent:Ni.size≤2000000000000 * 220:=by rw [Ng.I.1]; omega
    have S:Hid (MQ w w.heap.size p wr):=HA.I.2;have Mi:=Ng.I.1;replace Ng:Hid (Ni=p.L9.foldl (fun t x=>NE t x) N7):=Ng.I.1.trans Ng.I.2;rw [← Mi];clear Mi HA z0 ek;obtain ⟨wevent,Ol⟩: ∃ W:w_,W=wr:=⟨_,rfl⟩
    rw [← Ol] at S ⊢;clear Ol;obtain ⟨-,-,-,-,m4,-,-,-⟩:=S.I.box.cells;go_wp2_with fail;clear m4 i1;have hlBoard:p.ag.length≤5:=by have:=HR.I.cC; simp only [af.pure] at this; exact this
    go_loopw [3,8] (fun s i wr=> ∃ (k:Nat) (c:ByteArray),k≤p.ag.length∧i=i_ j_ k∧s=t_ c∧c.size≤2000000000000 * (220+7 * k)∧Hid (c=(p.ag.take k).foldl (fun t x=>NJ t x) Ni∧MQ w w.heap.size p wr)) (fun _ i _=>p.ag.length - (Go.RowKit.intOf i).toNat)
    case atStart=>exact ⟨0,Ni,Ky _,rfl,rfl,by omega,rfl,S.I⟩
    case round=>
     clear S;obtain ⟨k,c,hk,rfl,rfl,z0,HA⟩:=hrel;by_cases hlt:k < p.ag.length
     ·as_aux_lemma=>
       have i0:(0:Int)≤(k:Int):=by omega
       have i1:(k:Int) < (p.ag.length:Int):=by omega
       obtain ⟨x,hx⟩: ∃ x,p.ag[k]? =o_ x:=⟨_,Kz hlt⟩
       obtain ⟨gs,ha,hat⟩:=jr HA.I.2.MT.2.2.2.1 hx;have HL:=aA (N9 HR.I wr (x:=x) (KA hx));have HX:Hid (p.ax=o_ ⟨gs,0,n_⟩∧p.ag[k]? =o_ x):=⟨ha,hx⟩
       have Nv:=HL.I.1 x.id (by simp);have HC:Hid (∀ W,MQ w w.heap.size p W→W.cell? ⟨w.heap.size,5,n_⟩=o_ (s_ (o_ ⟨gs,0,n_⟩) p.ag.length p.aP)∧az.At W gs k x):=fun W h=>⟨by obtain ⟨-,-,-,-,-,m,-,-⟩:=h.box.cells; rw [← HX.I.1]; exact m,h.ajl HX.I.1 HX.I.2⟩
       obtain ⟨-,-,-,-,-,m5,-,-⟩:=HA.I.2.box.cells;clear hx ha hat;go_upto_region 20 with fail;clear m5;refine aT (fun W=>Hid (MQ w w.heap.size p W)) ZcI (HA.I.2.below (Kp _ _).drew) ?_;refine PI ?_ (hy:=fun w0 hS0=>by obtain ⟨m,q0,q1,q2⟩:=HC.I w0 hS0.I; go_simp; try with_reducible rfl);refine y7 _ z0 (fun c1 e1 z1=> ?_)
       iterate 6 (refine PI ?_ (hy:=fun w0 hS0=>by obtain ⟨m,q0,q1,q2⟩:=HC.I w0 hS0.I; go_simp; try with_reducible rfl))
       refine b9 (Ij x.id) 65 #[i_ j_ x.id] (fun w0 h0=>(MC _ Nv.1 Nv.2 w0).mono fun e w1 h=>⟨h.1,h0.I.below h.2⟩) ?_;refine ad _ z1 (afO Nv) (fun c2 e2 z2=> ?_);refine y7 _ z2 (fun c3 e3 z3=> ?_)
       iterate 6 (refine PI ?_ (hy:=fun w0 hS0=>by obtain ⟨m,q0,q1,q2⟩:=HC.I w0 hS0.I; go_simp; try with_reducible rfl))
       refine b9 (Ij (MJ x.shown)) 67 #[b_ x.shown] (fun w0 h0=>(MX _ w0).mono fun e w1 h=>⟨h.1,by rw [h.2]; exact h0⟩) ?_;refine ad _ z3 (afO (MM _)) (fun c4 e4 z4=> ?_);refine y7 _ z4 (fun c5 e5 z5=> ?_)
       iterate 6 (refine PI ?_ (hy:=fun w0 hS0=>by obtain ⟨m,q0,q1,q2⟩:=HC.I w0 hS0.I; go_simp; try with_reducible rfl))
       refine ad _ z5 (show x.text.size≤2000000000000 by have:=HL.I.2; omega) (fun c6 e6 z6=> ?_);refine y7 _ z6 (fun c7 e7 z7=> ?_);refine PI ?_ (hy:=fun w0 hS0=>by obtain ⟨m,q0,q1,q2⟩:=HC.I w0 hS0.I; go_simp; try with_reducible rfl);refine bk ZcI (fun A3 NO=> ?_) _;have HE:Hid (c7=(p.ag.take (k+1)).foldl (fun t x=>NJ t x) Ni):=by
        exact Zb1
       exact ZaE
     have i1: ¬ (k:Int) < (p.ag.length:Int):=by omega
     have ek:k=p.ag.length:=by omega
     obtain ⟨Nd,Nc⟩: ∃ t,Hid (t=c∧c=p.ag.foldl (fun t x=>NJ t x) Ni):=⟨c,rfl,by have:=HA.I.1; rwa [ek,LQ] at this⟩
     have yBoard:Nd.size≤2000000000000 * 255:=by rw [Nc.I.1]; omega
     have S:Hid (MQ w w.heap.size p wr):=HA.I.2;have Mi:=Nc.I.1;replace Nc:Hid (Nd=p.ag.foldl (fun t x=>NJ t x) Ni):=Nc.I.1.trans Nc.I.2;rw [← Mi];clear Mi HA z0 ek;obtain ⟨wboard,Om⟩: ∃ W:w_,W=wr:=⟨_,rfl⟩
     rw [← Om] at S ⊢;clear Om;obtain ⟨-,-,-,-,-,m5,-,-⟩:=S.I.box.cells;go_wp2_with fail;clear m5 i1;have hlBuffer:p.ae.length≤5:=by have:=HR.I.cb; simp only [af.pure,KG] at this; exact this
     go_loopw [3,9] (fun s i wr=> ∃ (k:Nat) (c:ByteArray),k≤p.ae.length∧i=i_ j_ k∧s=t_ c∧c.size≤2000000000000 * (255+6 * k)∧Hid (c=(p.ae.take k).foldl (fun t x=>Nm t x.toci) Nd∧MQ w w.heap.size p wr)) (fun _ i _=>p.ae.length - (Go.RowKit.intOf i).toNat)
     case atStart=>exact ⟨0,Nd,Ky _,rfl,rfl,by omega,rfl,S.I⟩
     case round=>
      clear S;obtain ⟨k,c,hk,rfl,rfl,z0,HA⟩:=hrel;by_cases hlt:k < p.ae.length
      ·as_aux_lemma=>
        have i0:(0:Int)≤(k:Int):=by omega
        have i1:(k:Int) < (p.ae.length:Int):=by omega
        obtain ⟨x,hx⟩: ∃ x,p.ae[k]? =o_ x:=⟨_,Kz hlt⟩
        obtain ⟨gs,ha,hat⟩:=iA HA.I.2.MT.2.2.2.2.1 hx;have HL:=aA (N3 HR.I (x:=x) (Lr.2 ⟨x,KA hx,rfl⟩) (lj HA.I.2.MT.2.2.2.2.1 hx));have HX:Hid (p.am=o_ ⟨gs,0,n_⟩∧p.ae[k]? =o_ x):=⟨ha,hx⟩
        have Nv:=HL.I.1 x.id (by simp);have Nz:=HL.I.1 x.max (by simp);have HC:Hid (∀ W,MQ w w.heap.size p W→W.cell? ⟨w.heap.size,6,n_⟩=o_ (s_ (o_ ⟨gs,0,n_⟩) p.ae.length p.aG)∧au.At W gs k x):=fun W h=>⟨by obtain ⟨-,-,-,-,-,-,m,-⟩:=h.box.cells; rw [← HX.I.1]; exact m,h.buffer HX.I.1 HX.I.2⟩
        obtain ⟨-,-,-,-,-,-,m6,-⟩:=HA.I.2.box.cells;clear hx ha hat;go_upto_region 24 with fail;clear m6;refine aT (fun W=>Hid (MQ w w.heap.size p W)) ZcI (HA.I.2.below (Kp _ _).drew) ?_;refine PI ?_ (hy:=fun w0 hS0=>by obtain ⟨m,q0,q1,q2⟩:=HC.I w0 hS0.I; go_simp; try with_reducible rfl);refine y7 _ z0 (fun c1 e1 z1=> ?_)
        iterate 6 (refine PI ?_ (hy:=fun w0 hS0=>by obtain ⟨m,q0,q1,q2⟩:=HC.I w0 hS0.I; go_simp; try with_reducible rfl))
        refine b9 (Ij x.id) 65 #[i_ j_ x.id] (fun w0 h0=>(MC _ Nv.1 Nv.2 w0).mono fun e w1 h=>⟨h.1,h0.I.below h.2⟩) ?_;refine ad _ z1 (afO Nv) (fun c2 e2 z2=> ?_);refine y7 _ z2 (fun c3 e3 z3=> ?_)
        iterate 6 (refine PI ?_ (hy:=fun w0 hS0=>by obtain ⟨m,q0,q1,q2⟩:=HC.I w0 hS0.I; go_simp; try with_reducible rfl))
        refine b9 (Ij x.max) 65 #[i_ j_ x.max] (fun w0 h0=>(MC _ Nz.1 Nz.2 w0).mono fun e w1 h=>⟨h.1,h0.I.below h.2⟩) ?_;refine ad _ z3 (afO Nz) (fun c4 e4 z4=> ?_)
        iterate 6 (refine PI ?_ (hy:=fun w0 hS0=>by obtain ⟨m,q0,q1,q2⟩:=HC.I w0 hS0.I; go_simp; try with_reducible rfl))
        refine b9 (MI x.Ma) 68 #[s_ x.ak x.Ma.length x.aq] (fun w0 h0=>(Nx _ _ _ w0 HL.I.2.1 HL.I.2.2.1 (lj h0.I.MT.2.2.2.2.1 HX.I.2)).mono fun e w1 h=>⟨h.1,by rw [h.2]; exact h0⟩) ?_;refine ad _ z4 (Mw HL.I.2.1 HL.I.2.2.1) (fun c5 e5 z5=> ?_);refine y7 _ z5 (fun c6 e6 z6=> ?_);refine PI ?_ (hy:=fun w0 hS0=>by obtain ⟨m,q0,q1,q2⟩:=HC.I w0 hS0.I; go_simp; try with_reducible rfl);refine bk ZcI (fun A3 NO=> ?_) _;have HE:Hid (c6=(p.ae.take (k+1)).foldl (fun t x=>Nm t x.toci) Nd):=by
         show _=_
         rw [M4 HX.I.2,← HA.I.1,e6.I,e5.I,e4.I,e3.I,e2.I,e1.I];rfl
        clear e1 e2 e3 e4 e5 e6 z1 z2 z3 z4 z5;go_wp2;go_roundw
        case rel=>exact ⟨k+1,c6,by omega,by go_num,rfl,by omega,HE.I,NO.I⟩
        case measure=>simp [Go.RowKit.intOf]; omega
      have i1: ¬ (k:Int) < (p.ae.length:Int):=by omega
      have ek:k=p.ae.length:=by omega
      obtain ⟨MW,MV⟩: ∃ t,Hid (t=c∧c=p.ae.foldl (fun t x=>Nm t x.toci) Nd):=⟨c,rfl,by have:=HA.I.1; rwa [ek,LQ] at this⟩
      have yBuffer:MW.size≤2000000000000 * 285:=by rw [MV.I.1]; omega
      have S:Hid (MQ w w.heap.size p wr):=HA.I.2;have Mi:=MV.I.1;replace MV:Hid (MW=p.ae.foldl (fun t x=>Nm t x.toci) Nd):=MV.I.1.trans MV.I.2;rw [← Mi];clear Mi HA z0 ek;obtain ⟨wbuffer,NZ⟩: ∃ W:w_,W=wr:=⟨_,rfl⟩
      rw [← NZ] at S ⊢;clear NZ;obtain ⟨-,-,-,-,-,-,m6,-⟩:=S.I.box.cells;go_wp2_with fail;clear m6 i1;have hlPort:p.ai.length≤5:=by have:=HR.I.dH; simp only [af.pure,KG] at this; exact this
      go_loopw [3,10] (fun s i wr=> ∃ (k:Nat) (c:ByteArray),k≤p.ai.length∧i=i_ j_ k∧s=t_ c∧c.size≤2000000000000 * (285+10 * k)∧Hid (c=(p.ai.take k).foldl (fun t x=>N5 t x.todS) MW∧MQ w w.heap.size p wr)) (fun _ i _=>p.ai.length - (Go.RowKit.intOf i).toNat)
      case atStart=>exact ⟨0,MW,Ky _,rfl,rfl,by omega,rfl,S.I⟩
      case round=>
       clear S;obtain ⟨k,c,hk,rfl,rfl,z0,HA⟩:=hrel;by_cases hlt:k < p.ai.length
       ·as_aux_lemma=>
         have i0:(0:Int)≤(k:Int):=by omega
         have i1:(k:Int) < (p.ai.length:Int):=by omega
         obtain ⟨x,hx⟩: ∃ x,p.ai[k]? =o_ x:=⟨_,Kz hlt⟩
         obtain ⟨gs,ha,hat⟩:=lm HA.I.2.MT.2.2.2.2.2 hx;have HL:=aA (OA HR.I (x:=x) (Lr.2 ⟨x,KA hx,rfl⟩) (nJ HA.I.2.MT.2.2.2.2.2 hx));have HX:Hid (p.aK=o_ ⟨gs,0,n_⟩∧p.ai[k]? =o_ x):=⟨ha,hx⟩
         have Nv:=HL.I.1 x.id (by simp);have Nz:=HL.I.1 x.max (by simp);obtain ⟨d0,d1,d2,d3,d4⟩:=hat;obtain ⟨-,-,-,-,-,-,-,m7⟩:=HA.I.2.box.cells;rw [ha] at m7;clear hx ha;have HS:Hid (MQ w w.heap.size p (wr.alloc (c_ #[i_ j_ x.id,b_ x.I,b_ x.Mf,i_ j_ x.max,s_ x.ak x.Ma.length x.aq] 132))∧(wr.alloc (c_ #[i_ j_ x.id,b_ x.I,b_ x.Mf,i_ j_ x.max,s_ x.ak x.Ma.length x.aq] 132)).heap[wr.heap.size]? =o_ (c_ #[i_ j_ x.id,b_ x.I,b_ x.Mf,i_ j_ x.max,s_ x.ak x.Ma.length x.aq] 132)):=⟨HA.I.2.below ((Kp _ _).alloc (Ki _) _),Kj _ _⟩
         go_upto_region 29 with fail;generalize wr.alloc (c_ #[i_ j_ x.id,b_ x.I,b_ x.Mf,i_ j_ x.max,s_ x.ak x.Ma.length x.aq] 132)=V at *;generalize wr.heap.size=X at *;clear d0 d1 d2 d3 d4 m7;have NR:Hid (∀ W W2:w_,Hid (MQ w w.heap.size p W∧W.heap[X]? =o_ (c_ #[i_ j_ x.id,b_ x.I,b_ x.Mf,i_ j_ x.max,s_ x.ak x.Ma.length x.aq] 132))→B_ W.heap.size W W2→Hid (MQ w w.heap.size p W2∧W2.heap[X]? =o_ (c_ #[i_ j_ x.id,b_ x.I,b_ x.Mf,i_ j_ x.max,s_ x.ak x.Ma.length x.aq] 132))):=fun W W2 h hb=>⟨h.I.1.below hb,(hb.block _ (J2.1 h.I.2).1).trans h.I.2⟩
         refine aT (fun W=>Hid (MQ w w.heap.size p W∧W.heap[X]? =o_ (c_ #[i_ j_ x.id,b_ x.I,b_ x.Mf,i_ j_ x.max,s_ x.ak x.Ma.length x.aq] 132))) ZcI (NR.I _ _ HS (Kp _ _).drew) ?_;refine PI ?_ (hy:=fun w0 hS0=>by obtain ⟨q0,q1,q2,q3,q4⟩:=gE hS0.I.2; go_simp; try with_reducible rfl);refine y7 _ z0 (fun c1 e1 z1=> ?_)
         iterate 2 (refine PI ?_ (hy:=fun w0 hS0=>by obtain ⟨q0,q1,q2,q3,q4⟩:=gE hS0.I.2; go_simp; try with_reducible rfl))
         refine b9 (Ij x.id) 65 #[i_ j_ x.id] (fun w0 h0=>(MC _ Nv.1 Nv.2 w0).mono fun e w1 h=>⟨h.1,NR.I _ _ h0 h.2⟩) ?_;refine ad _ z1 (afO Nv) (fun c2 e2 z2=> ?_);refine y7 _ z2 (fun c3 e3 z3=> ?_)
         iterate 2 (refine PI ?_ (hy:=fun w0 hS0=>by obtain ⟨q0,q1,q2,q3,q4⟩:=gE hS0.I.2; go_simp; try with_reducible rfl))
         refine b9 (Ij (MJ x.I)) 67 #[b_ x.I] (fun w0 h0=>(MX _ w0).mono fun e w1 h=>⟨h.1,by rw [h.2]; exact h0⟩) ?_;refine ad _ z3 (afO (MM _)) (fun c4 e4 z4=> ?_);refine y7 _ z4 (fun c5 e5 z5=> ?_)
         iterate 2 (refine PI ?_ (hy:=fun w0 hS0=>by obtain ⟨q0,q1,q2,q3,q4⟩:=gE hS0.I.2; go_simp; try with_reducible rfl))
         refine b9 (Ij (MJ x.Mf)) 67 #[b_ x.Mf] (fun w0 h0=>(MX _ w0).mono fun e w1 h=>⟨h.1,by rw [h.2]; exact h0⟩) ?_;refine ad _ z5 (afO (MM _)) (fun c6 e6 z6=> ?_);refine y7 _ z6 (fun c7 e7 z7=> ?_)
         iterate 2 (refine PI ?_ (hy:=fun w0 hS0=>by obtain ⟨q0,q1,q2,q3,q4⟩:=gE hS0.I.2; go_simp; try with_reducible rfl))
         refine b9 (Ij x.max) 65 #[i_ j_ x.max] (fun w0 h0=>(MC _ Nz.1 Nz.2 w0).mono fun e w1 h=>⟨h.1,NR.I _ _ h0 h.2⟩) ?_;refine ad _ z7 (afO Nz) (fun c8 e8 KI=> ?_)
         iterate 2 (refine PI ?_ (hy:=fun w0 hS0=>by obtain ⟨q0,q1,q2,q3,q4⟩:=gE hS0.I.2; go_simp; try with_reducible rfl))
         refine b9 (MI x.Ma) 68 #[s_ x.ak x.Ma.length x.aq] (fun w0 h0=>(Nx _ _ _ w0 HL.I.2.1 HL.I.2.2.1 (nJ h0.I.1.MT.2.2.2.2.2 HX.I.2)).mono fun e w1 h=>⟨h.1,by rw [h.2]; exact h0⟩) ?_;refine ad _ KI (Mw HL.I.2.1 HL.I.2.2.1) (fun c9 e9 z9=> ?_);refine y7 _ z9 (fun qF Pn z10=> ?_);refine PI ?_ (hy:=fun w0 hS0=>by obtain ⟨q0,q1,q2,q3,q4⟩:=gE hS0.I.2; go_simp; try with_reducible rfl);refine bk ZcI (fun A3 NO=> ?_) _;have HE:Hid (qF=(p.ai.take (k+1)).foldl (fun t x=>N5 t x.todS) MW):=by
          show _=_
          rw [M4 HX.I.2,← HA.I.1,Pn.I,e9.I,e8.I,e7.I,e6.I,e5.I,e4.I,e3.I,e2.I,e1.I];rfl
         clear e1 e2 e3 e4 e5 e6 e7 e8 e9 Pn z1 z2 z3 z4 z5 z6 z7 KI z9;go_wp2;go_roundw
         case rel=>exact ⟨k+1,qF,by omega,by go_num,rfl,by omega,HE.I,NO.I.1⟩
         case measure=>simp [Go.RowKit.intOf]; omega
       have i1: ¬ (k:Int) < (p.ai.length:Int):=by omega
       have ek:k=p.ai.length:=by omega
       obtain ⟨O3,NM⟩: ∃ t,Hid (t=c∧c=p.ai.foldl (fun t x=>N5 t x.todS) MW):=⟨c,rfl,by have:=HA.I.1; rwa [ek,LQ] at this⟩
       have yPort:O3.size≤2000000000000 * 335:=by rw [NM.I.1]; omega
       have S:Hid (MQ w w.heap.size p wr):=HA.I.2;have Mi:=NM.I.1;replace NM:Hid (O3=p.ai.foldl (fun t x=>N5 t x.todS) MW):=NM.I.1.trans NM.I.2;rw [← Mi];clear Mi HA z0 ek;obtain ⟨wport,O8⟩: ∃ W:w_,W=wr:=⟨_,rfl⟩
       rw [← O8] at S ⊢;clear O8;obtain ⟨-,-,-,-,-,-,-,m7⟩:=S.I.box.cells;have HQ:Hid (O3=NF p.pure):=by
        show _=_
        rw [HT.I,NM.I,MV.I,Nc.I,Ng.I,Oh.I,NA.I,Mh.I];simp only [af.pure,List.foldl_map]
       clear HT NM MV Nc Ng Oh NA Mh;go_wp2;go_ret;exact ⟨by rw [← HQ.I]; rfl,S.I.low⟩
end
end Go.Proofs.YtgdmbemagdbmaaaGreatDoor
