/- What the proof leans on, part 6. -/
import Derived.Test.YtfncpmaefninjaaGreatDoorOwnS5
import Derived.Laws.CopyOwn
set_option linter.defProp false
set_option linter.unusedVariables false
set_option maxRecDepth 100000
set_option maxHeartbeats 8000000
open Go.Proofs.Tryz
open Go renaming World->w_,Value->v_,Calls->k_,Addr->d_,TypeId->T_,below_setRow->q_
open Go.Ending renaming returned->r_
open Go.IntKind renaming i64->j_
open Go.Obj renaming cells->c_
open Go.RowKit renaming Below->B_
open Go.Value renaming int->i_,slice->s_,bool->b_,string->t_,agg->a_,pointer->p_,tuple->u_
open Option renaming some->o_,none->n_
open Array renaming getElem?_eq_some_iff->J2
open Bool renaming and_eq_true->J7,false_eq_true->J5
open Function renaming comp_def->Ls
open Go renaming frozen_of_row->Ko,heap_alloc2_new->Kq,heap_alloc_new->Kj,setRow_heap->KU,setRow_other->KH,wpList_append_own_at->KD,wp_at_succ->Kd,wp_at_zero->Kc,wp_region_held_drew->Kr
open Go.Proofs.Tryz renaming prog->J3
open Go.RowKit.Below renaming refl->Kp
open Go.World renaming cell?_of_block->J1,news_of_block->KE,ownsRow_nil->Ke
open List renaming append_assoc->Lm,filterMap_cons->LH,filter_cons->LN,find?_cons->LL,getElem?_eq_getElem->Kz,getElem?_eq_some_iff->Lj,getElem?_map->Kk,getElem_cons_succ->K1,getElem_cons_zero->K0,getElem_toArray->KZ,length_map->KG,length_set->LI,map_append->Kl,map_cons->Lt,mem_append->Kg,mem_append_left->Lz,mem_append_right->Ly,mem_cons->Kt,mem_cons_of_mem->LB,mem_filterMap->Lq,mem_map->Lr,mem_of_getElem?->KA,mem_singleton->KB,nodup_append->Kf,nodup_cons->Lp,not_mem_nil->Ku,pairwise_cons->LM,setIfInBounds_toArray->Qr,set_cons_succ->Lo,set_cons_zero->Ln,take_of_length_le->KF
open Nat renaming le_refl->Ki,lt_of_lt_of_le->Kn,zero_le->Ky
open Option renaming map_eq_some_iff->Kw
open Option.some renaming inj->KC,injEq->LF
open Prod.mk renaming injEq->Kx

namespace Go.Proofs.YtfncpmaefninjaaGreatDoor
def zo {P:Prop} (h:P:=by omega):P:=h
def zw {P:Prop} (h:P:=by simp):P:=h
section
open Go.RowKit
attribute [local go_sem ↓] Kc Kd

end
section
open Go.RowKit
def four (a b c d:List Nat):Nat->List Nat
 | 0=>a
 | 1=>b
 | 2=>c
 | 3=>d
 | _=> []
structure mJ (n0 n:Nat) (X:Nat->List Nat):Prop where
 apart: ∀ i j,i≠j-> ∀ q∈X i,q∉X j
 xy: ∀ i,∀ q∈X i,n0<=q/\q < n
def mJ.up {n0 n n':Nat} {X X':Nat->List Nat} (h:mJ n0 n X) (k:Nat) (hk: ∀ j,j≠k->X' j=X j) (hx: ∀ q∈X' k,q∈X k\/q=n) (hn:n < n') (h0:n0<=n):mJ n0 n' X':=by
 refine ⟨fun i j hij q hi hj=> ?_,fun i q hi=> ?_⟩
 .by_cases ei:i=k
  .subst ei
   rw [hk j (Ne.symm hij)] at hj;rcases hx q hi with h1 | rfl
   .exact h.apart i j hij q h1 hj
   .have:=(h.xy j q hj).2; omega
  .rw [hk i ei] at hi
   by_cases ej:j=k
   .subst ej
    rcases hx q hj with h1 | rfl
    .exact h.apart i j hij q hi h1
    .have:=(h.xy i q hi).2; omega
   .rw [hk j ej] at hj
    exact h.apart i j hij q hi hj
 .by_cases ei:i=k
  .subst ei
   rcases hx q hi with h1 | rfl
   .have:=h.xy i q h1; omega
   .omega
  .rw [hk i ei] at hi
   have:=h.xy i q hi
   omega
def mJ.mono {n0 n n':Nat} {X:Nat->List Nat} (h:mJ n0 n X) (hn:n<=n'):mJ n0 n' X:=⟨h.apart,fun i q hq=>by have:=h.xy i q hq; omega⟩
structure fI (p:af) (We w:w_) (b0 d0 b1 d1 b2 d2 b3 d3 e:Bool) (g0 g1 g2 o:Nat) (a0 a1 a2:Option d_) (c0 c1 c2:Nat):Prop where
 cd:B_ We.heap.size We w
 part:av w We.heap.size p
 ret:w.heap[We.heap.size+1]? =o_ (c_ ar 31)
 s0:su w (We.heap.size+2) 89 3 p.aj.length (dm.flat p.aj) b0 d0 g0 a0 c0
 s1:su w (We.heap.size+2) 91 2 p.L9.length (bJ.flat p.L9) b1 d1 g1 a1 c1
 s2:su w (We.heap.size+2) 93 3 p.ag.length (bG.flat p.ag) b2 d2 g2 a2 c2
 I:b3=true->w.heap[o]? =o_ (c_ (bif d3 then #[i_ j_ p.id,i_ j_ p.next,s_ n_ 0 0,s_ a0 p.aj.length c0,s_ a1 p.L9.length c1,s_ a2 p.ag.length c2,s_ n_ 0 0,s_ n_ 0 0] else ar) 31)
 cl:(e=true->d0=true/\d1=true/\d2=true)/\(d3=true->e=true/\b3=true)
 size:We.heap.size+2<=w.heap.size
 pR:mJ (We.heap.size+2) w.heap.size (four (bM b0 d0 g0 a0) (bM b1 d1 g1 a1) (bM b2 d2 g2 a2) (bif b3 then [o] else []))
section
variable {p:af} {We w:w_} {b0 d0 b1 d1 b2 d2 b3 d3 e:Bool} {g0 g1 g2 o:Nat} {a0 a1 a2:Option d_} {c0 c1 c2:Nat}
def fI.aaZ (h:fI p We w false d0 b1 d1 b2 d2 b3 d3 e g0 g1 g2 o a0 a1 a2 c0 c1 c2):fI p We (w.alloc (c_ #[] 89)) true d0 b1 d1 b2 d2 b3 d3 e w.heap.size g1 g2 o a0 a1 a2 c0 c1 c2:=by
 have hb:B_ w.heap.size w (w.alloc (c_ #[] 89)):=(Kp _ _).alloc (Ki _) _;have hlt: ∀ i,∀ q∈four (bM false d0 g0 a0) (bM b1 d1 g1 a1) (bM b2 d2 g2 a2) (bif b3 then [o] else []) i,q < w.heap.size:=fun i q hq=>(h.pR.xy i q hq).2
 exact ⟨h.cd.trans (hb.mono h.cd.size),h.part.below hb,(hb.block _ Zdi).trans h.ret,⟨fun _ hd=>⟨Kj _ _,h.size⟩,fun hd=>aL (h.s0.done hd) fun q hq=>hb.block q (hlt 0 q Zdw)⟩,h.s1.same fun q hq=>hb.block q (hlt 1 q hq),h.s2.same fun q hq=>hb.block q (hlt 2 q hq),fun e=>(hb.block _ (hlt 3 o Zdv)).trans (h.I e),h.cl,by have:=h.size; simp; omega,h.pR.up 0 (fun j hj=>by rcases j with _ | _ | _ | _ | _ <;> first | rfl | exact absurd rfl hj) (fun q hq=>by cases d0 with | true=>exact .inl Zdf | false=>exact .inr Zdf) zw h.size⟩
def fI.abg (h:fI p We w b0 d0 false d1 b2 d2 b3 d3 e g0 g1 g2 o a0 a1 a2 c0 c1 c2):fI p We (w.alloc (c_ #[] 91)) b0 d0 true d1 b2 d2 b3 d3 e g0 w.heap.size g2 o a0 a1 a2 c0 c1 c2:=by
 have hb:B_ w.heap.size w (w.alloc (c_ #[] 91)):=(Kp _ _).alloc (Ki _) _;have hlt: ∀ i,∀ q∈four (bM b0 d0 g0 a0) (bM false d1 g1 a1) (bM b2 d2 g2 a2) (bif b3 then [o] else []) i,q < w.heap.size:=fun i q hq=>(h.pR.xy i q hq).2
 exact ⟨h.cd.trans (hb.mono h.cd.size),h.part.below hb,(hb.block _ Zdi).trans h.ret,h.s0.same fun q hq=>hb.block q (hlt 0 q hq),⟨fun _ hd=>⟨Kj _ _,h.size⟩,fun hd=>aL (h.s1.done hd) fun q hq=>hb.block q (hlt 1 q Zdw)⟩,h.s2.same fun q hq=>hb.block q (hlt 2 q hq),fun e=>(hb.block _ (hlt 3 o Zdv)).trans (h.I e),h.cl,by have:=h.size; simp; omega,h.pR.up 1 (fun j hj=>by rcases j with _ | _ | _ | _ | _ <;> first | rfl | exact absurd rfl hj) (fun q hq=>by cases d1 with | true=>exact .inl Zdf | false=>exact .inr Zdf) zw h.size⟩
def fI.make2 (h:fI p We w b0 d0 b1 d1 false d2 b3 d3 e g0 g1 g2 o a0 a1 a2 c0 c1 c2):fI p We (w.alloc (c_ #[] 93)) b0 d0 b1 d1 true d2 b3 d3 e g0 g1 w.heap.size o a0 a1 a2 c0 c1 c2:=by
 have hb:B_ w.heap.size w (w.alloc (c_ #[] 93)):=(Kp _ _).alloc (Ki _) _;have hlt: ∀ i,∀ q∈four (bM b0 d0 g0 a0) (bM b1 d1 g1 a1) (bM false d2 g2 a2) (bif b3 then [o] else []) i,q < w.heap.size:=fun i q hq=>(h.pR.xy i q hq).2
 exact ⟨h.cd.trans (hb.mono h.cd.size),h.part.below hb,(hb.block _ Zdi).trans h.ret,h.s0.same fun q hq=>hb.block q (hlt 0 q hq),h.s1.same fun q hq=>hb.block q (hlt 1 q hq),⟨fun _ hd=>⟨Kj _ _,h.size⟩,fun hd=>aL (h.s2.done hd) fun q hq=>hb.block q (hlt 2 q Zdw)⟩,fun e=>(hb.block _ (hlt 3 o Zdv)).trans (h.I e),h.cl,by have:=h.size; simp; omega,h.pR.up 2 (fun j hj=>by rcases j with _ | _ | _ | _ | _ <;> first | rfl | exact absurd rfl hj) (fun q hq=>by cases d2 with | true=>exact .inl Zdf | false=>exact .inr Zdf) zw h.size⟩
def fI.aa1 {w2:w_} {a:Option d_} {c:Nat} (h:fI p We w true false b1 d1 b2 d2 b3 d3 e g0 g1 g2 o a0 a1 a2 c0 c1 c2) (ho:w2.ownsRow (We.heap.size+2) 89 3 (s_ a p.aj.length c) p.aj.length (dm.flat p.aj)) (hg:w.grownBy w2 (o_ g0)) (hq: ∀ q∈blk a,q=g0\/q=w.heap.size):fI p We w2 true true b1 d1 b2 d2 b3 d3 e g0 g1 g2 o a a1 a2 c c1 c2:=by
 have hlt: ∀ i,∀ q∈four (bM true false g0 a0) (bM b1 d1 g1 a1) (bM b2 d2 g2 a2) (bif b3 then [o] else []) i,q < w.heap.size:=fun i q hq=>(h.pR.xy i q hq).2
 have hgl:We.heap.size+2<=g0/\g0 < w.heap.size:=h.pR.xy 0 g0 (by simp [four,bM]);have hne: ∀ i,i≠0-> ∀ q∈four (bM true false g0 a0) (bM b1 d1 g1 a1) (bM b2 d2 g2 a2) (bif b3 then [o] else []) i,w2.heap[q]? =w.heap[q]? :=fun i hi q hq=>hg.block q (hlt i q hq) fun e=>h.pR.apart i 0 hi q hq ZdX
 have hbe:B_ We.heap.size We w2:=h.cd.grown hg Zdi (fun k hk=>by cases hk; omega);have he:e=false:=by cases e with | false=>rfl | true=>have:=h.cl.1 rfl; simp at this
 have hd:d3=false:=by cases hx:d3 with | false=>rfl | true=>rw [(h.cl.2 hx).1] at he; cases he
 subst he hd;have hz:=hg.size;have hsz:=h.size;refine ⟨hbe,(hg.block _ zo (fun e=>by have:=KC e; omega)).trans h.part,(hg.block _ zo (fun e=>by have:=KC e; omega)).trans h.ret,⟨(fun _ hd=>by cases hd),fun _=>ho⟩,h.s1.same fun q hq=>hne 1 (by decide) q hq,h.s2.same fun q hq=>hne 2 (by decide) q hq,fun e=>(hne 3 (by decide) o Zdv).trans (h.I e),⟨(fun e=>by cases e),fun e=>by cases e⟩,zo,?_⟩;by_cases hnew: ∃ q∈blk a,q=w.heap.size
 .obtain ⟨q0,nu,hqe⟩:=hnew
  have hw2:=(cf ho nu).2;refine h.pR.up 0 (fun j hj=>by rcases j with _ | _ | _ | _ | _ <;> first | rfl | exact absurd rfl hj) (fun q hq'=> ?_) zo hsz;exact Zai
 .have hall: ∀ q∈blk a,q=g0:=fun q hq'=>(hq q hq').resolve_right fun e=>hnew ⟨q,hq',e⟩
  refine mJ.mono (n:=w.heap.size) ⟨fun i i2 hij q hi hi2=> ?_,fun i q hi=> ?_⟩ hz
  .have e1: ∀ i,∀ q∈four (bM true true g0 a) (bM b1 d1 g1 a1) (bM b2 d2 g2 a2) (bif b3 then [o] else []) i,q∈four (bM true false g0 a0) (bM b1 d1 g1 a1) (bM b2 d2 g2 a2) (bif b3 then [o] else []) i:=fun i q hq'=>by
    by_cases ei:i=0
    .exact ZaP
    .exact Za8
   exact ZbK
  .by_cases ei:i=0
   .exact ZaZ
   .exact ZaF
def fI.aa2 {w2:w_} {a:Option d_} {c:Nat} (h:fI p We w b0 d0 true false b2 d2 b3 d3 e g0 g1 g2 o a0 a1 a2 c0 c1 c2) (ho:w2.ownsRow (We.heap.size+2) 91 2 (s_ a p.L9.length c) p.L9.length (bJ.flat p.L9)) (hg:w.grownBy w2 (o_ g1)) (hq: ∀ q∈blk a,q=g1\/q=w.heap.size):fI p We w2 b0 d0 true true b2 d2 b3 d3 e g0 g1 g2 o a0 a a2 c0 c c2:=by
 have hlt: ∀ i,∀ q∈four (bM b0 d0 g0 a0) (bM true false g1 a1) (bM b2 d2 g2 a2) (bif b3 then [o] else []) i,q < w.heap.size:=fun i q hq=>(h.pR.xy i q hq).2
 have hgl:We.heap.size+2<=g1/\g1 < w.heap.size:=h.pR.xy 1 g1 (by simp [four,bM]);have hne: ∀ i,i≠1-> ∀ q∈four (bM b0 d0 g0 a0) (bM true false g1 a1) (bM b2 d2 g2 a2) (bif b3 then [o] else []) i,w2.heap[q]? =w.heap[q]? :=fun i hi q hq=>hg.block q (hlt i q hq) fun e=>h.pR.apart i 1 hi q hq ZdX
 have hbe:B_ We.heap.size We w2:=h.cd.grown hg Zdi (fun k hk=>by cases hk; omega);have he:e=false:=by cases e with | false=>rfl | true=>have:=h.cl.1 rfl; simp at this
 have hd:d3=false:=by cases hx:d3 with | false=>rfl | true=>rw [(h.cl.2 hx).1] at he; cases he
 subst he hd;have hz:=hg.size;have hsz:=h.size;refine ⟨hbe,(hg.block _ zo (fun e=>by have:=KC e; omega)).trans h.part,(hg.block _ zo (fun e=>by have:=KC e; omega)).trans h.ret,h.s0.same fun q hq=>hne 0 (by decide) q hq,⟨(fun _ hd=>by cases hd),fun _=>ho⟩,h.s2.same fun q hq=>hne 2 (by decide) q hq,fun e=>(hne 3 (by decide) o Zdv).trans (h.I e),⟨(fun e=>by cases e),fun e=>by cases e⟩,zo,?_⟩;by_cases hnew: ∃ q∈blk a,q=w.heap.size
 .obtain ⟨q0,nu,hqe⟩:=hnew
  have hw2:=(cf ho nu).2;refine h.pR.up 1 (fun j hj=>by rcases j with _ | _ | _ | _ | _ <;> first | rfl | exact absurd rfl hj) (fun q hq'=> ?_) zo hsz;exact Zai
 .have hall: ∀ q∈blk a,q=g1:=fun q hq'=>(hq q hq').resolve_right fun e=>hnew ⟨q,hq',e⟩
  refine mJ.mono (n:=w.heap.size) ⟨fun i i2 hij q hi hi2=> ?_,fun i q hi=> ?_⟩ hz
  .have e1: ∀ i,∀ q∈four (bM b0 d0 g0 a0) (bM true true g1 a) (bM b2 d2 g2 a2) (bif b3 then [o] else []) i,q∈four (bM b0 d0 g0 a0) (bM true false g1 a1) (bM b2 d2 g2 a2) (bif b3 then [o] else []) i:=fun i q hq'=>by
    by_cases ei:i=1
    .exact ZaP
    .exact Za8
   exact ZbK
  .by_cases ei:i=1
   .exact ZaZ
   .exact ZaF
def fI.copy2 {w2:w_} {a:Option d_} {c:Nat} (h:fI p We w b0 d0 b1 d1 true false b3 d3 e g0 g1 g2 o a0 a1 a2 c0 c1 c2) (ho:w2.ownsRow (We.heap.size+2) 93 3 (s_ a p.ag.length c) p.ag.length (bG.flat p.ag)) (hg:w.grownBy w2 (o_ g2)) (hq: ∀ q∈blk a,q=g2\/q=w.heap.size):fI p We w2 b0 d0 b1 d1 true true b3 d3 e g0 g1 g2 o a0 a1 a c0 c1 c:=by
 have hlt: ∀ i,∀ q∈four (bM b0 d0 g0 a0) (bM b1 d1 g1 a1) (bM true false g2 a2) (bif b3 then [o] else []) i,q < w.heap.size:=fun i q hq=>(h.pR.xy i q hq).2
 have hgl:We.heap.size+2<=g2/\g2 < w.heap.size:=h.pR.xy 2 g2 (by simp [four,bM]);have hne: ∀ i,i≠2-> ∀ q∈four (bM b0 d0 g0 a0) (bM b1 d1 g1 a1) (bM true false g2 a2) (bif b3 then [o] else []) i,w2.heap[q]? =w.heap[q]? :=fun i hi q hq=>hg.block q (hlt i q hq) fun e=>h.pR.apart i 2 hi q hq ZdX
 have hbe:B_ We.heap.size We w2:=h.cd.grown hg Zdi (fun k hk=>by cases hk; omega);have he:e=false:=by cases e with | false=>rfl | true=>have:=h.cl.1 rfl; simp at this
 have hd:d3=false:=by cases hx:d3 with | false=>rfl | true=>rw [(h.cl.2 hx).1] at he; cases he
 subst he hd;have hz:=hg.size;have hsz:=h.size;refine ⟨hbe,(hg.block _ zo (fun e=>by have:=KC e; omega)).trans h.part,(hg.block _ zo (fun e=>by have:=KC e; omega)).trans h.ret,h.s0.same fun q hq=>hne 0 (by decide) q hq,h.s1.same fun q hq=>hne 1 (by decide) q hq,⟨(fun _ hd=>by cases hd),fun _=>ho⟩,fun e=>(hne 3 (by decide) o Zdv).trans (h.I e),⟨(fun e=>by cases e),fun e=>by cases e⟩,zo,?_⟩;by_cases hnew: ∃ q∈blk a,q=w.heap.size
 .obtain ⟨q0,nu,hqe⟩:=hnew
  have hw2:=(cf ho nu).2;refine h.pR.up 2 (fun j hj=>by rcases j with _ | _ | _ | _ | _ <;> first | rfl | exact absurd rfl hj) (fun q hq'=> ?_) zo hsz;exact Zai
 .have hall: ∀ q∈blk a,q=g2:=fun q hq'=>(hq q hq').resolve_right fun e=>hnew ⟨q,hq',e⟩
  refine mJ.mono (n:=w.heap.size) ⟨fun i i2 hij q hi hi2=> ?_,fun i q hi=> ?_⟩ hz
  .have e1: ∀ i,∀ q∈four (bM b0 d0 g0 a0) (bM b1 d1 g1 a1) (bM true true g2 a) (bif b3 then [o] else []) i,q∈four (bM b0 d0 g0 a0) (bM b1 d1 g1 a1) (bM true false g2 a2) (bif b3 then [o] else []) i:=fun i q hq'=>by
    by_cases ei:i=2
    .exact ZaP
    .exact Za8
   exact ZbK
  .by_cases ei:i=2
   .exact ZaZ
   .exact ZaF
def fI.aa9 (h:fI p We w b0 d0 b1 d1 b2 d2 false false e g0 g1 g2 o a0 a1 a2 c0 c1 c2):fI p We (w.alloc (c_ ar 31)) b0 d0 b1 d1 b2 d2 true false e g0 g1 g2 w.heap.size a0 a1 a2 c0 c1 c2:=by
 have hb:B_ w.heap.size w (w.alloc (c_ ar 31)):=(Kp _ _).alloc (Ki _) _;have hlt: ∀ i,∀ q∈four (bM b0 d0 g0 a0) (bM b1 d1 g1 a1) (bM b2 d2 g2 a2) (bif false then [o] else []) i,q < w.heap.size:=fun i q hq=>(h.pR.xy i q hq).2
 exact ⟨h.cd.trans (hb.mono h.cd.size),h.part.below hb,(hb.block _ Zdi).trans h.ret,h.s0.same fun q hq=>hb.block q (hlt 0 q hq),h.s1.same fun q hq=>hb.block q (hlt 1 q hq),h.s2.same fun q hq=>hb.block q (hlt 2 q hq),fun _=>Kj _ _,⟨h.cl.1,fun e=>by cases e⟩,by have:=h.size; simp; omega,h.pR.up 3 (fun j hj=>by rcases j with _ | _ | _ | _ | _ <;> first | rfl | exact absurd rfl hj) (fun q hq=> .inr (by simpa [four] using hq)) zw h.size⟩
def fI.build (h:fI p We w b0 d0 b1 d1 b2 d2 b3 d3 false g0 g1 g2 o a0 a1 a2 c0 c1 c2) (h0:d0=true) (h1:d1=true) (h2:d2=true):fI p We w b0 d0 b1 d1 b2 d2 b3 d3 true g0 g1 g2 o a0 a1 a2 c0 c1 c2:=⟨h.cd,h.part,h.ret,h.s0,h.s1,h.s2,h.I,⟨fun _=>⟨h0,h1,h2⟩,fun hd=>⟨rfl,(h.cl.2 hd).2⟩⟩,h.size,h.pR⟩
def fI.store (h:fI p We w b0 d0 b1 d1 b2 d2 true false true g0 g1 g2 o a0 a1 a2 c0 c1 c2):fI p We (w.setRow o #[i_ j_ p.id,i_ j_ p.next,s_ n_ 0 0,s_ a0 p.aj.length c0,s_ a1 p.L9.length c1,s_ a2 p.ag.length c2,s_ n_ 0 0,s_ n_ 0 0]) b0 d0 b1 d1 b2 d2 true true true g0 g1 g2 o a0 a1 a2 c0 c1 c2:=by
 have ho:=h.pR.xy 3 o Zd0;have hne: ∀ q,q≠o->(w.setRow o #[i_ j_ p.id,i_ j_ p.next,s_ n_ 0 0,s_ a0 p.aj.length c0,s_ a1 p.L9.length c1,s_ a2 p.ag.length c2,s_ n_ 0 0,s_ n_ 0 0]).heap[q]? =w.heap[q]? :=fun q hq=>KH _ _ _ _ hq
 have hap: ∀ i,i≠3-> ∀ q∈four (bM b0 d0 g0 a0) (bM b1 d1 g1 a1) (bM b2 d2 g2 a2) [o] i,q≠o:=fun i hi q hq e=>h.pR.apart i 3 hi q hq (by subst e; simp [four])
 have hsz:=h.size;exact ⟨q_ h.cd zo _,(hne _ zo).trans h.part,(hne _ zo).trans h.ret,h.s0.same fun q hq=>hne q (hap 0 (by decide) q hq),h.s1.same fun q hq=>hne q (hap 1 (by decide) q hq),h.s2.same fun q hq=>hne q (hap 2 (by decide) q hq),fun _=>KU _ _ _ _ _ _ (h.I rfl),⟨h.cl.1,fun _=>⟨rfl,rfl⟩⟩,by rw [size_setRow]; exact h.size,by rw [size_setRow]; exact h.pR⟩
end
end
section
open Go.RowKit Go.Maps
attribute [local go_sem ↓] Kc Kd
def Dv {VO VS VV r1 r2 r3 r4 r5 r6:List Nat} {N n1 n2 n3 n4 n5 n6:Nat} (hk:(VO ++ (VS ++ VV)).Nodup) (hkl: ∀ g∈VO ++ (VS ++ VV),g < N) (h1:nU N n1 r1) (h2:nU n1 n2 r2) (h3:nU n2 n3 r3) (h4:nU n3 n4 r4) (h5:nU n4 n5 r5) (h6:nU n5 n6 r6)
  (e:N<=n1/\n1<=n2/\n2<=n3/\n3<=n4/\n4<=n5/\n5<=n6):(r1 ++ (VO ++ (r2 ++ (r3 ++ (r4 ++ (r5 ++ (VS ++ (r6 ++ VV)))))))).Nodup:=by
 have hp:(r1 ++ (VO ++ (r2 ++ (r3 ++ (r4 ++ (r5 ++ (VS ++ (r6 ++ VV)))))))).Perm ((VO ++ (VS ++ VV)) ++ (r1 ++ (r2 ++ (r3 ++ (r4 ++ (r5 ++ r6)))))):=by
  rw [List.perm_iff_count];intro x;simp only [List.count_append];omega
 rw [hp.nodup_iff,Kf];have hr:nU N n6 (r1 ++ (r2 ++ (r3 ++ (r4 ++ (r5 ++ r6))))):=h1.append (h2.append (h3.append (h4.append (h5.append h6 zo zo zo) zo zo zo) zo zo zo) zo zo zo) zo zo zo;refine ⟨hk,hr.1,fun a ha b hb e=> ?_⟩
 have:=hkl a ha
 have:=(hr.2 b hb).1
 omega
def px {w:w_} {base n size cap:Nat} {e:T_} {a:Option d_} {xs:List v_} (h:w.ownsRow base e size (s_ a n cap) n xs):nU base w.heap.size (blk a):=⟨fN a,fun _ hg=>cf h hg⟩
structure aZ.Fits (S:aZ):Prop where
 dl:S.lp.length<=1048576
 Jl: ∀ p∈RW (fun x:ao=>x.id) S.lp,(Lit.int j_ p.1).wf=true
 fx:S.ls.length<=1048576
 adG: ∀ p∈RW (fun x:bD=>x.id) S.ls,(Lit.int j_ p.1).wf=true
 cD:S.le.length<=1048576
 G4: ∀ p∈RW (fun x:aB=>x.id) S.le,(Lit.int j_ p.1).wf=true
 cC:S.lb.length<=1048576
 FP: ∀ p∈RW (fun x:az=>x.id) S.lb,(Lit.int j_ p.1).wf=true
 cb:S.lf.length<=1048576
 DW: ∀ p∈RW (fun x:au=>x.id) S.lf,(Lit.int j_ p.1).wf=true
 dH:S.lq.length<=1048576
 Jz: ∀ p∈RW (fun x:aM=>x.id) S.lq,(Lit.int j_ p.1).wf=true
abbrev GR (o:Nat) (S:aZ) (w':w_):Prop:=w'.cell? ⟨o,0,n_⟩=o_ (i_ j_ S.q.id)/\w'.cell? ⟨o,1,n_⟩=o_ (i_ j_ S.q.next)/\w'.cell? ⟨o,2,n_⟩=o_ (i_ j_ 6)/\w'.cell? ⟨o,3,n_⟩=o_ (.map (o_ S.q.bp))/\w'.cell? ⟨o,4,n_⟩=o_ (i_ j_ 5)/\w'.cell? ⟨o,5,n_⟩=o_ (.map (o_ S.q.bs))/\w'.cell? ⟨o,6,n_⟩=o_ (i_ j_ 5)/\w'.cell? ⟨o,7,n_⟩=o_ (.map (o_ S.q.be))/\w'.cell? ⟨o,8,n_⟩=o_ (i_ j_ 5)/\w'.cell? ⟨o,9,n_⟩=o_ (.map (o_ S.q.bb))/\w'.cell? ⟨o,10,n_⟩=o_ (i_ j_ 5)/\w'.cell? ⟨o,11,n_⟩=o_ (.map (o_ S.q.bf))/\w'.cell? ⟨o,12,n_⟩=o_ (i_ j_ 5)/\w'.cell? ⟨o,13,n_⟩=o_ (.map (o_ S.q.bq))
def kP {o:Nat} {S:aZ} {w:w_} (h:fa w o S.q):GR o S w:=⟨h.cell 0,h.cell 1,h.cell 2,h.cell 3,h.cell 4,h.cell 5,h.cell 6,h.cell 7,h.cell 8,h.cell 9,h.cell 10,h.cell 11,h.cell 12,h.cell 13⟩
def Hc (w:w_) (base:Nat) (v:aE) (e:Ending) (w':w_):Prop:= ∃ r:af,e=r_ (a_ r.cells)/\ap w' base r/\r.pure=v/\B_ w.heap.size w w'
def aaM (w:w_) (base:Nat) (S:aZ) (e:Ending) (w':w_):Prop:= ∃ r:af,e=r_ (a_ r.cells)/\ap w' base r/\r.pure=S.pure/\B_ w.heap.size w w'/\ ∀ g∈r.Mc,g∈S.kids\/w.heap.size<=g
def ZZ (o base:Nat) (S:aZ) (w:w_) (h:cJ w base o S) (hf:S.Fits):k_ J3 33 #[p_ (o_ ⟨o,0,n_⟩)] w fun e w'=>aaM w base S e w':=by
 have hb0:B_ w.heap.size w (w.alloc (c_ ar 31)):=(Kp _ _).alloc (Ki _) _;have HZ:Hid (cJ w base o S/\S.Fits/\B_ w.heap.size w (w.alloc (c_ ar 31)).drew/\(w.alloc (c_ ar 31)).drew.heap[w.heap.size]? =o_ (c_ ar 31)/\w.heap.size < (w.alloc (c_ ar 31)).drew.heap.size):=⟨h,hf,hb0.drew,Kj _ _,by simp⟩
 have HS:Hid (GR o S (w.alloc (c_ ar 31)).drew):=kP (h.opn.below hb0.drew);clear h hf hb0
 go_enter func33,ntmps33
 go_wp2_with fail;generalize w.alloc (c_ ar 31)=W at *;refine Kr (S:=GR o S) ZcS HS.I (fun hHeld=> ?_);refine tt 0 hHeld ?_;refine tt 1 hHeld ?_;refine tt 2 hHeld ?_;refine tt 3 hHeld ?_;refine tt 4 hHeld ?_;refine tt 5 hHeld ?_;refine tt 6 hHeld ?_;refine tt 7 hHeld ?_;refine tt 8 hHeld ?_;refine tt 9 hHeld ?_;refine tt 10 hHeld ?_;refine tt 11 hHeld ?_;refine tt 13 hHeld ?_;refine tt 14 hHeld ?_;refine tt 15 hHeld ?_;refine tt 16 hHeld ?_;refine tt 18 hHeld ?_;refine tt 19 hHeld ?_;refine tt 20 hHeld ?_;refine tt 21 hHeld ?_;refine tt 23 hHeld ?_;refine tt 24 hHeld ?_;refine tt 25 hHeld ?_;refine tt 26 hHeld ?_;refine tt 28 hHeld ?_;refine tt 29 hHeld ?_;refine tt 30 hHeld ?_;refine tt 31 hHeld ?_;refine tt 33 hHeld ?_;refine tt 34 hHeld ?_;refine tt 35 hHeld ?_;refine tt 36 hHeld ?_;clear HS;generalize hWd:W.drew=W0 at *;clear hWd;refine L7 12 (fun K hK=> ?_);go_wp2_with fail;refine (zj 6 base S.q.bp S.lp W0 (HZ.I.1.L8.below HZ.I.2.2.1) HZ.I.2.1.dl HZ.I.2.1.Jl).mono ?_;rintro e W1 ⟨a1,c1,rfl,hown,hb⟩;have wm:Hid (nU W0.heap.size W1.heap.size (blk a1)/\W0.heap.size<=W1.heap.size):=⟨px hown,hb.size⟩
 have HY:Hid (W1.ownsRow W0.heap.size 41 12 (s_ a1 (S.lp.map (·.1)).length c1) (S.lp.map (·.1)).length (bg.flat (S.lp.map (·.1)))/\W0.heap.size<=W1.heap.size):=⟨hown,hb.size⟩
 have HR:=HY;clear HY;have iP:Hid (cJ w base o S/\S.Fits/\B_ w.heap.size w W1/\W1.heap[w.heap.size]? =o_ (c_ ar 31)/\w.heap.size < W0.heap.size):=⟨HZ.I.1,HZ.I.2.1,HZ.I.2.2.1.trans (hb.mono HZ.I.2.2.1.size),(hb.block _ (J2.1 HZ.I.2.2.2.1).1).trans HZ.I.2.2.2.1,HZ.I.2.2.2.2⟩
 clear HZ hown hb;have HZ:=iP;clear iP hHeld;refine hK.out _ _ (kP (HZ.I.1.opn.below HZ.I.2.2.1)) (fun hHeld=> ?_);clear hK K
 try simp only [KZ,K0,K1,Act.put,Qr,Ln,Lo]
 refine L7 17 (fun K hK=> ?_);go_wp2_with fail;refine (AN 5 base S.q.bs S.ls W1 (HZ.I.1.aj.below HZ.I.2.2.1) HZ.I.2.1.fx HZ.I.2.1.adG).mono ?_;rintro e W2 ⟨a2,c2,rfl,hown,hb⟩;have xD:Hid (nU W1.heap.size W2.heap.size (blk a2)/\W1.heap.size<=W2.heap.size):=⟨px hown,hb.size⟩
 have HY:Hid (W2.ownsRow W0.heap.size 41 12 (s_ a1 (S.lp.map (·.1)).length c1) (S.lp.map (·.1)).length (bg.flat (S.lp.map (·.1)))/\W2.ownsRow W1.heap.size 89 3 (s_ a2 (S.ls.map (·.1)).length c2) (S.ls.map (·.1)).length (dm.flat (S.ls.map (·.1)))/\W0.heap.size<=W1.heap.size/\W1.heap.size<=W2.heap.size):=⟨cR HR.I.1 hb,hown,HR.I.2,hb.size⟩
 clear HR;have HR:=HY;clear HY;have iP:Hid (cJ w base o S/\S.Fits/\B_ w.heap.size w W2/\W2.heap[w.heap.size]? =o_ (c_ ar 31)/\w.heap.size < W0.heap.size):=⟨HZ.I.1,HZ.I.2.1,HZ.I.2.2.1.trans (hb.mono HZ.I.2.2.1.size),(hb.block _ (J2.1 HZ.I.2.2.2.1).1).trans HZ.I.2.2.2.1,HZ.I.2.2.2.2⟩
 clear HZ hown hb;have HZ:=iP;clear iP hHeld;refine hK.out _ _ (kP (HZ.I.1.opn.below HZ.I.2.2.1)) (fun hHeld=> ?_);clear hK K
 try simp only [KZ,K0,K1,Act.put,Qr,Ln,Lo]
 refine L7 22 (fun K hK=> ?_);go_wp2_with fail;refine (wN 5 base S.q.be S.le W2 (HZ.I.1.L9.below HZ.I.2.2.1) HZ.I.2.1.cD HZ.I.2.1.G4).mono ?_;rintro e W3 ⟨a3,c3,rfl,hown,hb⟩;have Fz:Hid (nU W2.heap.size W3.heap.size (blk a3)/\W2.heap.size<=W3.heap.size):=⟨px hown,hb.size⟩
 have HY:Hid (W3.ownsRow W0.heap.size 41 12 (s_ a1 (S.lp.map (·.1)).length c1) (S.lp.map (·.1)).length (bg.flat (S.lp.map (·.1)))/\W3.ownsRow W1.heap.size 89 3 (s_ a2 (S.ls.map (·.1)).length c2) (S.ls.map (·.1)).length (dm.flat (S.ls.map (·.1)))/\W3.ownsRow W2.heap.size 91 2 (s_ a3 (S.le.map (·.1)).length c3) (S.le.map (·.1)).length (bJ.flat (S.le.map (·.1)))/\W0.heap.size<=W1.heap.size/\W1.heap.size<=W2.heap.size/\W2.heap.size<=W3.heap.size):=⟨cR HR.I.1 hb,cR HR.I.2.1 hb,hown,HR.I.2.2.1,HR.I.2.2.2,hb.size⟩
 clear HR;have HR:=HY;clear HY;have iP:Hid (cJ w base o S/\S.Fits/\B_ w.heap.size w W3/\W3.heap[w.heap.size]? =o_ (c_ ar 31)/\w.heap.size < W0.heap.size):=⟨HZ.I.1,HZ.I.2.1,HZ.I.2.2.1.trans (hb.mono HZ.I.2.2.1.size),(hb.block _ (J2.1 HZ.I.2.2.2.1).1).trans HZ.I.2.2.2.1,HZ.I.2.2.2.2⟩
 clear HZ hown hb;have HZ:=iP;clear iP hHeld;refine hK.out _ _ (kP (HZ.I.1.opn.below HZ.I.2.2.1)) (fun hHeld=> ?_);clear hK K
 try simp only [KZ,K0,K1,Act.put,Qr,Ln,Lo]
 refine L7 27 (fun K hK=> ?_);go_wp2_with fail;refine (wC 5 base S.q.bb S.lb W3 (HZ.I.1.ag.below HZ.I.2.2.1) HZ.I.2.1.cC HZ.I.2.1.FP).mono ?_;rintro e W4 ⟨a4,c4,rfl,hown,hb⟩;have FA:Hid (nU W3.heap.size W4.heap.size (blk a4)/\W3.heap.size<=W4.heap.size):=⟨px hown,hb.size⟩
 have HY:Hid (W4.ownsRow W0.heap.size 41 12 (s_ a1 (S.lp.map (·.1)).length c1) (S.lp.map (·.1)).length (bg.flat (S.lp.map (·.1)))/\W4.ownsRow W1.heap.size 89 3 (s_ a2 (S.ls.map (·.1)).length c2) (S.ls.map (·.1)).length (dm.flat (S.ls.map (·.1)))/\W4.ownsRow W2.heap.size 91 2 (s_ a3 (S.le.map (·.1)).length c3) (S.le.map (·.1)).length (bJ.flat (S.le.map (·.1)))/\W4.ownsRow W3.heap.size 93 3 (s_ a4 (S.lb.map (·.1)).length c4) (S.lb.map (·.1)).length (bG.flat (S.lb.map (·.1)))/\W0.heap.size<=W1.heap.size/\W1.heap.size<=W2.heap.size/\W2.heap.size<=W3.heap.size/\W3.heap.size<=W4.heap.size):=⟨cR HR.I.1 hb,cR HR.I.2.1 hb,cR HR.I.2.2.1 hb,hown,HR.I.2.2.2.1,HR.I.2.2.2.2.1,HR.I.2.2.2.2.2,hb.size⟩
 clear HR;have HR:=HY;clear HY;have iP:Hid (cJ w base o S/\S.Fits/\B_ w.heap.size w W4/\W4.heap[w.heap.size]? =o_ (c_ ar 31)/\w.heap.size < W0.heap.size):=⟨HZ.I.1,HZ.I.2.1,HZ.I.2.2.1.trans (hb.mono HZ.I.2.2.1.size),(hb.block _ (J2.1 HZ.I.2.2.2.1).1).trans HZ.I.2.2.2.1,HZ.I.2.2.2.2⟩
 clear HZ hown hb;have HZ:=iP;clear iP hHeld;refine hK.out _ _ (kP (HZ.I.1.opn.below HZ.I.2.2.1)) (fun hHeld=> ?_);clear hK K
 try simp only [KZ,K0,K1,Act.put,Qr,Ln,Lo]
 refine L7 32 (fun K hK=> ?_);go_wp2_with fail;refine (uk 5 base S.q.bf S.lf W4 (HZ.I.1.ae.below HZ.I.2.2.1) HZ.I.2.1.cb HZ.I.2.1.DW).mono ?_;rintro e W5 ⟨a5,c5,rfl,hown,hb⟩;have Ik:Hid (nU W4.heap.size W5.heap.size (blk a5)/\W4.heap.size<=W5.heap.size):=⟨px hown,hb.size⟩
 have HY:Hid (W5.ownsRow W0.heap.size 41 12 (s_ a1 (S.lp.map (·.1)).length c1) (S.lp.map (·.1)).length (bg.flat (S.lp.map (·.1)))/\W5.ownsRow W1.heap.size 89 3 (s_ a2 (S.ls.map (·.1)).length c2) (S.ls.map (·.1)).length (dm.flat (S.ls.map (·.1)))/\W5.ownsRow W2.heap.size 91 2 (s_ a3 (S.le.map (·.1)).length c3) (S.le.map (·.1)).length (bJ.flat (S.le.map (·.1)))/\W5.ownsRow W3.heap.size 93 3 (s_ a4 (S.lb.map (·.1)).length c4) (S.lb.map (·.1)).length (bG.flat (S.lb.map (·.1)))/\W5.ownsRow W4.heap.size 96 3 (s_ a5 (S.lf.map (·.1)).length c5) (S.lf.map (·.1)).length (bm.flat (S.lf.map (·.1)))/\W0.heap.size<=W1.heap.size/\W1.heap.size<=W2.heap.size/\W2.heap.size<=W3.heap.size/\W3.heap.size<=W4.heap.size/\W4.heap.size<=W5.heap.size):=⟨cR HR.I.1 hb,cR HR.I.2.1 hb,cR HR.I.2.2.1 hb,cR HR.I.2.2.2.1 hb,hown,HR.I.2.2.2.2.1,HR.I.2.2.2.2.2.1,HR.I.2.2.2.2.2.2.1,HR.I.2.2.2.2.2.2.2,hb.size⟩
 clear HR;have HR:=HY;clear HY;have iP:Hid (cJ w base o S/\S.Fits/\B_ w.heap.size w W5/\W5.heap[w.heap.size]? =o_ (c_ ar 31)/\w.heap.size < W0.heap.size):=⟨HZ.I.1,HZ.I.2.1,HZ.I.2.2.1.trans (hb.mono HZ.I.2.2.1.size),(hb.block _ (J2.1 HZ.I.2.2.2.1).1).trans HZ.I.2.2.2.1,HZ.I.2.2.2.2⟩
 clear HZ hown hb;have HZ:=iP;clear iP hHeld;refine hK.out _ _ (kP (HZ.I.1.opn.below HZ.I.2.2.1)) (fun hHeld=> ?_);clear hK K
 try simp only [KZ,K0,K1,Act.put,Qr,Ln,Lo]
 refine L7 37 (fun K hK=> ?_);go_wp2_with fail;refine (zf 5 base S.q.bq S.lq W5 (HZ.I.1.ai.below HZ.I.2.2.1) HZ.I.2.1.dH HZ.I.2.1.Jz).mono ?_;rintro e W6 ⟨a6,c6,rfl,hown,hb⟩;have Jw:Hid (nU W5.heap.size W6.heap.size (blk a6)/\W5.heap.size<=W6.heap.size):=⟨px hown,hb.size⟩
 have HY:Hid (W6.ownsRow W0.heap.size 41 12 (s_ a1 (S.lp.map (·.1)).length c1) (S.lp.map (·.1)).length (bg.flat (S.lp.map (·.1)))/\W6.ownsRow W1.heap.size 89 3 (s_ a2 (S.ls.map (·.1)).length c2) (S.ls.map (·.1)).length (dm.flat (S.ls.map (·.1)))/\W6.ownsRow W2.heap.size 91 2 (s_ a3 (S.le.map (·.1)).length c3) (S.le.map (·.1)).length (bJ.flat (S.le.map (·.1)))/\W6.ownsRow W3.heap.size 93 3 (s_ a4 (S.lb.map (·.1)).length c4) (S.lb.map (·.1)).length (bG.flat (S.lb.map (·.1)))/\W6.ownsRow W4.heap.size 96 3 (s_ a5 (S.lf.map (·.1)).length c5) (S.lf.map (·.1)).length (bm.flat (S.lf.map (·.1)))/\W6.ownsRow W5.heap.size 115 5 (s_ a6 (S.lq.map (·.1)).length c6) (S.lq.map (·.1)).length (bX.flat (S.lq.map (·.1)))/\W0.heap.size<=W1.heap.size/\W1.heap.size<=W2.heap.size/\W2.heap.size<=W3.heap.size/\W3.heap.size<=W4.heap.size/\W4.heap.size<=W5.heap.size/\W5.heap.size<=W6.heap.size):=⟨cR HR.I.1 hb,cR HR.I.2.1 hb,cR HR.I.2.2.1 hb,cR HR.I.2.2.2.1 hb,cR HR.I.2.2.2.2.1 hb,hown,HR.I.2.2.2.2.2.1,HR.I.2.2.2.2.2.2.1,HR.I.2.2.2.2.2.2.2.1,HR.I.2.2.2.2.2.2.2.2.1,HR.I.2.2.2.2.2.2.2.2.2,hb.size⟩
 clear HR;have HR:=HY;clear HY;have iP:Hid (cJ w base o S/\S.Fits/\B_ w.heap.size w W6/\W6.heap[w.heap.size]? =o_ (c_ ar 31)/\w.heap.size < W0.heap.size):=⟨HZ.I.1,HZ.I.2.1,HZ.I.2.2.1.trans (hb.mono HZ.I.2.2.1.size),(hb.block _ (J2.1 HZ.I.2.2.2.1).1).trans HZ.I.2.2.2.1,HZ.I.2.2.2.2⟩
 clear HZ hown hb;have HZ:=iP;clear iP hHeld;refine hK.out _ _ (kP (HZ.I.1.opn.below HZ.I.2.2.1)) (fun hHeld=> ?_);clear hK K
 try simp only [KZ,K0,K1,Act.put,Qr,Ln,Lo]
 refine wpAnyH_take (i:=38) (v:=a_ #[i_ j_ S.q.id,i_ j_ S.q.next,s_ a1 S.lp.length c1,s_ a2 S.ls.length c2,s_ a3 S.le.length c3,s_ a4 S.lb.length c4,s_ a5 S.lf.length c5,s_ a6 S.lq.length c6]) rfl ZcS ZcS ZcS (fun _ _ _ h=>h) (Or.inl ⟨by kernel_rfl,?_⟩) hHeld ?_
 .intro w0 hS0
  exact Fd
 simp only [KZ,K0,K1,Act.put,Qr,Ln,Lo];refine L7 39 (fun K hK=> ?_);refine qd _ _ _ rfl w.heap.size _ _ #[i_ j_ S.q.id,i_ j_ S.q.next,s_ a1 S.lp.length c1,s_ a2 S.ls.length c2,s_ a3 S.le.length c3,s_ a4 S.lb.length c4,s_ a5 S.lf.length c5,s_ a6 S.lq.length c6] rfl rfl HZ.I.2.2.2.1 ZcS rfl Zc3 ?_;have p7:o < w.heap.size:=(J2.1 HZ.I.1.opn).1;have hbs:B_ w.heap.size w (W6.setRow w.heap.size #[i_ j_ S.q.id,i_ j_ S.q.next,s_ a1 S.lp.length c1,s_ a2 S.ls.length c2,s_ a3 S.le.length c3,s_ a4 S.lb.length c4,s_ a5 S.lf.length c5,s_ a6 S.lq.length c6]):=q_ HZ.I.2.2.1 (Ki _) _;refine hK.out _ _ (kP (HZ.I.1.opn.below hbs)) (fun hHeld=> ?_);clear hK K hHeld;refine wpAnyH_done ZcS ?_ _
 repeat (first | go_values | go_skip | go_guarded | go_step | go_upon)
 refine gZ results33 HZ.I.2.2.2.1 ?_;have hA:=HZ.I.1;have kj:=HZ.I.2.2.1;have hlo:=hA.low;have hw0:=HZ.I.2.2.2.2;have t1:=wm.I.2;have t2:=xD.I.2;have t3:=Fz.I.2;have t4:=FA.I.2;have t5:=Ik.I.2;have t6:=Jw.I.2;have hmP: ∀ q∈S.lp,aR.cO W6 base q.1:=fun q hq=>(hA.eI q hq).same fun g hk=>kj.block g ((hA.eI q hq).lt hk).2
 have hmF: ∀ q∈S.lf,aC.cO W6 base q.1:=fun q hq=>(hA.eE q hq).same fun g hk=>kj.block g ((hA.eE q hq).lt hk).2
 have hmQ: ∀ q∈S.lq,aU.cO W6 base q.1:=fun q hq=>(hA.eR q hq).same fun g hk=>kj.block g ((hA.eR q hq).lt hk).2
 have hkn:S.kids.Nodup:=(Kf.1 (Lp.1 hA.nodup).2).2.1;have hkl: ∀ g∈S.kids,g < w.heap.size:=fun g hg=>by
  simp only [aZ.kids,Kg,kids,Lq] at hg;rcases hg with ⟨q,hq,hk⟩ | ⟨q,hq,hk⟩ | ⟨q,hq,hk⟩
  .exact ((hA.eI q hq).lt hk).2
  .exact ((hA.eE q hq).lt hk).2
  .exact ((hA.eR q hq).lt hk).2
 have VU:(S.lp.map (·.1)).filterMap aR.bt=kids aR S.lp:=by rw [List.filterMap_map]; rfl
 have eF:(S.lf.map (·.1)).filterMap aC.bt=kids aC S.lf:=by rw [List.filterMap_map]; rfl
 have eQ:(S.lq.map (·.1)).filterMap aU.bt=kids aU S.lq:=by rw [List.filterMap_map]; rfl
 have hown:ap W6 base (⟨S.q.id,S.q.next,S.lp.map (·.1),a1,c1,S.ls.map (·.1),a2,c2,S.le.map (·.1),a3,c3,S.lb.map (·.1),a4,c4,S.lf.map (·.1),a5,c5,S.lq.map (·.1),a6,c6⟩:af):=by
  refine ⟨cq HR.I.1 zo,cq HR.I.2.1 zo,cq HR.I.2.2.1 zo,cq HR.I.2.2.2.1 zo,cq HR.I.2.2.2.2.1 zo,cq HR.I.2.2.2.2.2.1 zo,?_,?_,?_,?_⟩
  .intro x hx
   obtain ⟨q,hq,rfl⟩:=Lr.1 hx;exact hmP q hq
  .intro x hx
   obtain ⟨q,hq,rfl⟩:=Lr.1 hx;exact hmF q hq
  .intro x hx
   obtain ⟨q,hq,rfl⟩:=Lr.1 hx;exact hmQ q hq
  .simp only [af.Mc,VU,eF,eQ]
   exact Dv (N:=W0.heap.size) hkn (fun g hg=>by have:=hkl g hg; omega) wm.I.1 xD.I.1 Fz.I.1 FA.I.1 Ik.I.1 Jw.I.1 ⟨t1,t2,t3,t4,t5,t6⟩
 have hnk: ∀ g∈(⟨S.q.id,S.q.next,S.lp.map (·.1),a1,c1,S.ls.map (·.1),a2,c2,S.le.map (·.1),a3,c3,S.lb.map (·.1),a4,c4,S.lf.map (·.1),a5,c5,S.lq.map (·.1),a6,c6⟩:af).Mc,g∈S.kids\/w.heap.size < g:=fun g hg=>by
  simp only [af.Mc,VU,eF,eQ,Kg] at hg;have hk: ∀ g,(g∈kids aR S.lp\/g∈kids aC S.lf\/g∈kids aU S.lq)->g∈S.kids:=fun g h5=>by simp only [aZ.kids,Kg]; exact h5
  rcases hg with hg | hg | hg | hg | hg | hg | hg | hg | hg
  .exact .inr (by have:=(wm.I.1.2 g hg).1; omega)
  .exact .inl (hk g (.inl hg))
  .exact .inr (by have:=(xD.I.1.2 g hg).1; omega)
  .exact .inr (by have:=(Fz.I.1.2 g hg).1; omega)
  .exact .inr (by have:=(FA.I.1.2 g hg).1; omega)
  .exact .inr (by have:=(Ik.I.1.2 g hg).1; omega)
  .exact .inl (hk g (.inr (.inl hg)))
  .exact .inr (by have:=(Jw.I.1.2 g hg).1; omega)
  .exact .inl (hk g (.inr (.inr hg)))
 have hne: ∀ g∈(⟨S.q.id,S.q.next,S.lp.map (·.1),a1,c1,S.ls.map (·.1),a2,c2,S.le.map (·.1),a3,c3,S.lb.map (·.1),a4,c4,S.lf.map (·.1),a5,c5,S.lq.map (·.1),a6,c6⟩:af).Mc,g≠w.heap.size:=fun g hg e=>by
  rcases hnk g hg with h5 | h5
  .have:=hkl g h5; omega
  .omega
 exact ⟨(⟨S.q.id,S.q.next,S.lp.map (·.1),a1,c1,S.ls.map (·.1),a2,c2,S.le.map (·.1),a3,c3,S.lb.map (·.1),a4,c4,S.lf.map (·.1),a5,c5,S.lq.map (·.1),a6,c6⟩:af),by simp [af.cells],hown.same fun g hg=>KH _ _ _ _ (hne g hg),by simp [af.pure,aZ.pure,Ls],hbs,fun g hg=>(hnk g hg).imp_right Nat.le_of_lt⟩
def jR (o base:Nat) (S:aZ) (w:w_) (h:cJ w base o S) (hf:S.Fits):k_ J3 33 #[p_ (o_ ⟨o,0,n_⟩)] w fun e w'=>Hc w base S.pure e w':=
 (ZZ o base S w h hf).mono fun _ _ ⟨r,h1,h2,h3,h4,_⟩=>⟨r,h1,h2,h3,h4⟩
end
section
open Go.RowKit
attribute [local go_sem ↓] Kc Kd
abbrev afB (q:af):List Nat:=blk q.am ++ (q.ae.filterMap aC.bt ++ (blk q.aK ++ (q.ai.filterMap aU.bt)))
abbrev afC (q:af):List Nat:=blk q.ax ++ (blk q.am ++ (q.ae.filterMap aC.bt ++ (blk q.aK ++ (q.ai.filterMap aU.bt))))
abbrev afw (q:af):List Nat:=blk q.ay ++ (blk q.ax ++ (blk q.am ++ (q.ae.filterMap aC.bt ++ (blk q.aK ++ (q.ai.filterMap aU.bt)))))
abbrev afo (q:af):List Nat:=blk q.bc ++ (blk q.ay ++ (blk q.ax ++ (blk q.am ++ (q.ae.filterMap aC.bt ++ (blk q.aK ++ (q.ai.filterMap aU.bt))))))
def ap.As {w w':w_} {base:Nat} {q:af} {l:List ao} (h:ap w base q) (ho:w'.ownsRow base 41 12 (s_ q.aN q.L8.length q.aW) q.L8.length (bg.flat l)) (hl:l.length=q.L8.length) (hm: ∀ y∈l,aR.cO w' base y) (hki:l.filterMap aR.bt=q.L8.filterMap aR.bt) (hk:aI w w' (blk q.aN ++ q.L8.filterMap aR.bt)):
  ap w' base ({ q with L8:=l } :af)/\({ q with L8:=l } :af).Mc=q.Mc:=by
 have hbs:q.Mc= [] ++ ((blk q.aN ++ q.L8.filterMap aR.bt) ++ (afo q)):=by simp [af.Mc,Lm]
 have rN:({ q with L8:=l } :af).Mc=q.Mc:=by simp only [af.Mc,hki]
 have hnd:=h.nodup;rw [hbs] at hnd;have nc: ∀ g,(g∈ [] \/g∈(afo q))->g∉(blk q.aN ++ q.L8.filterMap aR.bt):=fun g bR hA=>by
  exact F_
 have hs: ∀ g,(g∈ [] \/g∈(afo q))->w'.heap[g]? =w.heap[g]? :=fun g bR=>hk.same g (h.lt g (by
  rw [hbs];rcases bR with bR | bR
  .exact Lz _ bR
  .exact Ly _ (Ly _ bR))).2 (nc g bR)
 refine ⟨⟨ZdT,aL h.aj fun g bR=>hs g (.inr ZcX),aL h.L9 fun g bR=>hs g (.inr ZcX),aL h.ag fun g bR=>hs g (.inr ZcX),aL h.ae fun g bR=>hs g (.inr ZcX),aL h.ai fun g bR=>hs g (.inr ZcX),hm,fun y hy=>(h.eE y hy).same fun g hk=>hs g (.inr ZcU),fun y hy=>(h.eR y hy).same fun g hk=>hs g (.inr ZcU),?_⟩,rN⟩;rw [rN];exact h.nodup
def ap.DT {w w':w_} {base:Nat} {q:af} {l:List bD} (h:ap w base q) (ho:w'.ownsRow base 89 3 (s_ q.bc q.aj.length q.bF) q.aj.length (dm.flat l)) (hl:l.length=q.aj.length) (hk:aI w w' (blk q.bc)):
  ap w' base ({ q with aj:=l } :af)/\({ q with aj:=l } :af).Mc=q.Mc:=by
 have hbs:q.Mc=(blk q.aN ++ q.L8.filterMap aR.bt) ++ ((blk q.bc) ++ (afw q)):=by simp [af.Mc,Lm]
 have rN:({ q with aj:=l } :af).Mc=q.Mc:=by rfl
 have hnd:=h.nodup;rw [hbs] at hnd;have nc: ∀ g,(g∈(blk q.aN ++ q.L8.filterMap aR.bt)\/g∈(afw q))->g∉(blk q.bc):=fun g bR hA=>by
  exact F_
 have hs: ∀ g,(g∈(blk q.aN ++ q.L8.filterMap aR.bt)\/g∈(afw q))->w'.heap[g]? =w.heap[g]? :=fun g bR=>hk.same g (h.lt g (by
  rw [hbs];rcases bR with bR | bR
  .exact Lz _ bR
  .exact Ly _ (Ly _ bR))).2 (nc g bR)
 refine ⟨⟨aL h.L8 fun g bR=>hs g (.inl ZcX),ZdT,aL h.L9 fun g bR=>hs g (.inr ZcX),aL h.ag fun g bR=>hs g (.inr ZcX),aL h.ae fun g bR=>hs g (.inr ZcX),aL h.ai fun g bR=>hs g (.inr ZcX),fun y hy=>(h.eI y hy).same fun g hk=>hs g (.inl ZcU),fun y hy=>(h.eE y hy).same fun g hk=>hs g (.inr ZcU),fun y hy=>(h.eR y hy).same fun g hk=>hs g (.inr ZcU),?_⟩,rN⟩;rw [rN];exact h.nodup
def ap.xA {w w':w_} {base:Nat} {q:af} {l:List aB} (h:ap w base q) (ho:w'.ownsRow base 91 2 (s_ q.ay q.L9.length q.aO) q.L9.length (bJ.flat l)) (hl:l.length=q.L9.length) (hk:aI w w' (blk q.ay)):
  ap w' base ({ q with L9:=l } :af)/\({ q with L9:=l } :af).Mc=q.Mc:=by
 have hbs:q.Mc=(blk q.aN ++ q.L8.filterMap aR.bt ++ blk q.bc) ++ ((blk q.ay) ++ (afC q)):=by simp [af.Mc,Lm]
 have rN:({ q with L9:=l } :af).Mc=q.Mc:=by rfl
 have hnd:=h.nodup;rw [hbs] at hnd;have nc: ∀ g,(g∈(blk q.aN ++ q.L8.filterMap aR.bt ++ blk q.bc)\/g∈(afC q))->g∉(blk q.ay):=fun g bR hA=>by
  exact F_
 have hs: ∀ g,(g∈(blk q.aN ++ q.L8.filterMap aR.bt ++ blk q.bc)\/g∈(afC q))->w'.heap[g]? =w.heap[g]? :=fun g bR=>hk.same g (h.lt g (by
  rw [hbs];rcases bR with bR | bR
  .exact Lz _ bR
  .exact Ly _ (Ly _ bR))).2 (nc g bR)
 refine ⟨⟨aL h.L8 fun g bR=>hs g (.inl ZcX),aL h.aj fun g bR=>hs g (.inl ZcX),ZdT,aL h.ag fun g bR=>hs g (.inr ZcX),aL h.ae fun g bR=>hs g (.inr ZcX),aL h.ai fun g bR=>hs g (.inr ZcX),fun y hy=>(h.eI y hy).same fun g hk=>hs g (.inl ZcU),fun y hy=>(h.eE y hy).same fun g hk=>hs g (.inr ZcU),fun y hy=>(h.eR y hy).same fun g hk=>hs g (.inr ZcU),?_⟩,rN⟩;rw [rN];exact h.nodup
def ap.xM {w w':w_} {base:Nat} {q:af} {l:List az} (h:ap w base q) (ho:w'.ownsRow base 93 3 (s_ q.ax q.ag.length q.aP) q.ag.length (bG.flat l)) (hl:l.length=q.ag.length) (hk:aI w w' (blk q.ax)):
  ap w' base ({ q with ag:=l } :af)/\({ q with ag:=l } :af).Mc=q.Mc:=by
 have hbs:q.Mc=(blk q.aN ++ q.L8.filterMap aR.bt ++ blk q.bc ++ blk q.ay) ++ ((blk q.ax) ++ (afB q)):=by simp [af.Mc,Lm]
 have rN:({ q with ag:=l } :af).Mc=q.Mc:=by rfl
 have hnd:=h.nodup;rw [hbs] at hnd;have nc: ∀ g,(g∈(blk q.aN ++ q.L8.filterMap aR.bt ++ blk q.bc ++ blk q.ay)\/g∈(afB q))->g∉(blk q.ax):=fun g bR hA=>by
  exact F_
 have hs: ∀ g,(g∈(blk q.aN ++ q.L8.filterMap aR.bt ++ blk q.bc ++ blk q.ay)\/g∈(afB q))->w'.heap[g]? =w.heap[g]? :=fun g bR=>hk.same g (h.lt g (by
  rw [hbs];rcases bR with bR | bR
  .exact Lz _ bR
  .exact Ly _ (Ly _ bR))).2 (nc g bR)
 refine ⟨⟨aL h.L8 fun g bR=>hs g (.inl ZcX),aL h.aj fun g bR=>hs g (.inl ZcX),aL h.L9 fun g bR=>hs g (.inl ZcX),ZdT,aL h.ae fun g bR=>hs g (.inr ZcX),aL h.ai fun g bR=>hs g (.inr ZcX),fun y hy=>(h.eI y hy).same fun g hk=>hs g (.inl ZcU),fun y hy=>(h.eE y hy).same fun g hk=>hs g (.inr ZcU),fun y hy=>(h.eR y hy).same fun g hk=>hs g (.inr ZcU),?_⟩,rN⟩;rw [rN];exact h.nodup
def CY (p:af) (B:Nat) (b0 d0 b1 d1 b2 d2 b3 e:Bool) (g0 g1 g2 o:Nat) (a0 a1 a2:Option d_) (c0 c1 c2:Nat):Act:=⟨#[a_ #[i_ j_ p.id,i_ j_ p.next,s_ p.aN p.L8.length p.aW,s_ p.bc p.aj.length p.bF,s_ p.ay p.L9.length p.aO,s_ p.ax p.ag.length p.aP,s_ p.am p.ae.length p.aG,s_ p.aK p.ai.length p.aV],p_ (o_ ⟨B,0,n_⟩),p_ (o_ ⟨(B+1),0,n_⟩),bif b3 then p_ (o_ ⟨o,0,n_⟩) else undef,undef,undef,undef,undef,undef,undef,p_ (o_ ⟨B,0,n_⟩),i_ j_ p.id,p_ (o_ ⟨B,1,n_⟩),i_ j_ p.next,bif b0 then s_ (o_ ⟨g0,0,n_⟩) 0 0 else undef,p_ (o_ ⟨B,3,n_⟩),s_ p.bc p.aj.length p.bF,bif d0 then s_ a0 p.aj.length c0 else undef,bif b1 then s_ (o_ ⟨g1,0,n_⟩) 0 0 else undef,p_ (o_ ⟨B,4,n_⟩),s_ p.ay p.L9.length p.aO,bif d1 then s_ a1 p.L9.length c1 else undef,bif b2 then s_ (o_ ⟨g2,0,n_⟩) 0 0 else undef,p_ (o_ ⟨B,5,n_⟩),s_ p.ax p.ag.length p.aP,bif d2 then s_ a2 p.ag.length c2 else undef,bif e then a_ #[i_ j_ p.id,i_ j_ p.next,s_ n_ 0 0,s_ a0 p.aj.length c0,s_ a1 p.L9.length c1,s_ a2 p.ag.length c2,s_ n_ 0 0,s_ n_ 0 0] else undef,undef,undef,undef,undef,undef,undef,undef,undef,undef,undef,undef,undef,undef,undef,undef,undef,undef,undef,undef,undef,undef,undef,undef,undef,undef,undef,undef,undef,undef,undef,undef,undef,undef,undef,undef,undef,undef,undef,undef,undef,undef,undef,undef,undef,undef,undef,undef,undef,undef,undef,undef,undef,undef,undef,undef,undef,undef,undef,undef,undef,undef,undef,undef,undef,undef,undef,undef,undef,undef,undef],[]⟩
def IP (p:af) (We:w_) (l:Array Bool) (a:Act) (w:w_):Prop:= ∃ (b0 d0 b1 d1 b2 d2 b3 d3 e:Bool) (g0 g1 g2 o:Nat) (a0 a1 a2:Option d_) (c0 c1 c2:Nat),l= #[true,true,true,true,b0,true,true,d0,b1,true,true,d1,b2,true,true,d2,e,b3,d3] /\a=CY p We.heap.size b0 d0 b1 d1 b2 d2 b3 e g0 g1 g2 o a0 a1 a2 c0 c1 c2/\fI p We w b0 d0 b1 d1 b2 d2 b3 d3 e g0 g1 g2 o a0 a1 a2 c0 c1 c2
abbrev pcA (x:ao) (a2:Option d_) (c2:Nat):Array v_:= #[i_ j_ x.id,i_ j_ x.RX,s_ a2 x.prog.length c2,i_ j_ x.Md,i_ j_ x.pc,i_ j_ x.left,i_ j_ x.Mg,i_ j_ x.on,t_ x.held,t_ x.got,i_ j_ x.code,i_ j_ x.RU]
abbrev pcB (x:aM) (a2:Option d_) (c2:Nat):Array v_:= #[i_ j_ x.id,b_ x.I,b_ x.Mf,i_ j_ x.max,s_ a2 x.Ma.length c2]
structure cL (p:af) (We w:w_) (o:Nat) (q:af):Prop where
 cd:B_ We.heap.size We w
 part:av w We.heap.size p
 ret:w.heap[We.heap.size+1]? =o_ (c_ ar 31)
 I:av w o q
 own:ap w (We.heap.size+2) q
 low:We.heap.size+2<=o
 free:o∉q.Mc
def cL.below {p:af} {We w w':w_} {o:Nat} {q:af} (h:cL p We w o q) (hb:B_ w.heap.size w w'):cL p We w' o q:=
 ⟨h.cd.trans (hb.mono h.cd.size),h.part.below hb,(hb.block _ (J2.1 h.ret).1).trans h.ret,h.I.below hb,h.own.below hb,h.low,h.free⟩
def cL.start {p:af} {We w:w_} {g0 g1 g2 o:Nat} {a0 a1 a2:Option d_} {c0 c1 c2:Nat} (h:fI p We w true true true true true true true true true g0 g1 g2 o a0 a1 a2 c0 c1 c2):
  cL p We w o ⟨p.id,p.next,[],n_,0,p.aj,a0,c0,p.L9,a1,c1,p.ag,a2,c2,[],n_,0,[],n_,0⟩:=by
 have hap:=h.pR.apart;refine ⟨h.cd,h.part,h.ret,h.I rfl,⟨Ke _ _ _ _,h.s0.done rfl,h.s1.done rfl,h.s2.done rfl,Ke _ _ _ _,Ke _ _ _ _,(fun x hx=>by cases hx),(fun x hx=>by cases hx),(fun x hx=>by cases hx),?_⟩,(h.pR.xy 3 o Zd0).1,?_⟩
 .have e:af.Mc ⟨p.id,p.next,[],n_,0,p.aj,a0,c0,p.L9,a1,c1,p.ag,a2,c2,[],n_,0,[],n_,0⟩=blk a0 ++ (blk a1 ++ blk a2):=by simp [af.Mc,blk]
  rw [e];simp only [Kf,Kg];refine ⟨fN _,⟨fN _,fN _,fun a ha b hb e=> ?_⟩,fun a ha b hb e=> ?_⟩
  .subst e
   exact hap 1 2 (by decide) a ZdZ Zdg
  .subst e
   rcases hb with hb | hb
   .exact hap 0 1 (by decide) a ZdZ Zdg
   .exact hap 0 2 (by decide) a ZdZ Zdg
 .have e:af.Mc ⟨p.id,p.next,[],n_,0,p.aj,a0,c0,p.L9,a1,c1,p.ag,a2,c2,[],n_,0,[],n_,0⟩=blk a0 ++ (blk a1 ++ blk a2):=by simp [af.Mc,blk]
  rw [e];simp only [Kg];rintro (hb | hb | hb)
  .exact hap 3 0 (by decide) o Zd0 Zdg
  .exact hap 3 1 (by decide) o Zd0 Zdg
  .exact hap 3 2 (by decide) o Zd0 Zdg
def di {a:Option d_} {n c g:Nat} (h:(Value.slice a n c).ownBlock=o_ g):g∈blk a:=by
 cases a with
 | none=>simp [Value.ownBlock] at h
 | some ad=>simp [Value.ownBlock] at h; simp [blk,h]
def aH {w:w_} {o i g:Nat} {v:v_} (h:g≠o):(w.setCell ⟨o,i,n_⟩ v).heap[g]? =w.heap[g]? :=de [v] h
def cx {w:w_} {o i:Nat} {v:v_} {cs:Array v_} {t:T_} (h:w.heap[o]? =o_ (c_ cs t)):(w.setCell ⟨o,i,n_⟩ v).heap[o]? =o_ (c_ (cs.setIfInBounds i v) t):=jc [v] h
def bP {B o i:Nat} {w0 w:w_} {v:v_} (h:B_ B w0 w) (hb:B<=o):B_ B w0 (w.setCell ⟨o,i,n_⟩ v):=
 ⟨h.os,h.tape,h.output,by have:=h.size; rw [show (w.setCell ⟨o,i,n_⟩ v).heap.size=w.heap.size from fH [v]]; exact this,fun k hk=>(aH zo).trans (h.block k hk)⟩
def IV {p q:af} {k:Nat} (h:q.pure= { p.pure with L8:=p.pure.L8.take k,ae:= [],ai:= [] }) (hk:k<=p.L8.length):q.L8.length=k:=by
 have h5:=congrArg (fun z=>(aE.L8 z).length) h;simp [af.pure] at h5;omega
def Fs {p q:af} {k:Nat} (h:q.pure= { p.pure with ae:=p.pure.ae.take k,ai:= [] }) (hk:k<=p.ae.length):q.ae.length=k:=by
 have h5:=congrArg (fun z=>(aE.ae z).length) h;simp [af.pure] at h5;omega
def I0 {p q:af} {k:Nat} (h:q.pure= { p.pure with ai:=p.pure.ai.take k }) (hk:k<=p.ai.length):q.ai.length=k:=by
 have h5:=congrArg (fun z=>(aE.ai z).length) h;simp [af.pure] at h5;omega
def cL.yg {p:af} {We w w':w_} {o:Nat} {q:af} {x:ao} {a:Option d_} {c:Nat} (h:cL p We w o q) (hm:aR.cO w (We.heap.size+2) x) (hx: ∀ g,aR.bt x=o_ g->g∉q.Mc/\g≠o)
  (ho:w'.ownsRow (We.heap.size+2) 41 12 (s_ a (q.L8.length+1) c) (q.L8.length+1) (bg.flat (q.L8 ++ [x]))) (hg:w.grownBy w' ((Value.slice q.aN q.L8.length q.aW).ownBlock)) (hb: ∀ g∈blk a,g∈blk q.aN\/g=w.heap.size):
  cL p We (w'.setCell ⟨o,2,n_⟩ (s_ a (q.L8.length+1) c)) o ({ q with L8:=q.L8 ++ [x],aN:=a,aW:=c } :af):=by
 have p7:o < w.heap.size:=(J2.1 h.I).1;have hrow: ∀ g,g < w.heap.size->g∉blk q.aN->w'.heap[g]? =w.heap[g]? :=fun g hgl hn=>hg.block g hgl fun e=>hn (di e.symm)
 obtain ⟨hown,hbl⟩:=h.own.yg hm (fun g hk=>(hx g hk).1) ho hrow hb;have hoA:o∉blk q.aN:=fun hm'=>h.free (by simp [af.Mc,hm'])
 have hlow: ∀ g,g∈blk q.aN->We.heap.size+2<=g:=fun g hg'=>(cf h.own.L8 hg').1
 have hfree:o∉({ q with L8:=q.L8 ++ [x],aN:=a,aW:=c } :af).Mc:=fun hm'=>by
  exact ZaT
 have hsc: ∀ g,g≠o->(w'.setCell ⟨o,2,n_⟩ (s_ a (q.L8.length+1) c)).heap[g]? =w'.heap[g]? :=fun g hne=>aH hne
 have lY:B_ We.heap.size We w':=h.cd.grown hg (by have:=h.low; omega) (fun k hk=>by have:=hlow k (di hk); omega);have hout:w'.heap[o]? =w.heap[o]? :=hrow o p7 hoA;have hlo:=h.low;refine ⟨bP lY zo,(hsc _ zo).trans ((hrow _ zo fun hm'=>by have:=hlow _ hm'; omega).trans h.part),(hsc _ zo).trans ((hrow _ zo fun hm'=>by have:=hlow _ hm'; omega).trans h.ret),?_,hown.same fun g hg'=>hsc g fun e=>hfree (e ▸ hg'),h.low,hfree⟩;have h5:=cx (i:=2) (v:=s_ a (q.L8.length+1) c) (hout.trans h.I);have e:(q.L8 ++ [x]).length=q.L8.length+1:=by simp
 unfold av;simp only [e];exact h5
def vt (wr w7:w_) (x:ao) (a2:Option d_) (c2:Nat):Prop:=w7.heap[wr.heap.size]? =o_ (c_ #[i_ j_ x.id,i_ j_ x.RX,s_ x.aY x.prog.length x.bH,i_ j_ x.Md,i_ j_ x.pc,i_ j_ x.left,i_ j_ x.Mg,i_ j_ x.on,t_ x.held,t_ x.got,i_ j_ x.code,i_ j_ x.RU] 41)/\B_ wr.heap.size wr w7/\w7.ownsRow wr.heap.size 45 4 (s_ a2 x.prog.length c2) x.prog.length (fk.flat x.prog)/\ ∀ g∈blk a2,g=wr.heap.size+1\/g=wr.heap.size+2
section
variable {p q:af} {We wr w7 pH W8 W9:w_} {o c2 c k:Nat} {x:ao} {a2 a:Option d_}
def cL.ago (h:cL p We wr o q) (h7:vt wr w7 x a2 c2) (e8:W8=w7.setCell ⟨wr.heap.size,2,n_⟩ (s_ a2 x.prog.length c2)):W8.cell? ⟨o,2,n_⟩=o_ (s_ q.aN q.L8.length q.aW)/\W8.cell? ⟨wr.heap.size,0,n_⟩=o_ (i_ j_ x.id)/\W8.cell? ⟨wr.heap.size,1,n_⟩=o_ (i_ j_ x.RX)/\W8.cell? ⟨wr.heap.size,2,n_⟩=o_ (s_ a2 x.prog.length c2)/\W8.cell? ⟨wr.heap.size,3,n_⟩=o_ (i_ j_ x.Md)/\W8.cell? ⟨wr.heap.size,4,n_⟩=o_ (i_ j_ x.pc)/\W8.cell? ⟨wr.heap.size,5,n_⟩=o_ (i_ j_ x.left)/\W8.cell? ⟨wr.heap.size,6,n_⟩=o_ (i_ j_ x.Mg)/\W8.cell? ⟨wr.heap.size,7,n_⟩=o_ (i_ j_ x.on)/\W8.cell? ⟨wr.heap.size,8,n_⟩=o_ (t_ x.held)/\W8.cell? ⟨wr.heap.size,9,n_⟩=o_ (t_ x.got)/\W8.cell? ⟨wr.heap.size,10,n_⟩=o_ (i_ j_ x.code)/\W8.cell? ⟨wr.heap.size,11,n_⟩=o_ (i_ j_ x.RU):=by
 subst e8;have p7:o < wr.heap.size:=(J2.1 h.I).1;have h1:=(aH (i:=2) (v:=s_ a2 x.prog.length c2) (by omega:o≠wr.heap.size)).trans (h7.2.1.block o p7);have h2:=cx (i:=2) (v:=s_ a2 x.prog.length c2) h7.1;exact ZaU
def cL.Hm (h7:vt wr w7 x a2 c2) (e8:W8=w7.setCell ⟨wr.heap.size,2,n_⟩ (s_ a2 x.prog.length c2)) (e9:W9=W8.alloc (c_ (pcA x a2 c2) 41)):B_ wr.heap.size wr W9/\W8.heap.size=w7.heap.size:=by
 exact ZaY
def cL.IH (h:cL p We wr o q) (h7:vt wr w7 x a2 c2) (e8:W8=w7.setCell ⟨wr.heap.size,2,n_⟩ (s_ a2 x.prog.length c2)) (e9:W9=W8.alloc (c_ (pcA x a2 c2) 41)):W9.ownsRow (We.heap.size+2) 41 12 (s_ q.aN q.L8.length q.aW) q.L8.length (bg.flat q.L8)/\W9.heap[w7.heap.size]? =o_ (c_ (pcA x a2 c2) 41):=by
 have kN:=cL.Hm h7 e8 e9;refine ⟨(h.below kN.1).own.L8,?_⟩;subst e9;have h5:=Kj W8 (c_ (pcA x a2 c2) 41)
 rwa [kN.2] at h5
def cL.upProc (h:q.pure= { p.pure with L8:=p.pure.L8.take k,ae:= [],ai:= [] }) (hx:p.L8[k]? =o_ x):({ q with L8:=q.L8 ++ [({ x with aY:=a2,bH:=c2 } :ao)],aN:=a,aW:=c } :af).pure= { p.pure with L8:=p.pure.L8.take (k+1),ae:= [],ai:= [] } :=by
 have e:p.pure.L8.take (k+1)=p.pure.L8.take k ++ [x.toaD] :=by
  rw [cj (x:=x.toaD)]
  show (p.L8.map (·.toaD))[k]? =_
  rw [Kk,hx];rfl
 rw [e];have h5:=congrArg aE.L8 h;have h6:(q.L8 ++ [({ x with aY:=a2,bH:=c2 } :ao)]).map (·.toaD)=p.pure.L8.take k ++ [x.toaD] :=by
  rw [Kl];exact congrArg (· ++ [x.toaD]) h5
 show ({ q.pure with L8:=(q.L8 ++ [({ x with aY:=a2,bH:=c2 } :ao)]).map (·.toaD) } :aE)=_
 rw [h6,h]
def cL.G5 (h:cL p We wr o q) (h7:vt wr w7 x a2 c2) (e8:W8=w7.setCell ⟨wr.heap.size,2,n_⟩ (s_ a2 x.prog.length c2)) (e9:W9=W8.alloc (c_ (pcA x a2 c2) 41))
  (ho:pH.ownsRow (We.heap.size+2) 41 12 (s_ a (q.L8.length+1) c) (q.L8.length+1) (bg.flat q.L8 ++ bg.vals ({ x with aY:=a2,bH:=c2 } :ao))) (hg:W9.grownBy pH ((Value.slice q.aN q.L8.length q.aW).ownBlock))
  (hb:(Value.slice a (q.L8.length+1) c).ownBlock=(Value.slice q.aN q.L8.length q.aW).ownBlock\/(Value.slice a (q.L8.length+1) c).ownBlock=o_ W9.heap.size):
  cL p We (pH.setCell ⟨o,2,n_⟩ (s_ a (q.L8.length+1) c)) o ({ q with L8:=q.L8 ++ [({ x with aY:=a2,bH:=c2 } :ao)],aN:=a,aW:=c } :af)/\pH.cell? ⟨o,2,n_⟩=o_ (s_ q.aN q.L8.length q.aW)/\pH.frozen? ⟨o,2,n_⟩=false:=by
 have p7:o < wr.heap.size:=(J2.1 h.I).1;obtain ⟨kN,hs8⟩:=cL.Hm h7 e8 e9;have h9:=h.below kN;have hlow:=h.low;have hm:aR.cO W9 (We.heap.size+2) ({ x with aY:=a2,bH:=c2 } :ao):=by
  exact H_
 have hx: ∀ g,aR.bt ({ x with aY:=a2,bH:=c2 } :ao)=o_ g->g∉q.Mc/\g≠o:=fun g hk=>by
  exact ZaG
 have hn: ∀ g∈blk a,g∈blk q.aN\/g=W9.heap.size:=fun g hg'=>by
  exact Q2
 have hL:=h9.yg hm hx (by rw [bg.dc]; exact ho) hg hn;exact I_
end
def cL.sD {p:af} {We w w':w_} {o:Nat} {q:af} {x:au} {a:Option d_} {c:Nat} (h:cL p We w o q) (hm:aC.cO w (We.heap.size+2) x) (hx: ∀ g,aC.bt x=o_ g->g∉q.Mc/\g≠o)
  (ho:w'.ownsRow (We.heap.size+2) 96 3 (s_ a (q.ae.length+1) c) (q.ae.length+1) (bm.flat (q.ae ++ [x]))) (hg:w.grownBy w' ((Value.slice q.am q.ae.length q.aG).ownBlock)) (hb: ∀ g∈blk a,g∈blk q.am\/g=w.heap.size):
  cL p We (w'.setCell ⟨o,6,n_⟩ (s_ a (q.ae.length+1) c)) o ({ q with ae:=q.ae ++ [x],am:=a,aG:=c } :af):=by
 have p7:o < w.heap.size:=(J2.1 h.I).1;have hrow: ∀ g,g < w.heap.size->g∉blk q.am->w'.heap[g]? =w.heap[g]? :=fun g hgl hn=>hg.block g hgl fun e=>hn (di e.symm)
 obtain ⟨hown,hbl⟩:=h.own.sD hm (fun g hk=>(hx g hk).1) ho hrow hb;have hoA:o∉blk q.am:=fun hm'=>h.free (by simp [af.Mc,hm'])
 have hlow: ∀ g,g∈blk q.am->We.heap.size+2<=g:=fun g hg'=>(cf h.own.ae hg').1
 have hfree:o∉({ q with ae:=q.ae ++ [x],am:=a,aG:=c } :af).Mc:=fun hm'=>by
  exact ZaT
 have hsc: ∀ g,g≠o->(w'.setCell ⟨o,6,n_⟩ (s_ a (q.ae.length+1) c)).heap[g]? =w'.heap[g]? :=fun g hne=>aH hne
 have lY:B_ We.heap.size We w':=h.cd.grown hg (by have:=h.low; omega) (fun k hk=>by have:=hlow k (di hk); omega);have hout:w'.heap[o]? =w.heap[o]? :=hrow o p7 hoA;have hlo:=h.low;refine ⟨bP lY zo,(hsc _ zo).trans ((hrow _ zo fun hm'=>by have:=hlow _ hm'; omega).trans h.part),(hsc _ zo).trans ((hrow _ zo fun hm'=>by have:=hlow _ hm'; omega).trans h.ret),?_,hown.same fun g hg'=>hsc g fun e=>hfree (e ▸ hg'),h.low,hfree⟩;have h5:=cx (i:=6) (v:=s_ a (q.ae.length+1) c) (hout.trans h.I);have e:(q.ae ++ [x]).length=q.ae.length+1:=by simp
 unfold av;simp only [e];exact h5
def o9 (wr w7:w_) (x:au) (a2:Option d_) (c2:Nat):Prop:=w7.heap[wr.heap.size]? =o_ (c_ #[i_ j_ x.id,i_ j_ x.max,s_ x.ak x.Ma.length x.aq] 96)/\B_ wr.heap.size wr w7/\w7.ownsRow wr.heap.size 9 1 (s_ a2 x.Ma.length c2) x.Ma.length (bT.flat x.Ma)/\ ∀ g∈blk a2,g=wr.heap.size+1\/g=wr.heap.size+2
section
variable {p q:af} {We wr w7 pH W8 W9:w_} {o c2 c k:Nat} {x:au} {a2 a:Option d_}
def cL.F9 (h:cL p We wr o q) (h7:o9 wr w7 x a2 c2) (e8:W8=w7.setCell ⟨wr.heap.size,2,n_⟩ (s_ a2 x.Ma.length c2)):W8.cell? ⟨o,6,n_⟩=o_ (s_ q.am q.ae.length q.aG)/\W8.cell? ⟨wr.heap.size,0,n_⟩=o_ (i_ j_ x.id)/\W8.cell? ⟨wr.heap.size,1,n_⟩=o_ (i_ j_ x.max)/\W8.cell? ⟨wr.heap.size,2,n_⟩=o_ (s_ a2 x.Ma.length c2):=by
 subst e8;have p7:o < wr.heap.size:=(J2.1 h.I).1;have h1:=(aH (i:=2) (v:=s_ a2 x.Ma.length c2) (by omega:o≠wr.heap.size)).trans (h7.2.1.block o p7);have h2:=cx (i:=2) (v:=s_ a2 x.Ma.length c2) h7.1;exact ZaU
def cL.zQ (h7:o9 wr w7 x a2 c2) (e8:W8=w7.setCell ⟨wr.heap.size,2,n_⟩ (s_ a2 x.Ma.length c2)) (e9:W9=W8.alloc (c_ #[i_ j_ x.id,i_ j_ x.max,s_ a2 x.Ma.length c2] 96)):B_ wr.heap.size wr W9/\W8.heap.size=w7.heap.size:=by
 exact ZaY
def cL.Fl (h:cL p We wr o q) (h7:o9 wr w7 x a2 c2) (e8:W8=w7.setCell ⟨wr.heap.size,2,n_⟩ (s_ a2 x.Ma.length c2)) (e9:W9=W8.alloc (c_ #[i_ j_ x.id,i_ j_ x.max,s_ a2 x.Ma.length c2] 96)):W9.ownsRow (We.heap.size+2) 96 3 (s_ q.am q.ae.length q.aG) q.ae.length (bm.flat q.ae)/\W9.heap[w7.heap.size]? =o_ (c_ #[i_ j_ x.id,i_ j_ x.max,s_ a2 x.Ma.length c2] 96):=by
 have kN:=cL.zQ h7 e8 e9;refine ⟨(h.below kN.1).own.ae,?_⟩;subst e9;have h5:=Kj W8 (c_ #[i_ j_ x.id,i_ j_ x.max,s_ a2 x.Ma.length c2] 96)
 rwa [kN.2] at h5
def cL.FY (h:q.pure= { p.pure with ae:=p.pure.ae.take k,ai:= [] }) (hx:p.ae[k]? =o_ x):({ q with ae:=q.ae ++ [({ x with ak:=a2,aq:=c2 } :au)],am:=a,aG:=c } :af).pure= { p.pure with ae:=p.pure.ae.take (k+1),ai:= [] } :=by
 have e:p.pure.ae.take (k+1)=p.pure.ae.take k ++ [x.toci] :=by
  rw [cj (x:=x.toci)]
  show (p.ae.map (·.toci))[k]? =_
  rw [Kk,hx];rfl
 rw [e];have h5:=congrArg aE.ae h;have h6:(q.ae ++ [({ x with ak:=a2,aq:=c2 } :au)]).map (·.toci)=p.pure.ae.take k ++ [x.toci] :=by
  rw [Kl];exact congrArg (· ++ [x.toci]) h5
 show ({ q.pure with ae:=(q.ae ++ [({ x with ak:=a2,aq:=c2 } :au)]).map (·.toci) } :aE)=_
 rw [h6,h]
def cL.Do (h:cL p We wr o q) (h7:o9 wr w7 x a2 c2) (e8:W8=w7.setCell ⟨wr.heap.size,2,n_⟩ (s_ a2 x.Ma.length c2)) (e9:W9=W8.alloc (c_ #[i_ j_ x.id,i_ j_ x.max,s_ a2 x.Ma.length c2] 96))
  (ho:pH.ownsRow (We.heap.size+2) 96 3 (s_ a (q.ae.length+1) c) (q.ae.length+1) (bm.flat q.ae ++ bm.vals ({ x with ak:=a2,aq:=c2 } :au))) (hg:W9.grownBy pH ((Value.slice q.am q.ae.length q.aG).ownBlock))
  (hb:(Value.slice a (q.ae.length+1) c).ownBlock=(Value.slice q.am q.ae.length q.aG).ownBlock\/(Value.slice a (q.ae.length+1) c).ownBlock=o_ W9.heap.size):
  cL p We (pH.setCell ⟨o,6,n_⟩ (s_ a (q.ae.length+1) c)) o ({ q with ae:=q.ae ++ [({ x with ak:=a2,aq:=c2 } :au)],am:=a,aG:=c } :af)/\pH.cell? ⟨o,6,n_⟩=o_ (s_ q.am q.ae.length q.aG)/\pH.frozen? ⟨o,6,n_⟩=false:=by
 have p7:o < wr.heap.size:=(J2.1 h.I).1;obtain ⟨kN,hs8⟩:=cL.zQ h7 e8 e9;have h9:=h.below kN;have hlow:=h.low;have hm:aC.cO W9 (We.heap.size+2) ({ x with ak:=a2,aq:=c2 } :au):=by
  exact H_
 have hx: ∀ g,aC.bt ({ x with ak:=a2,aq:=c2 } :au)=o_ g->g∉q.Mc/\g≠o:=fun g hk=>by
  exact ZaG
 have hn: ∀ g∈blk a,g∈blk q.am\/g=W9.heap.size:=fun g hg'=>by
  exact Q2
 have hL:=h9.sD hm hx (by rw [bm.dc]; exact ho) hg hn;exact I_
end
def cL.yf {p:af} {We w w':w_} {o:Nat} {q:af} {x:aM} {a:Option d_} {c:Nat} (h:cL p We w o q) (hm:aU.cO w (We.heap.size+2) x) (hx: ∀ g,aU.bt x=o_ g->g∉q.Mc/\g≠o)
  (ho:w'.ownsRow (We.heap.size+2) 115 5 (s_ a (q.ai.length+1) c) (q.ai.length+1) (bX.flat (q.ai ++ [x]))) (hg:w.grownBy w' ((Value.slice q.aK q.ai.length q.aV).ownBlock)) (hb: ∀ g∈blk a,g∈blk q.aK\/g=w.heap.size):
  cL p We (w'.setCell ⟨o,7,n_⟩ (s_ a (q.ai.length+1) c)) o ({ q with ai:=q.ai ++ [x],aK:=a,aV:=c } :af):=by
 have p7:o < w.heap.size:=(J2.1 h.I).1;have hrow: ∀ g,g < w.heap.size->g∉blk q.aK->w'.heap[g]? =w.heap[g]? :=fun g hgl hn=>hg.block g hgl fun e=>hn (di e.symm)
 obtain ⟨hown,hbl⟩:=h.own.yf hm (fun g hk=>(hx g hk).1) ho hrow hb;have hoA:o∉blk q.aK:=fun hm'=>h.free (by simp [af.Mc,hm'])
 have hlow: ∀ g,g∈blk q.aK->We.heap.size+2<=g:=fun g hg'=>(cf h.own.ai hg').1
 have hfree:o∉({ q with ai:=q.ai ++ [x],aK:=a,aV:=c } :af).Mc:=fun hm'=>by
  exact ZaT
 have hsc: ∀ g,g≠o->(w'.setCell ⟨o,7,n_⟩ (s_ a (q.ai.length+1) c)).heap[g]? =w'.heap[g]? :=fun g hne=>aH hne
 have lY:B_ We.heap.size We w':=h.cd.grown hg (by have:=h.low; omega) (fun k hk=>by have:=hlow k (di hk); omega);have hout:w'.heap[o]? =w.heap[o]? :=hrow o p7 hoA;have hlo:=h.low;refine ⟨bP lY zo,(hsc _ zo).trans ((hrow _ zo fun hm'=>by have:=hlow _ hm'; omega).trans h.part),(hsc _ zo).trans ((hrow _ zo fun hm'=>by have:=hlow _ hm'; omega).trans h.ret),?_,hown.same fun g hg'=>hsc g fun e=>hfree (e ▸ hg'),h.low,hfree⟩;have h5:=cx (i:=7) (v:=s_ a (q.ai.length+1) c) (hout.trans h.I);have e:(q.ai ++ [x]).length=q.ai.length+1:=by simp
 unfold av;simp only [e];exact h5
def uT (wr w7:w_) (x:aM) (a2:Option d_) (c2:Nat):Prop:=w7.heap[wr.heap.size]? =o_ (c_ #[i_ j_ x.id,b_ x.I,b_ x.Mf,i_ j_ x.max,s_ x.ak x.Ma.length x.aq] 115)/\B_ wr.heap.size wr w7/\w7.ownsRow wr.heap.size 9 1 (s_ a2 x.Ma.length c2) x.Ma.length (bT.flat x.Ma)/\ ∀ g∈blk a2,g=wr.heap.size+1\/g=wr.heap.size+2
section
variable {p q:af} {We wr w7 pH W8 W9:w_} {o c2 c k:Nat} {x:aM} {a2 a:Option d_}
def cL.agV (h:cL p We wr o q) (h7:uT wr w7 x a2 c2) (e8:W8=w7.setCell ⟨wr.heap.size,4,n_⟩ (s_ a2 x.Ma.length c2)):W8.cell? ⟨o,7,n_⟩=o_ (s_ q.aK q.ai.length q.aV)/\W8.cell? ⟨wr.heap.size,0,n_⟩=o_ (i_ j_ x.id)/\W8.cell? ⟨wr.heap.size,1,n_⟩=o_ (b_ x.I)/\W8.cell? ⟨wr.heap.size,2,n_⟩=o_ (b_ x.Mf)/\W8.cell? ⟨wr.heap.size,3,n_⟩=o_ (i_ j_ x.max)/\W8.cell? ⟨wr.heap.size,4,n_⟩=o_ (s_ a2 x.Ma.length c2):=by
 subst e8;have p7:o < wr.heap.size:=(J2.1 h.I).1;have h1:=(aH (i:=4) (v:=s_ a2 x.Ma.length c2) (by omega:o≠wr.heap.size)).trans (h7.2.1.block o p7);have h2:=cx (i:=4) (v:=s_ a2 x.Ma.length c2) h7.1;exact ZaU
def cL.F4 (h7:uT wr w7 x a2 c2) (e8:W8=w7.setCell ⟨wr.heap.size,4,n_⟩ (s_ a2 x.Ma.length c2)) (e9:W9=W8.alloc (c_ (pcB x a2 c2) 115)):B_ wr.heap.size wr W9/\W8.heap.size=w7.heap.size:=by
 exact ZaY
def cL.I4 (h:cL p We wr o q) (h7:uT wr w7 x a2 c2) (e8:W8=w7.setCell ⟨wr.heap.size,4,n_⟩ (s_ a2 x.Ma.length c2)) (e9:W9=W8.alloc (c_ (pcB x a2 c2) 115)):W9.ownsRow (We.heap.size+2) 115 5 (s_ q.aK q.ai.length q.aV) q.ai.length (bX.flat q.ai)/\W9.heap[w7.heap.size]? =o_ (c_ (pcB x a2 c2) 115):=by
 have kN:=cL.F4 h7 e8 e9;refine ⟨(h.below kN.1).own.ai,?_⟩;subst e9;have h5:=Kj W8 (c_ (pcB x a2 c2) 115)
 rwa [kN.2] at h5
def cL.upPort (h:q.pure= { p.pure with ai:=p.pure.ai.take k }) (hx:p.ai[k]? =o_ x):({ q with ai:=q.ai ++ [({ x with ak:=a2,aq:=c2 } :aM)],aK:=a,aV:=c } :af).pure= { p.pure with ai:=p.pure.ai.take (k+1) } :=by
 have e:p.pure.ai.take (k+1)=p.pure.ai.take k ++ [x.todS] :=by
  rw [cj (x:=x.todS)]
  show (p.ai.map (·.todS))[k]? =_
  rw [Kk,hx];rfl
 rw [e];have h5:=congrArg aE.ai h;have h6:(q.ai ++ [({ x with ak:=a2,aq:=c2 } :aM)]).map (·.todS)=p.pure.ai.take k ++ [x.todS] :=by
  rw [Kl];exact congrArg (· ++ [x.todS]) h5
 show ({ q.pure with ai:=(q.ai ++ [({ x with ak:=a2,aq:=c2 } :aM)]).map (·.todS) } :aE)=_
 rw [h6,h]
def cL.Gi (h:cL p We wr o q) (h7:uT wr w7 x a2 c2) (e8:W8=w7.setCell ⟨wr.heap.size,4,n_⟩ (s_ a2 x.Ma.length c2)) (e9:W9=W8.alloc (c_ (pcB x a2 c2) 115))
  (ho:pH.ownsRow (We.heap.size+2) 115 5 (s_ a (q.ai.length+1) c) (q.ai.length+1) (bX.flat q.ai ++ bX.vals ({ x with ak:=a2,aq:=c2 } :aM))) (hg:W9.grownBy pH ((Value.slice q.aK q.ai.length q.aV).ownBlock))
  (hb:(Value.slice a (q.ai.length+1) c).ownBlock=(Value.slice q.aK q.ai.length q.aV).ownBlock\/(Value.slice a (q.ai.length+1) c).ownBlock=o_ W9.heap.size):
  cL p We (pH.setCell ⟨o,7,n_⟩ (s_ a (q.ai.length+1) c)) o ({ q with ai:=q.ai ++ [({ x with ak:=a2,aq:=c2 } :aM)],aK:=a,aV:=c } :af)/\pH.cell? ⟨o,7,n_⟩=o_ (s_ q.aK q.ai.length q.aV)/\pH.frozen? ⟨o,7,n_⟩=false:=by
 have p7:o < wr.heap.size:=(J2.1 h.I).1;obtain ⟨kN,hs8⟩:=cL.F4 h7 e8 e9;have h9:=h.below kN;have hlow:=h.low;have hm:aU.cO W9 (We.heap.size+2) ({ x with ak:=a2,aq:=c2 } :aM):=by
  exact H_
 have hx: ∀ g,aU.bt ({ x with ak:=a2,aq:=c2 } :aM)=o_ g->g∉q.Mc/\g≠o:=fun g hk=>by
  exact ZaG
 have hn: ∀ g∈blk a,g∈blk q.aK\/g=W9.heap.size:=fun g hg'=>by
  exact Q2
 have hL:=h9.yf hm hx (by rw [bX.dc]; exact ho) hg hn;exact I_
end
abbrev Jn (p:af) (w w':w_):Prop:=w'.cell? ⟨w.heap.size,0,n_⟩=o_ (i_ j_ p.id)/\w'.cell? ⟨w.heap.size,1,n_⟩=o_ (i_ j_ p.next)/\w'.cell? ⟨w.heap.size,3,n_⟩=o_ (s_ p.bc p.aj.length p.bF)/\w'.cell? ⟨w.heap.size,4,n_⟩=o_ (s_ p.ay p.L9.length p.aO)/\w'.cell? ⟨w.heap.size,5,n_⟩=o_ (s_ p.ax p.ag.length p.aP)
def fR (p:af) (w:w_) (hf:p.Fit) (hsh: ∀ x∈p.L8,x.dX) (h:af.At w p):
  k_ J3 37 #[a_ p.cells] w fun e w'=> ∃ p',e=r_ (a_ p'.cells)/\ap w' w.heap.size p'/\p'.pure=p.pure/\B_ w.heap.size w w':=by
 have HF:Hid (p.Fit/\af.At w p):=⟨hf,h⟩
 have HFS:Hid (∀ x∈p.L8,x.dX):=hsh;have HC:Hid (fI p w (((w.alloc (c_ p.row 31)).alloc (c_ ar 31))).drew false false false false false false false false false 0 0 0 0 n_ n_ n_ 0 0 0):=by
  have b1:B_ w.heap.size w ((w.alloc (c_ p.row 31)).alloc (c_ ar 31)):=((Kp _ _).alloc (Ki _) _).alloc zw _;exact ⟨b1.drew,(PU zw).trans (Kj _ _),Kq _ _ _,⟨(fun h=>by cases h),fun h=>by cases h⟩,⟨(fun h=>by cases h),fun h=>by cases h⟩,⟨(fun h=>by cases h),fun h=>by cases h⟩,(fun h=>by cases h),⟨(fun h=>by cases h),fun h=>by cases h⟩,zw,⟨fun i j _ q hq=>by rcases i with _ | _ | _ | _ | _ <;> simp [four,bM] at hq,fun i q hq=>by rcases i with _ | _ | _ | _ | _ <;> simp [four,bM] at hq⟩⟩
 have HS:Hid (Jn p w (((w.alloc (c_ p.row 31)).alloc (c_ ar 31))).drew):=by obtain ⟨m0,m1,m2,m3,m4,m5,m6,m7⟩:=HC.I.part.cells; exact ⟨m0,m1,m3,m4,m5⟩
 clear hf h hsh;unfold af.cells
 go_enter func37,ntmps37
 go_wp2_with fail;generalize (w.alloc (c_ p.row 31)).alloc (c_ ar 31)=W at *;refine Kr (S:=Jn p w) ZcS HS.I (fun hHeld=> ?_);refine tt 0 hHeld ?_;refine tt 1 hHeld ?_;refine tt 2 hHeld ?_;refine tt 3 hHeld ?_;refine tt 5 hHeld ?_;refine tt 6 hHeld ?_;refine tt 9 hHeld ?_;refine tt 10 hHeld ?_;refine tt 13 hHeld ?_;refine tt 14 hHeld ?_;refine wild (IP p w) (fun l a w1 hI=> ?_) (fun l a w1 hI i hi=> ?_) (fun l a w1 hI h0=> ?_) _ _ _ _ ⟨false,false,false,false,false,false,false,false,false,0,0,0,0,n_,n_,n_,0,0,0,by kernel_rfl,rfl,HC.I⟩ (of_decide_eq_true ZcS)
 .obtain ⟨b0,d0,b1,d1,b2,d2,b3,d3,e,g0,g1,g2,o,a0,a1,a2,c0,c1,c2,-,-,hC⟩:=hI
  obtain ⟨m0,m1,m2,m3,m4,m5,m6,m7⟩:=hC.part.cells;exact ⟨m0,m1,m3,m4,m5⟩
 .obtain ⟨b0,d0,b1,d1,b2,d2,b3,d3,e,g0,g1,g2,o,a0,a1,a2,c0,c1,c2,rfl,rfl,hC⟩:=hI
  have HI:Hid (fI p w w1 b0 d0 b1 d1 b2 d2 b3 d3 e g0 g1 g2 o a0 a1 a2 c0 c1 c2):=hC;clear hC;unfold CY
  match i,hi with
  | 0,hi=>exact absurd (cX hi) zw
  | 1,hi=>exact absurd (cX hi) zw
  | 2,hi=>exact absurd (cX hi) zw
  | 3,hi=>exact absurd (cX hi) zw
  | 4,hi=>
   have hb:b0=false:=by have h5:=cX hi; simpa using h5
   subst hb;refine ln (o:=_) rfl ZcS (fun K hK=> ?_);go_wp2_with fail;exact hK.out _ _ ⟨true,d0,b1,d1,b2,d2,b3,d3,e,w1.heap.size,g1,g2,o,a0,a1,a2,c0,c1,c2,by rfl,by rfl,HI.I.aaZ⟩
  | 5,hi=>exact absurd (cX hi) zw
  | 6,hi=>exact absurd (cX hi) zw
  | 7,hi=>
   have hb:d0=false:=by have h5:=cX hi; simpa using h5
   have hn4:b0=true:=by have h5:=hF [4,6] hi ZcS 4 (by decide); simpa using h5
   subst hb hn4;refine ln (o:=_) rfl ZcS (fun K hK=> ?_);obtain ⟨a',c',w2,hr,ho,hg,hq⟩:=Iq w1 (w.heap.size+2) g0 (HI.I.s0.made rfl rfl).1 (HI.I.s0.made rfl rfl).2 p.bc p.aj p.bF ((HF.I.2.below HI.I.cd).2.1.1) HF.I.1.short.aj HI.I.size;refine cM _ _ _ rfl _ _ _ w2 rfl rfl hr ?_;have he:e=false:=by cases e with | false=>rfl | true=>(have h5:=HI.I.cl.1 rfl; simp at h5)
   subst he;exact hK.out _ _ ⟨true,true,b1,d1,b2,d2,b3,d3,false,g0,g1,g2,o,a',a1,a2,c',c1,c2,by rfl,by rfl,HI.I.aa1 ho hg hq⟩
  | 8,hi=>
   have hb:b1=false:=by have h5:=cX hi; simpa using h5
   subst hb;refine ln (o:=_) rfl ZcS (fun K hK=> ?_);go_wp2_with fail;exact hK.out _ _ ⟨b0,d0,true,d1,b2,d2,b3,d3,e,g0,w1.heap.size,g2,o,a0,a1,a2,c0,c1,c2,by rfl,by rfl,HI.I.abg⟩
  | 9,hi=>exact absurd (cX hi) zw
  | 10,hi=>exact absurd (cX hi) zw
  | 11,hi=>
   have hb:d1=false:=by have h5:=cX hi; simpa using h5
   have hn8:b1=true:=by have h5:=hF [8,10,7] hi ZcS 8 (by decide); simpa using h5
   subst hb hn8;refine ln (o:=_) rfl ZcS (fun K hK=> ?_);obtain ⟨a',c',w2,hr,ho,hg,hq⟩:=Fp w1 (w.heap.size+2) g1 (HI.I.s1.made rfl rfl).1 (HI.I.s1.made rfl rfl).2 p.ay p.L9 p.aO ((HF.I.2.below HI.I.cd).2.2.1.1) HF.I.1.short.L9 HI.I.size;refine cM _ _ _ rfl _ _ _ w2 rfl rfl hr ?_;have he:e=false:=by cases e with | false=>rfl | true=>(have h5:=HI.I.cl.1 rfl; simp at h5)
   subst he;exact hK.out _ _ ⟨b0,d0,true,true,b2,d2,b3,d3,false,g0,g1,g2,o,a0,a',a2,c0,c',c2,by rfl,by rfl,HI.I.aa2 ho hg hq⟩
  | 12,hi=>
   have hb:b2=false:=by have h5:=cX hi; simpa using h5
   subst hb;refine ln (o:=_) rfl ZcS (fun K hK=> ?_);go_wp2_with fail;exact hK.out _ _ ⟨b0,d0,b1,d1,true,d2,b3,d3,e,g0,g1,w1.heap.size,o,a0,a1,a2,c0,c1,c2,by rfl,by rfl,HI.I.make2⟩
  | 13,hi=>exact absurd (cX hi) zw
  | 14,hi=>exact absurd (cX hi) zw
  | 15,hi=>
   have hb:d2=false:=by have h5:=cX hi; simpa using h5
   have adF:b2=true:=by have h5:=hF [12,14,11] hi ZcS 12 (by decide); simpa using h5
   subst hb adF;refine ln (o:=_) rfl ZcS (fun K hK=> ?_);obtain ⟨a',c',w2,hr,ho,hg,hq⟩:=ED w1 (w.heap.size+2) g2 (HI.I.s2.made rfl rfl).1 (HI.I.s2.made rfl rfl).2 p.ax p.ag p.aP ((HF.I.2.below HI.I.cd).2.2.2.1.1) HF.I.1.short.ag HI.I.size;refine cM _ _ _ rfl _ _ _ w2 rfl rfl hr ?_;have he:e=false:=by cases e with | false=>rfl | true=>(have h5:=HI.I.cl.1 rfl; simp at h5)
   subst he;exact hK.out _ _ ⟨b0,d0,b1,d1,true,true,b3,d3,false,g0,g1,g2,o,a0,a1,a',c0,c1,c',by rfl,by rfl,HI.I.copy2 ho hg hq⟩
  | 16,hi=>
   have hb:e=false:=by have h5:=cX hi; simpa using h5
   have hn7:d0=true:=by have h5:=hF [1,3,7,11,15] hi ZcS 7 (by decide); simpa using h5
   have hn11:d1=true:=by have h5:=hF [1,3,7,11,15] hi ZcS 11 (by decide); simpa using h5
   have hn15:d2=true:=by have h5:=hF [1,3,7,11,15] hi ZcS 15 (by decide); simpa using h5
   subst hb hn7 hn11 hn15;refine ln (o:=_) rfl ZcS (fun K hK=> ?_);go_wp2_with fail;exact hK.out _ _ ⟨b0,true,b1,true,b2,true,b3,d3,true,g0,g1,g2,o,a0,a1,a2,c0,c1,c2,by rfl,by rfl,HI.I.build rfl rfl rfl⟩
  | 17,hi=>
   have hb:b3=false:=by have h5:=cX hi; simpa using h5
   subst hb;refine ln (o:=_) rfl ZcS (fun K hK=> ?_);have hd3:d3=false:=by cases d3 with | false=>rfl | true=>(have h5:=HI.I.cl.2 rfl; simp at h5)
   subst hd3;go_wp2_with fail;exact hK.out _ _ ⟨b0,d0,b1,d1,b2,d2,true,false,e,g0,g1,g2,w1.heap.size,a0,a1,a2,c0,c1,c2,by rfl,by rfl,HI.I.aa9⟩
  | 18,hi=>
   have hb:d3=false:=by have h5:=cX hi; simpa using h5
   have hn17:b3=true:=by have h5:=hF [17,16,15,0,1,2,3,4,5,6,7,8,9,10,11,12,13,14,15,16,17] hi ZcS 17 (by decide); simpa using h5
   have hn16:e=true:=by have h5:=hF [17,16,15,0,1,2,3,4,5,6,7,8,9,10,11,12,13,14,15,16,17] hi ZcS 16 (by decide); simpa using h5
   subst hb hn17 hn16;refine ln (o:=_) rfl ZcS (fun K hK=> ?_);refine qd _ _ _ rfl o _ _ _ rfl rfl (HI.I.I rfl) ZcS rfl ZcS ?_;exact hK.out _ _ ⟨b0,d0,b1,d1,b2,d2,true,true,true,g0,g1,g2,o,a0,a1,a2,c0,c1,c2,by rfl,by rfl,HI.I.store⟩
  | n+19,hi=>exact absurd (cX hi) zw
 .obtain ⟨b0,d0,b1,d1,b2,d2,b3,d3,e,g0,g1,g2,o,a0,a1,a2,c0,c1,c2,rfl,rfl,hC⟩:=hI
  have hno: ∀ i,i∉Region.ready .any _ _:=fun i hi=>by rw [h0] at hi; cases hi
  have hb0:b0=true:=by cases hx:b0 with | true=>rfl | false=>exact absurd (jW [] ZcS ZcS Zdq (fun j hj=>by cases hj)) (hno 4)
  have hd0:d0=true:=by cases hx:d0 with | true=>rfl | false=>exact absurd (jW [4,6] ZcS ZcS Zdq (fun j hj=>by simp only [Kt,Ku,or_false] at hj; rcases hj with rfl | rfl <;> first | rfl | simp [hb0])) (hno 7)
  have hb1:b1=true:=by cases hx:b1 with | true=>rfl | false=>exact absurd (jW [] ZcS ZcS Zdq (fun j hj=>by cases hj)) (hno 8)
  have hd1:d1=true:=by cases hx:d1 with | true=>rfl | false=>exact absurd (jW [8,10,7] ZcS ZcS Zdq (fun j hj=>by simp only [Kt,Ku,or_false] at hj; rcases hj with rfl | rfl | rfl <;> first | rfl | simp [hb1,hd0])) (hno 11)
  have hb2:b2=true:=by cases hx:b2 with | true=>rfl | false=>exact absurd (jW [] ZcS ZcS Zdq (fun j hj=>by cases hj)) (hno 12)
  have hd2:d2=true:=by cases hx:d2 with | true=>rfl | false=>exact absurd (jW [12,14,11] ZcS ZcS Zdq (fun j hj=>by simp only [Kt,Ku,or_false] at hj; rcases hj with rfl | rfl | rfl <;> first | rfl | simp [hb2,hd1])) (hno 15)
  have he:e=true:=by cases hx:e with | true=>rfl | false=>exact absurd (jW [1,3,7,11,15] ZcS ZcS Zdq (fun j hj=>by simp only [Kt,Ku,or_false] at hj; rcases hj with rfl | rfl | rfl | rfl | rfl <;> first | rfl | simp [hd0,hd1,hd2])) (hno 16)
  have hb3:b3=true:=by cases hx:b3 with | true=>rfl | false=>exact absurd (jW [] ZcS ZcS Zdq (fun j hj=>by cases hj)) (hno 17)
  have hd3:d3=true:=by cases hx:d3 with | true=>rfl | false=>exact absurd (jW [17,16,15,0,1,2,3,4,5,6,7,8,9,10,11,12,13,14,15,16,17] ZcS ZcS Zdq (fun j hj=>by simp only [Kt,Ku,or_false] at hj; rcases hj with rfl | rfl | rfl | rfl | rfl | rfl | rfl | rfl | rfl | rfl | rfl | rfl | rfl | rfl | rfl | rfl | rfl | rfl | rfl | rfl | rfl <;> first | rfl | simp [hb0,hd0,hb1,hd1,hb2,hd2,he,hb3])) (hno 18)
  subst hb0 hd0 hb1 hd1 hb2 hd2 he hb3 hd3;have HI:Hid (fI p w w1 true true true true true true true true true g0 g1 g2 o a0 a1 a2 c0 c1 c2):=hC;clear hC hno h0;simp only [CY,cond_true];have HLS:Hid (cL p w w1 o ⟨p.id,p.next,[],n_,0,p.aj,a0,c0,p.L9,a1,c1,p.ag,a2,c2,[],n_,0,[],n_,0⟩):=cL.start HI.I;clear HI HC HS hHeld;obtain ⟨qE,hi',GQ⟩:=Kw.1 nb;simp only [Kx] at GQ;have HI:Hid (Tryz.prog.info? 41=o_ qE/\qE.zero=o_ _/\qE.size=12/\qE.bytes=128):=⟨hi',GQ⟩
  clear hi' GQ;have hpProc:p.L8.length<=1048576:=HF.I.1.short.L8;go_wp2_with fail
  go_loopw [4] (fun i wr=> ∃ k:Nat,k<=p.L8.length/\i=i_ j_ k/\Hid (∃ q,cL p w wr o q/\q.pure= { p.pure with L8:=p.pure.L8.take k,ae:= [],ai:= [] })) (fun i _=>p.L8.length - (Go.RowKit.intOf i).toNat)
  case atStart=>exact ⟨0,Ky _,rfl,⟨_,HLS.I,rfl⟩⟩
  case round=>
   obtain ⟨k,hk,rfl,HA⟩:=hrel;obtain ⟨q,hL,hq⟩:=HA.I;have HL:Hid (cL p w wr o q/\(q.pure= { p.pure with L8:=p.pure.L8.take k,ae:= [],ai:= [] })/\q.L8.length=k):=⟨hL,hq,IV hq hk⟩
   clear HA hL hq;have mp:wr.cell? ⟨w.heap.size,2,n_⟩=o_ (s_ p.aN p.L8.length p.aW):=by obtain ⟨m0,m1,m2,m3,m4,m5,m6,m7⟩:=HL.I.1.part.cells; exact m2
   by_cases hlt:k < p.L8.length
   .have i0:(0:Int)<=(k:Int):=zo
    have i1:(k:Int) < (p.L8.length:Int):=zo
    obtain ⟨x,hx⟩: ∃ x,p.L8[k]? =o_ x:=⟨_,Kz hlt⟩
    have hAt:=HF.I.2.below HL.I.1.cd;obtain ⟨gs,ha,hat⟩:=cn hAt.1 hx;rw [ha] at mp;obtain ⟨d0,d1,d2,d3,d4,d5,d6,d7,d8,d9,tH,tS⟩:=hat;have HX:Hid (p.L8[k]? =o_ x/\Row wr x.aY (fk.flat x.prog)/\x.prog.length<=1048576):=⟨hx,hAt.1.2 x (KA hx) (x.aY,fk.flat x.prog) (KB.2 rfl),(HFS.I x (KA hx)).prog⟩
    clear hx ha hAt;have hb2:B_ wr.heap.size wr ((wr.alloc (c_ x.row 41)).alloc (c_ #[] 45)):=((Kp _ _).alloc (Ki _) _).alloc zw _;obtain ⟨a2,c2,w7,hap,how,Fw,nW⟩:=Gg ((wr.alloc (c_ x.row 41)).alloc (c_ #[] 45)) wr.heap.size (wr.heap.size+1) (Kq _ _ _) zo x.aY x.prog x.bH (HX.I.2.1.below hb2) HX.I.2.2 ZcT;have DO:=(Fw.block wr.heap.size ZcT (fun e=>by have:=KC e; omega)).trans ((PU zw).trans (Kj wr _));have gh:B_ wr.heap.size wr w7:=hb2.grown Fw ZcT (fun k hk=>by cases hk; omega);have DR:Hid (vt wr w7 x a2 c2):=⟨DO,gh,how,fun g hg=>by have h5:=nW g hg; simp at h5; exact h5⟩
    have z0:w7.frozen? ⟨wr.heap.size,2,n_⟩=false:=Ko _ _ _ _ _ DO;have z1:w7.cell? ⟨wr.heap.size,2,n_⟩=o_ (s_ x.aY x.prog.length x.bH):=by simp [World.cell?,DO]
    clear hb2 how Fw nW DO gh;obtain ⟨co,e0,e1,e2,e3,e4,e5,e6,e7,e8,e9,Pn,e11⟩:=HL.I.1.ago DR.I rfl;have hkl:q.L8.length<=1048576:=by have:=HL.I.2.2; have:=HF.I.1.short.L8; omega
    have hsz:w.heap.size+2<=w7.heap.size:=by have h5:=DR.I.2.1.size; have h6:=HL.I.1.low; have h7:o < wr.heap.size:=(J2.1 HL.I.1.I).1; omega
    have Jr:Hid (_):=HL.I.1.IH DR.I rfl rfl;go_wp2_with (at_builtin; first | (refine br _ rfl _ _ 39 rfl _ _ _ _ rfl rfl hap ?_; clear hap) | (refine KD _ rfl _ _ 24 rfl (w.heap.size+2) 41 qE _ 12 128 underlying24 HI.I.1 HI.I.2.1 HI.I.2.2.1 HI.I.2.2.2 rfl (by decide) (s_ q.aN q.L8.length q.aW) q.L8.length (bg.flat q.L8) rfl Jr.I.1 ⟨w7.heap.size,0,n_⟩ 1 1 (bg.vals ({ x with aY:=a2,bH:=c2 } :ao)) (by rfl) rfl (KE (cs:= #[i_ j_ x.id,i_ j_ x.RX,s_ a2 x.prog.length c2,i_ j_ x.Md,i_ j_ x.pc,i_ j_ x.left,i_ j_ x.Mg,i_ j_ x.on,t_ x.held,t_ x.got,i_ j_ x.code,i_ j_ x.RU]) (t:=41) (fr:=(0,0)) Jr.I.2) (by simp [bg,qN,Value.oneCell']) ZcW zo ZcT ?_; intro v5 pH oM oq zR sM; obtain ⟨a5,c5,rfl,-⟩:=cr oM; have HN:Hid (cL p w (pH.setCell ⟨o,2,n_⟩ (s_ a5 (q.L8.length+1) c5)) o ({ q with L8:=q.L8 ++ [({ x with aY:=a2,bH:=c2 } :ao)],aN:=a5,aW:=c5 } :af)/\pH.cell? ⟨o,2,n_⟩=o_ (s_ q.aN q.L8.length q.aW)/\pH.frozen? ⟨o,2,n_⟩=false):=HL.I.1.G5 DR.I rfl rfl oM oq sM; have VY:=HN.I.2.1; have VP:=HN.I.2.2; clear oM oq zR sM));go_roundw
    case rel=>exact ⟨k+1,zo,by go_num,⟨_,HN.I.1,cL.upProc HL.I.2.1 HX.I.1⟩⟩
    case measure=>simp [Go.RowKit.intOf]; omega
   .have i1: ¬ (k:Int) < (p.L8.length:Int):=zo
    have HE:Hid (∃ q,cL p w wr o q/\q.pure= { p.pure with ae:= [],ai:= [] }):=by
     have h5:=HL.I.2.1;rw [KF (by show (p.L8.map _).length<=k; rw [KG]; omega)] at h5;exact ⟨q,HL.I.1,h5⟩
    clear HL
    rename w_=>W2
    obtain ⟨qE,hi',GQ⟩:=Kw.1 kh;simp only [Kx] at GQ;have HI:Hid (Tryz.prog.info? 96=o_ qE/\qE.zero=o_ _/\qE.size=3/\qE.bytes=40):=⟨hi',GQ⟩
    clear hi' GQ;have hpBuffer:p.ae.length<=1048576:=HF.I.1.short.ae;go_wp2_with fail;clear mp
    go_loopw [6] (fun i wr=> ∃ k:Nat,k<=p.ae.length/\i=i_ j_ k/\Hid (∃ q,cL p w wr o q/\q.pure= { p.pure with ae:=p.pure.ae.take k,ai:= [] })) (fun i _=>p.ae.length - (Go.RowKit.intOf i).toNat)
    case atStart=>exact ⟨0,Ky _,rfl,by obtain ⟨q,h1,h2⟩:=HE.I; exact ⟨q,h1,h2.trans zw⟩⟩
    case round=>
     obtain ⟨k,hk,rfl,HA⟩:=hrel;obtain ⟨q,hL,hq⟩:=HA.I;have HL:Hid (cL p w wr o q/\(q.pure= { p.pure with ae:=p.pure.ae.take k,ai:= [] })/\q.ae.length=k):=⟨hL,hq,Fs hq hk⟩
     clear HA hL hq;have mp:wr.cell? ⟨w.heap.size,6,n_⟩=o_ (s_ p.am p.ae.length p.aG):=by obtain ⟨m0,m1,m2,m3,m4,m5,m6,m7⟩:=HL.I.1.part.cells; exact m6
     by_cases hlt:k < p.ae.length
     .have i0:(0:Int)<=(k:Int):=zo
      have i1:(k:Int) < (p.ae.length:Int):=zo
      obtain ⟨x,hx⟩: ∃ x,p.ae[k]? =o_ x:=⟨_,Kz hlt⟩
      have hAt:=HF.I.2.below HL.I.1.cd;obtain ⟨gs,ha,hat⟩:=iA hAt.2.2.2.2.1 hx;rw [ha] at mp;obtain ⟨d0,d1,d2⟩:=hat;have HX:Hid (p.ae[k]? =o_ x/\Row wr x.ak (bT.flat x.Ma)/\x.Ma.length<=1048576):=⟨hx,hAt.2.2.2.2.1.2 x (KA hx) (x.ak,bT.flat x.Ma) (KB.2 rfl),(HF.I.1.ae x (KA hx)).1⟩
      clear hx ha hAt;have hb2:B_ wr.heap.size wr ((wr.alloc (c_ #[i_ j_ x.id,i_ j_ x.max,s_ x.ak x.Ma.length x.aq] 96)).alloc (c_ #[] 9)):=((Kp _ _).alloc (Ki _) _).alloc zw _;obtain ⟨a2,c2,w7,hap,how,Fw,nW⟩:=tO ((wr.alloc (c_ #[i_ j_ x.id,i_ j_ x.max,s_ x.ak x.Ma.length x.aq] 96)).alloc (c_ #[] 9)) wr.heap.size (wr.heap.size+1) (Kq _ _ _) zo x.ak x.Ma x.aq (HX.I.2.1.below hb2) HX.I.2.2 ZcT;have DO:=(Fw.block wr.heap.size ZcT (fun e=>by have:=KC e; omega)).trans ((PU zw).trans (Kj wr _));have gh:B_ wr.heap.size wr w7:=hb2.grown Fw ZcT (fun k hk=>by cases hk; omega);have DR:Hid (o9 wr w7 x a2 c2):=⟨DO,gh,how,fun g hg=>by have h5:=nW g hg; simp at h5; exact h5⟩
      have z0:w7.frozen? ⟨wr.heap.size,2,n_⟩=false:=Ko _ _ _ _ _ DO;have z1:w7.cell? ⟨wr.heap.size,2,n_⟩=o_ (s_ x.ak x.Ma.length x.aq):=by simp [World.cell?,DO]
      clear hb2 how Fw nW DO gh;obtain ⟨co,e0,e1,e2⟩:=HL.I.1.F9 DR.I rfl;have hkl:q.ae.length<=1048576:=by have:=HL.I.2.2; have:=HF.I.1.short.ae; omega
      have hsz:w.heap.size+2<=w7.heap.size:=by have h5:=DR.I.2.1.size; have h6:=HL.I.1.low; have h7:o < wr.heap.size:=(J2.1 HL.I.1.I).1; omega
      have Jr:Hid (_):=HL.I.1.Fl DR.I rfl rfl;go_wp2_with (at_builtin; first | (refine br _ rfl _ _ 94 rfl _ _ _ _ rfl rfl hap ?_; clear hap) | (refine KD _ rfl _ _ 28 rfl (w.heap.size+2) 96 qE _ 3 40 underlying28 HI.I.1 HI.I.2.1 HI.I.2.2.1 HI.I.2.2.2 rfl (by decide) (s_ q.am q.ae.length q.aG) q.ae.length (bm.flat q.ae) rfl Jr.I.1 ⟨w7.heap.size,0,n_⟩ 1 1 (bm.vals ({ x with ak:=a2,aq:=c2 } :au)) (by rfl) rfl (KE (cs:= #[i_ j_ x.id,i_ j_ x.max,s_ a2 x.Ma.length c2]) (t:=96) (fr:=(0,0)) Jr.I.2) (by simp [bm,nD,Value.oneCell']) ZcW zo ZcT ?_; intro v5 pH oM oq zR sM; obtain ⟨a5,c5,rfl,-⟩:=cr oM; have HN:Hid (cL p w (pH.setCell ⟨o,6,n_⟩ (s_ a5 (q.ae.length+1) c5)) o ({ q with ae:=q.ae ++ [({ x with ak:=a2,aq:=c2 } :au)],am:=a5,aG:=c5 } :af)/\pH.cell? ⟨o,6,n_⟩=o_ (s_ q.am q.ae.length q.aG)/\pH.frozen? ⟨o,6,n_⟩=false):=HL.I.1.Do DR.I rfl rfl oM oq sM; have VY:=HN.I.2.1; have VP:=HN.I.2.2; clear oM oq zR sM));go_roundw
      case rel=>exact ⟨k+1,zo,by go_num,⟨_,HN.I.1,cL.FY HL.I.2.1 HX.I.1⟩⟩
      case measure=>simp [Go.RowKit.intOf]; omega
     .have i1: ¬ (k:Int) < (p.ae.length:Int):=zo
      have HE:Hid (∃ q,cL p w wr o q/\q.pure= { p.pure with ai:= [] }):=by
       have h5:=HL.I.2.1;rw [KF (by show (p.ae.map _).length<=k; rw [KG]; omega)] at h5;exact ⟨q,HL.I.1,h5⟩
      clear HL
      rename w_=>W3
      obtain ⟨qE,hi',GQ⟩:=Kw.1 na;simp only [Kx] at GQ;have HI:Hid (Tryz.prog.info? 115=o_ qE/\qE.zero=o_ _/\qE.size=5/\qE.bytes=48):=⟨hi',GQ⟩
      clear hi' GQ;have hpPort:p.ai.length<=1048576:=HF.I.1.short.ai;go_wp2_with fail;clear mp
      go_loopw [8] (fun i wr=> ∃ k:Nat,k<=p.ai.length/\i=i_ j_ k/\Hid (∃ q,cL p w wr o q/\q.pure= { p.pure with ai:=p.pure.ai.take k })) (fun i _=>p.ai.length - (Go.RowKit.intOf i).toNat)
      case atStart=>exact ⟨0,Ky _,rfl,by obtain ⟨q,h1,h2⟩:=HE.I; exact ⟨q,h1,h2.trans zw⟩⟩
      case round=>
       obtain ⟨k,hk,rfl,HA⟩:=hrel;obtain ⟨q,hL,hq⟩:=HA.I;have HL:Hid (cL p w wr o q/\(q.pure= { p.pure with ai:=p.pure.ai.take k })/\q.ai.length=k):=⟨hL,hq,I0 hq hk⟩
       clear HA hL hq;have mp:wr.cell? ⟨w.heap.size,7,n_⟩=o_ (s_ p.aK p.ai.length p.aV):=by obtain ⟨m0,m1,m2,m3,m4,m5,m6,m7⟩:=HL.I.1.part.cells; exact m7
       by_cases hlt:k < p.ai.length
       .have i0:(0:Int)<=(k:Int):=zo
        have i1:(k:Int) < (p.ai.length:Int):=zo
        obtain ⟨x,hx⟩: ∃ x,p.ai[k]? =o_ x:=⟨_,Kz hlt⟩
        have hAt:=HF.I.2.below HL.I.1.cd;obtain ⟨gs,ha,hat⟩:=lm hAt.2.2.2.2.2 hx;rw [ha] at mp;obtain ⟨d0,d1,d2,d3,d4⟩:=hat;have HX:Hid (p.ai[k]? =o_ x/\Row wr x.ak (bT.flat x.Ma)/\x.Ma.length<=1048576):=⟨hx,hAt.2.2.2.2.2.2 x (KA hx) (x.ak,bT.flat x.Ma) (KB.2 rfl),(HF.I.1.ai x (KA hx)).1⟩
        clear hx ha hAt;have hb2:B_ wr.heap.size wr ((wr.alloc (c_ #[i_ j_ x.id,b_ x.I,b_ x.Mf,i_ j_ x.max,s_ x.ak x.Ma.length x.aq] 115)).alloc (c_ #[] 9)):=((Kp _ _).alloc (Ki _) _).alloc zw _;obtain ⟨a2,c2,w7,hap,how,Fw,nW⟩:=tO ((wr.alloc (c_ #[i_ j_ x.id,b_ x.I,b_ x.Mf,i_ j_ x.max,s_ x.ak x.Ma.length x.aq] 115)).alloc (c_ #[] 9)) wr.heap.size (wr.heap.size+1) (Kq _ _ _) zo x.ak x.Ma x.aq (HX.I.2.1.below hb2) HX.I.2.2 ZcT;have DO:=(Fw.block wr.heap.size ZcT (fun e=>by have:=KC e; omega)).trans ((PU zw).trans (Kj wr _));have gh:B_ wr.heap.size wr w7:=hb2.grown Fw ZcT (fun k hk=>by cases hk; omega);have DR:Hid (uT wr w7 x a2 c2):=⟨DO,gh,how,fun g hg=>by have h5:=nW g hg; simp at h5; exact h5⟩
        have z0:w7.frozen? ⟨wr.heap.size,4,n_⟩=false:=Ko _ _ _ _ _ DO;have z1:w7.cell? ⟨wr.heap.size,4,n_⟩=o_ (s_ x.ak x.Ma.length x.aq):=by simp [World.cell?,DO]
        clear hb2 how Fw nW DO gh;obtain ⟨co,e0,e1,e2,e3,e4⟩:=HL.I.1.agV DR.I rfl;have hkl:q.ai.length<=1048576:=by have:=HL.I.2.2; have:=HF.I.1.short.ai; omega
        have hsz:w.heap.size+2<=w7.heap.size:=by have h5:=DR.I.2.1.size; have h6:=HL.I.1.low; have h7:o < wr.heap.size:=(J2.1 HL.I.1.I).1; omega
        have Jr:Hid (_):=HL.I.1.I4 DR.I rfl rfl;go_wp2_with (at_builtin; first | (refine br _ rfl _ _ 94 rfl _ _ _ _ rfl rfl hap ?_; clear hap) | (refine KD _ rfl _ _ 29 rfl (w.heap.size+2) 115 qE _ 5 48 underlying29 HI.I.1 HI.I.2.1 HI.I.2.2.1 HI.I.2.2.2 rfl (by decide) (s_ q.aK q.ai.length q.aV) q.ai.length (bX.flat q.ai) rfl Jr.I.1 ⟨w7.heap.size,0,n_⟩ 1 1 (bX.vals ({ x with ak:=a2,aq:=c2 } :aM)) (by rfl) rfl (KE (cs:= #[i_ j_ x.id,b_ x.I,b_ x.Mf,i_ j_ x.max,s_ a2 x.Ma.length c2]) (t:=115) (fr:=(0,0)) Jr.I.2) (by simp [bX,qT,Value.oneCell']) ZcW zo ZcT ?_; intro v5 pH oM oq zR sM; obtain ⟨a5,c5,rfl,-⟩:=cr oM; have HN:Hid (cL p w (pH.setCell ⟨o,7,n_⟩ (s_ a5 (q.ai.length+1) c5)) o ({ q with ai:=q.ai ++ [({ x with ak:=a2,aq:=c2 } :aM)],aK:=a5,aV:=c5 } :af)/\pH.cell? ⟨o,7,n_⟩=o_ (s_ q.aK q.ai.length q.aV)/\pH.frozen? ⟨o,7,n_⟩=false):=HL.I.1.Gi DR.I rfl rfl oM oq sM; have VY:=HN.I.2.1; have VP:=HN.I.2.2; clear oM oq zR sM));go_roundw
        case rel=>exact ⟨k+1,zo,by go_num,⟨_,HN.I.1,cL.upPort HL.I.2.1 HX.I.1⟩⟩
        case measure=>simp [Go.RowKit.intOf]; omega
       .have i1: ¬ (k:Int) < (p.ai.length:Int):=zo
        have HE:Hid (∃ q,cL p w wr o q/\q.pure=p.pure):=by
         have h5:=HL.I.2.1;rw [KF (by show (p.ai.map _).length<=k; rw [KG]; omega)] at h5;exact ⟨q,HL.I.1,h5⟩
        clear HL;obtain ⟨q,hL,hq⟩:=HE.I;have HZ:Hid (cL p w wr o q/\q.pure=p.pure):=⟨hL,hq⟩
        obtain ⟨m0,m1,m2,m3,m4,m5,m6,m7⟩:=hL.I.cells;clear hL hq HE
        repeat (first | (go_big_may; refine ec 2 96 q.row HZ.I.1.ret ?_) | go_values | go_skip | go_guarded | go_step | go_upon | go_back)
        repeat (first | go_values | go_skip | go_guarded | go_step | go_upon)
        refine gZ results37 HZ.I.1.ret ?_;have hne: ∀ g∈q.Mc,g≠w.heap.size+1:=fun g hg e=>by have:=(HZ.I.1.own.lt g hg).1; omega
        exact ⟨q,rfl,(HZ.I.1.own.lower zo).same fun g hg=>KH _ _ _ _ (hne g hg),HZ.I.2,q_ HZ.I.1.cd zo _⟩
end
section
open Go.RowKit
def ce (id:Int) (f:aD->aD) (l:List aD):List aD:=l.map fun x=>if x.id=id then f x else x
def hU (p:aE) (id:Int) (ok:aD->Bool) (f:aD->aD) (nx:Int):Option aE:=
 if bK p then match p.L8.find? (fun x=>decide (x.id=id)) with
  | some y=>if ok y then o_ { p with next:=nx,L8:=ce id f p.L8 } else n_
  | none=>n_
 else n_
def cN:aE:=⟨0,0,[],[],[],[],[],[]⟩
def gI (w:w_) (r:Option aE) (e:Ending) (w':w_):Prop:= ∃ q:af,e=r_ (u_ #[a_ q.cells,b_ r.isSome])/\ap w' w.heap.size q/\q.pure=r.getD cN/\B_ w.heap.size w w'
def Ai (w:w_) (base:Nat):ap w base ⟨0,0,[],n_,0,[],n_,0,[],n_,0,[],n_,0,[],n_,0,[],n_,0⟩:=
 ⟨Ke _ _ _ _,Ke _ _ _ _,Ke _ _ _ _,Ke _ _ _ _,Ke _ _ _ _,Ke _ _ _ _,(fun x hx=>by cases hx),(fun x hx=>by cases hx),(fun x hx=>by cases hx),by simp [af.Mc,blk]⟩
def ca {w w':w_} {r:Option aE} (h:r=n_) (hb:B_ w.heap.size w w'):gI w r (r_ (u_ #[a_ ar,b_ false])) w':=by
 subst h;exact ⟨_,rfl,Ai _ _,rfl,hb⟩
def vO {p:aE} {id nx:Int} {ok:aD->Bool} {f:aD->aD} (h:bK p=false):hU p id ok f nx=n_:=by simp [hU,h]
def tg {p:aE} {id nx:Int} {ok:aD->Bool} {f:aD->aD} (h:p.L8.find? (fun x=>decide (x.id=id))=n_):hU p id ok f nx=n_:=by
 unfold hU
 split
 .rw [h]
 .rfl
def sx {p:aE} {id nx:Int} {ok:aD->Bool} {f:aD->aD} {y:aD} (h:p.L8.find? (fun x=>decide (x.id=id))=o_ y) (ho:ok y=false):hU p id ok f nx=n_:=by
 unfold hU
 split
 .rw [h]; simp [ho]
 .rfl
def tT {p:aE} {id nx:Int} {ok:aD->Bool} {f:aD->aD} {y:aD} (hp:bK p=true) (h:p.L8.find? (fun x=>decide (x.id=id))=o_ y) (ho:ok y=true):hU p id ok f nx=o_ { p with next:=nx,L8:=ce id f p.L8 } :=by
 unfold hU;rw [if_pos hp,h];simp [ho]
def db {α:Type} {num:α->Int} {ok:α->Bool} : ∀ {l:List α} {last:Int},aw num ok last l=true->(∀ x∈l,last < num x)/\l.Pairwise (fun x y=>num x < num y)
 | [],_,_=>⟨(fun x hx=>by cases hx),List.Pairwise.nil⟩
 | x :: r,last,h=>by
  simp only [aw,J7,decide_eq_true_eq] at h;obtain ⟨h1,h2⟩:=db h.2;refine ⟨fun y hy=> ?_,List.Pairwise.cons (fun y hy=>h1 y hy) h2⟩;rcases Kt.1 hy with rfl | hy
  .exact h.1.1.2
  .have:=h1 y hy; have:=h.1.1.2; omega
def rp {l:List aD} {f:aD->aD} {id:Int} {n:Nat} {y:aD} (hr:l.Pairwise (fun x y=>x.id < y.id)) (hn:l[n]? =o_ y) (hy:y.id=id):ce id f l=l.set n (f y):=by
 induction l generalizing n with
 | nil=>simp at hn
 | cons x r ih=>
  obtain ⟨h1,h2⟩:=LM.1 hr;cases n with
  | zero=>
   simp only [List.getElem?_cons_zero,LF] at hn;subst hn;have e:ce id f r=r:=by
    unfold ce
    conv=>rhs; rw [<- List.map_id r]
    refine List.map_congr_left fun z hz=> ?_
    rw [if_neg (by have:=h1 z hz; omega)];rfl
   simp only [Ln]
   show (if x.id=id then f x else x) :: ce id f r=_
   rw [if_pos hy,e]
  | succ n=>
   simp only [List.getElem?_cons_succ] at hn;have hlt:=h1 y (KA hn);simp only [Lo]
   show (if x.id=id then f x else x) :: ce id f r=_
   rw [if_neg zo,ih h2 hn]
def sc {p:aE} (h:bK p=true):p.L8.Pairwise (fun x y=>x.id < y.id):=(db ((ch _).1 h).L8).2
def GM (x:aD):Prop:=(x.prog.length<=1048576/\(∀ o∈x.prog,o.2.2.2.size<=1048576)/\x.held.size<=1048576/\x.got.size<=1048576)/\(Lit.int j_ x.id).wf=true/\(Lit.int j_ x.on).wf=true/\(Lit.int j_ x.RU).wf=true
def IZ {p:aE} (h:bK p=true):(Lit.int j_ p.next).wf=true:=by
 have h2:=bz.1 ((ch _).1 h).next;have e1:IntKind.min j_<=0:=by decide
 have e2:2000000000<=IntKind.max j_:=by decide
 exact ZbZ
def hY:cN.Small:=⟨Ky _,Ky _,Ky _,Ky _,Ky _,Ky _,(fun x hx=>by cases hx),(fun x hx=>by cases hx),(fun x hx=>by cases hx),(fun x hx=>by cases hx),(fun x hx=>by cases hx),(fun x hx=>by cases hx)⟩
def qQ {p:aE} {id nx:Int} {ok:aD->Bool} {f:aD->aD} :(hU p id ok f nx).getD cN=cN\/bK p=true/\(hU p id ok f nx).getD cN= { p with next:=nx,L8:=ce id f p.L8 } :=by
 unfold hU
 split
 .rename_i hp
  split
  .split
   .exact .inr ⟨hp,rfl⟩
   .exact .inl rfl
  .exact .inl rfl
 .exact .inl rfl
def zJ {p:aE} {id nx:Int} {ok:aD->Bool} {f:aD->aD} (h:p.Small) (hf:bK p=true-> ∀ y∈p.L8,GM y->GM (f y)):((hU p id ok f nx).getD cN).Small:=by
 rcases qQ (p:=p) (id:=id) (nx:=nx) (ok:=ok) (f:=f) with e | ⟨hp,e⟩
 .rw [e]; exact hY
 .rw [e]
  refine ⟨by simpa [ce] using h.dl,h.fx,h.cD,h.cC,h.cb,h.dH,fun x hx=> ?_,h.aj,h.L9,h.ag,h.ae,h.ai⟩;obtain ⟨y,hy,rfl⟩:=Lr.1 hx
  split
  .exact hf hp y hy (h.L8 y hy)
  .exact h.L8 y hy
def ap.kB {w:w_} {base n j gs:Nat} {q:af} {x y:ao} {vs:List v_} (h:ap w base q) (hx:q.L8[n]? =o_ x) (ha:q.aN=o_ ⟨gs,0,n_⟩) (hy:y.prog=x.prog/\y.aY=x.aY/\y.bH=x.bH)
  (hj:j+vs.length<=12) (h1: ∀ r,r < vs.length->(bg.vals y)[j+r]? =vs[r]?) (h2: ∀ r,r < 12-> ¬ (j<=r/\r < j+vs.length)->(bg.vals y)[r]? =(bg.vals x)[r]?):
  ap (bn w gs (n * 12+j) vs) base ({ q with L8:=q.L8.set n y } :af)/\aI w (bn w gs (n * 12+j) vs) [gs] /\({ q with L8:=q.L8.set n y } :af).Mc=q.Mc:=by
 have hn:n < q.L8.length:=(Lj.1 hx).1;have hsp:=kL hx;have hset:q.L8.set n y=q.L8.take n ++ y :: q.L8.drop (n+1):=by rw [List.set_eq_take_append_cons_drop,if_pos hn]
 have hl:(q.L8.take n).length=n:=by rw [List.length_take]; omega
 have hkb:aI w (bn w gs (n * 12+j) vs) [gs] :=aI.set _ zw;have ho:=h.L8;rw [ha] at ho;obtain ⟨g,hg,hrow⟩:=bl.fX (K:=bg) ho zo;cases hg;rw [hsp] at hrow;have h5:=bl.part (K:=bg) (x:=x) (y:=y) (j:=j) (vs:=vs) hrow hj h1 h2;rw [hl,show bg.n=12 from rfl,<- hset] at h5;have h6:=h5.owns;have hki:(q.L8.set n y).filterMap aR.bt=q.L8.filterMap aR.bt:=by
  rw [hset]
  conv=>rhs; rw [hsp]
  have e:aR.bt y=aR.bt x:=by show y.aY.map (·.block)=x.aY.map (·.block); rw [hy.2.1]
  simp only [List.filterMap_append,LH,e]
 have Pp:aR.cO w base y:=by
  have h7:=h.eI x (KA hx)
  show w.ownsRow base _ 4 (s_ y.aY y.prog.length y.bH) y.prog.length (fk.flat y.prog)
  rw [hy.1,hy.2.1,hy.2.2];exact h7
 have EI: ∀ z∈q.L8,∀ b,aR.bt z=o_ b->b≠gs:=fun z hz b hb e=>by
  have h8:=h.nodup;rw [af.Mc,ha] at h8;have h9:=(Kf.1 h8).2.2 gs (by simp [blk]) b (Lz _ (Lq.2 ⟨z,hz,hb⟩));exact h9 e.symm
 have hsame: ∀ b,b≠gs->(bn w gs (n * 12+j) vs).heap[b]? =w.heap[b]? :=fun b hb=>de _ hb
 have hm: ∀ z∈q.L8.set n y,aR.cO (bn w gs (n * 12+j) vs) base z:=fun z hz=>by
  rcases List.mem_or_eq_of_mem_set hz with hz | rfl
  .exact (h.eI z hz).same fun b hb=>hsame b (EI z hz b hb)
  .refine Pp.same fun b hb=>hsame b (EI x (KA hx) b ?_)
   rw [<- hb]
   show x.aY.map (·.block)=z.aY.map (·.block)
   rw [hy.2.1]
 have ht:=h.As (w':=bn w gs (n * 12+j) vs) (l:=q.L8.set n y) (by rw [ha]; rw [LI] at h6; exact h6) zw hm hki (hkb.mono (by simp [ha,blk]));exact ⟨ht.1,hkb,ht.2⟩
end
section
open Go.RowKit Go.Maps
attribute [local go_sem ↓] Kc Kd
def nK (id:Int): ∀ (l:List aD) (k:Nat),(place (l.map (·.id)) id k= -1/\l.find? (fun x=>decide (x.id=id))=n_)\/ ∃ n x,place (l.map (·.id)) id k=((k+n:Nat):Int)/\l[n]? =o_ x/\l.find? (fun x=>decide (x.id=id))=o_ x
 | [],k=> .inl ⟨rfl,rfl⟩
 | x :: r,k=>by
  by_cases h:x.id=id
  .refine .inr ⟨0,x,?_,rfl,by simp [h]⟩
   simp [place,h]
  .rcases nK id r (k+1) with ⟨h1,h2⟩ | ⟨n,y,h1,h2,h3⟩
   .exact ZbD
   .refine .inr ⟨n+1,y,?_,h2,by simp only [LL,h,decide_false]; exact h3⟩
    simp only [Lt,place];rw [if_neg h,h1];omega
end
section
open Go.RowKit
def Di {α:Type} {N:gd α} {w w':w_} {base:Nat} {x:α} (h:N.cO w base x) (hb:B_ w.heap.size w w'):N.cO w' base x:=h.same fun g hk=>hb.block g (h.lt hk).2
def o8 (W:w_) (X b:Nat) (q:af):Prop:=av W X q/\ap W b q
def rT (W:w_) (X b:Nat) (x:ao):Prop:=jx W X x/\aR.cO W b x
section
variable {p q:af} {x:ao} {w W W':w_} {X b:Nat} {bs:List Nat}
def o8.below (h:o8 W X b q) (hb:B_ W.heap.size W W'):o8 W' X b q:=⟨h.1.below hb,h.2.below hb⟩
def o8.kept (h:o8 W X b q) (hk:aI W W' bs) (hs:X∉bs) (ho: ∀ g∈q.Mc,g∉bs):o8 W' X b q:=⟨(hk.same _ (J2.1 h.1).1 hs).trans h.1,h.2.same fun g hg=>hk.same g (h.2.lt g hg).2 (ho g hg)⟩
def rT.below (h:rT W X b x) (hb:B_ W.heap.size W W'):rT W' X b x:=⟨h.1.below hb,Di h.2 hb⟩
def rT.kept (h:rT W X b x) (hk:aI W W' bs) (hs:X∉bs) (ho: ∀ g∈blk x.aY,g∉bs):rT W' X b x:=⟨(hk.same _ (J2.1 h.1).1 hs).trans h.1,h.2.same fun g hg=>hk.same g (h.2.lt hg).2 (ho g (fZ.2 hg))⟩
def av.lt {W:w_} {X:Nat} {q:af} (h:av W X q):X < W.heap.size:=(J2.1 h).1
def jx.lt {W:w_} {X:Nat} {x:ao} (h:jx W X x):X < W.heap.size:=(J2.1 h).1
end
end
section
open Go.RowKit Go.Maps
attribute [local go_sem ↓] Kc Kd
def j7 (y:aD):aD:=⟨y.id,y.RX,y.prog,0,0,0,0,0,rM,y.got,y.code,0⟩
def sW (y:ao):ao:=⟨j7 y.toaD,y.aY,y.bH⟩
def mN (x:ao) (w:w_):k_ J3 124 #[a_ x.row] w fun e w'=>e=r_ (a_ #[i_ j_ x.id,i_ j_ x.RX,s_ x.aY x.prog.length x.bH,i_ j_ 0,i_ j_ 0,i_ j_ 0,i_ j_ 0,i_ j_ 0,t_ ⟨#[]⟩,t_ x.got,i_ j_ x.code,i_ j_ 0])/\B_ w.heap.size w w':=by
 have HB:Hid (B_ w.heap.size w ((w.alloc (c_ x.row 41)).alloc (c_ cE 41))/\((w.alloc (c_ x.row 41)).alloc (c_ cE 41)).heap[w.heap.size+1]? =o_ (c_ cE 41)):=⟨((Kp _ _).alloc (Ki _) _).alloc zw _,Kq _ _ _⟩
 go_enter func124,ntmps124
 go_wp2_with (refine wpList_store_row rfl 41 (Operand.tmp 2) (Operand.tmp 13) rfl (w.heap.size+1) _ _ #[i_ j_ x.id,i_ j_ x.RX,s_ x.aY x.prog.length x.bH,i_ j_ 0,i_ j_ 0,i_ j_ 0,i_ j_ 0,i_ j_ 0,t_ ⟨#[]⟩,t_ x.got,i_ j_ x.code,i_ j_ 0] rfl rfl HB.I.2 ZcS rfl ZcS ?_);refine bodyPost_ret (v:=a_ #[i_ j_ x.id,i_ j_ x.RX,s_ x.aY x.prog.length x.bH,i_ j_ 0,i_ j_ 0,i_ j_ 0,i_ j_ 0,i_ j_ 0,t_ ⟨#[]⟩,t_ x.got,i_ j_ x.code,i_ j_ 0]) (results_cell_row results124 _ _ (w.heap.size+1) _ _ (0,0) _ rfl (KU _ _ _ _ _ _ HB.I.2) underlying41 rfl ZcS) rfl ?_;exact ⟨rfl,q_ HB.I.1 zo _⟩
def Ba (O gs n:Nat) (q:af) (x:ao) (w':w_):Prop:=w'.cell? ⟨O,2,n_⟩=o_ (s_ (o_ ⟨gs,0,n_⟩) q.L8.length q.aW)/\w'.cell? ⟨gs,n * 12,n_⟩=o_ (i_ j_ x.id)/\w'.cell? ⟨gs,n * 12+1,n_⟩=o_ (i_ j_ x.RX)/\w'.cell? ⟨gs,n * 12+2,n_⟩=o_ (s_ x.aY x.prog.length x.bH)/\w'.cell? ⟨gs,n * 12+3,n_⟩=o_ (i_ j_ x.Md)/\w'.cell? ⟨gs,n * 12+4,n_⟩=o_ (i_ j_ x.pc)/\w'.cell? ⟨gs,n * 12+5,n_⟩=o_ (i_ j_ x.left)/\w'.cell? ⟨gs,n * 12+6,n_⟩=o_ (i_ j_ x.Mg)/\w'.cell? ⟨gs,n * 12+7,n_⟩=o_ (i_ j_ x.on)/\w'.cell? ⟨gs,n * 12+8,n_⟩=o_ (t_ x.held)/\w'.cell? ⟨gs,n * 12+9,n_⟩=o_ (t_ x.got)/\w'.cell? ⟨gs,n * 12+10,n_⟩=o_ (i_ j_ x.code)/\w'.cell? ⟨gs,n * 12+11,n_⟩=o_ (i_ j_ x.RU)
end
section
open Go.RowKit Go.Maps
def aZ.ju (S:aZ) (g:Nat) (f:ao->ao) (nx:Int):aZ:= { S with q:= { S.q with next:=nx },lp:=sU g f S.lp }
def GW {g:Nat} {f:ao->ao} (hf: ∀ x,aR.bt (f x)=aR.bt x) (l:List (ao × Nat)):kids aR (sU g f l)=kids aR l:=by
 induction l with
 | nil=>rfl
 | cons p r ih=>
  have e:(sU g f (p :: r))=(if p.2=g then (f p.1,p.2) else p) :: sU g f r:=rfl;simp only [kids,LH] at ih ⊢;rw [e];simp only [LH];by_cases h:p.2=g
  .simp only [h,if_true,hf]
   rw [ih]
  .simp only [h,if_false]
   rw [ih]
def cJ.ju {w w':w_} {base o g:Nat} {S:aZ} {f:ao->ao} {nx:Int} (h:cJ w base o S) (hf: ∀ x,(f x).id=x.id/\(f x).prog=x.prog/\(f x).aY=x.aY/\(f x).bH=x.bH)
  (hc: ∀ p∈S.lp,p.2=g->w'.heap[g]? =o_ (c_ (aX (f p.1)) 41)) (hg:g∈S.lp.map (·.2)) (ho:fa w' o { S.q with next:=nx }) (hs: ∀ b,b≠g->b≠o->w'.heap[b]? =w.heap[b]?):cJ w' base o (S.ju g f nx):=by
 have iH: ∀ x,aR.bt (f x)=aR.bt x:=fun x=>by show (f x).aY.map (·.block)=x.aY.map (·.block); rw [(hf x).2.2.1]
 have hn:=h.nodup;have hno:=(Lp.1 hn).1;have yD:=(Kf.1 (Lp.1 hn).2)
 have jQ:=yD.1;unfold aZ.boxes at jQ;have hin: ∀ b,b∈S.boxes\/b∈S.kids->b≠o:=fun b hb e=>hno (by rw [<- e]; exact Kg.2 hb)
 have hp:=Kf.1 jQ;have l9:g∈S.q.bp :: S.lp.map (·.2):=LB _ hg;have hgr: ∀ b,b∈((S.q.bs :: S.ls.map (·.2)) ++ ((S.q.be :: S.le.map (·.2)) ++ ((S.q.bb :: S.lb.map (·.2)) ++ ((S.q.bf :: S.lf.map (·.2)) ++ (S.q.bq :: S.lq.map (·.2))))))->b≠g:=fun b hb e=>hp.2.2 g l9 b hb e.symm
 have EI: ∀ b∈S.kids,b≠g:=fun b hb e=>yD.2.2 g (by unfold aZ.boxes; exact Lz _ l9) b hb e.symm
 have hbp:S.q.bp≠g:=fun e=>by
  have:=(Lp.1 hp.1).1
  rw [e] at this;exact this hg
 have lW: ∀ b,b∈(S.q.bp :: S.lp.map (·.2))->b≠o:=fun b hb=>hin b (.inl (by unfold aZ.boxes; exact Lz _ hb))
 have hbr: ∀ b,b∈((S.q.bs :: S.ls.map (·.2)) ++ ((S.q.be :: S.le.map (·.2)) ++ ((S.q.bb :: S.lb.map (·.2)) ++ ((S.q.bf :: S.lf.map (·.2)) ++ (S.q.bq :: S.lq.map (·.2))))))->w'.heap[b]? =w.heap[b]? :=fun b hb=>hs b (hgr b hb) (hin b (.inl ZdJ))
 have hkk: ∀ b∈S.kids,w'.heap[b]? =w.heap[b]? :=fun b hb=>hs b (EI b hb) (hin b (.inr hb))
 have hmem: ∀ (b:Nat),(b∈kids aR S.lp\/b∈kids aC S.lf\/b∈kids aU S.lq)->b∈S.kids:=fun b hb=>by simp only [aZ.kids,Kg]; exact hb
 refine ⟨ho,h.L8.sU (fun p _ _=>(hf p.1).1) hc (hs _ hbp (lW _ zw)) (fun b hb hne=>hs b hne (lW b (LB _ hb))),h.aj.same fun b hb=>hbr b (Lz _ hb),h.L9.same fun b hb=>hbr b (Ly _ (Lz _ hb)),h.ag.same fun b hb=>hbr b (Ly _ (Ly _ (Lz _ hb))),h.ae.same fun b hb=>hbr b (Ly _ (Ly _ (Ly _ (Lz _ hb)))),h.ai.same fun b hb=>hbr b (Ly _ (Ly _ (Ly _ (Ly _ hb)))),fun p hp'=> ?_,fun p hp'=>(h.eE p hp').same fun b hb=>hkk b (hmem b (.inr (.inl (Lq.2 ⟨p,hp',hb⟩)))),fun p hp'=>(h.eR p hp').same fun b hb=>hkk b (hmem b (.inr (.inr (Lq.2 ⟨p,hp',hb⟩)))),?_,h.low⟩
 .exact TZ
 .exact ZaV
end
section
open Go.RowKit Go.Maps
attribute [local go_sem ↓] Kc Kd
def kD (p:aE) (id:Int):Option aE:=hU p id (fun y=>decide (y.Md=0) && !decide (p.next=1000000000)) (fun y=> { y with Md:=1,RU:=p.next }) (p.next+1)
def Bk (q:af) (n base:Nat) (x:ao) (w:w_) (h:ap w base q) (hb:base<=w.heap.size) (hx:q.L8[n]? =o_ x) (hn:0<=q.next/\q.next<=1000000000):
  k_ J3 118 #[a_ q.cells,i_ j_ n] w fun e w'=> ∃ q2:af,e=r_ (a_ q2.cells)/\q2= { q with next:=q.next+1,L8:=q.L8.set n { x with RU:=q.next } } /\ap w' base q2/\B_ base w w':=by
 obtain ⟨gs,ha,hat⟩:=cn h.at.1 hx;have hb1:B_ w.heap.size w ((w.alloc (c_ (q.L6 gs) 31)).alloc (c_ ar 31)):=((Kp _ _).alloc (Ki _) _).alloc zw _;have hnl:n < q.L8.length:=(Lj.1 hx).1;have HB:Hid (av ((w.alloc (c_ (q.L6 gs) 31)).alloc (c_ ar 31)) w.heap.size q/\ap ((w.alloc (c_ (q.L6 gs) 31)).alloc (c_ ar 31)) base q/\B_ w.heap.size w ((w.alloc (c_ (q.L6 gs) 31)).alloc (c_ ar 31))/\((w.alloc (c_ (q.L6 gs) 31)).alloc (c_ ar 31)).heap[w.heap.size+1]? =o_ (c_ ar 31)/\q.L8[n]? =o_ x/\q.aN=o_ ⟨gs,0,n_⟩/\base<=w.heap.size/\gs < w.heap.size/\base<=gs):=by
  have h5:=cf h.L8 (g:=gs) Zdt;exact ⟨by unfold av; rw [ha]; exact (PU zw).trans (Kj _ _),h.below hb1,hb1,Kq _ _ _,hx,ha,hb,h5.2,h5.1⟩
 obtain ⟨m0,m1,m2,m3,m4,m5,m6,m7⟩:=HB.I.1.cells;rw [ha] at m2;obtain ⟨⟨u,pe⟩,f11⟩:(∃ u,((w.alloc (c_ (q.L6 gs) 31)).alloc (c_ ar 31)).cell? ⟨gs,n * 12+11,n_⟩=o_ u)/\((w.alloc (c_ (q.L6 gs) 31)).alloc (c_ ar 31)).frozen? ⟨gs,n * 12+11,n_⟩=false:=by
  obtain ⟨g,hg,hrow⟩:=bl.fX (K:=bg) HB.I.2.1.L8 zo;exact Zby
 have j0:(0:Int)<=(n:Int):=zo
 have j1:(n:Int) < (q.L8.length:Int):=zo
 obtain ⟨hn0,hn1⟩:=hn;have h5:=HB.I.2.1.kB (n:=n) (j:=11) (x:=x) (y:= { x with RU:=q.next }) (vs:= [i_ j_ q.next]) hx ha ⟨rfl,rfl,rfl⟩ (by show 11+1<=12; omega) (fun r hr=>by match r,hr with | 0,_=>rfl) (fun r hr hn=>by match r,hr,hn with | 0,_,_=>rfl | 1,_,_=>rfl | 2,_,_=>rfl | 3,_,_=>rfl | 4,_,_=>rfl | 5,_,_=>rfl | 6,_,_=>rfl | 7,_,_=>rfl | 8,_,_=>rfl | 9,_,_=>rfl | 10,_,_=>rfl | 11,_,hn=>exact absurd ⟨zo,by show 11 < 11+1; omega⟩ hn);simp only [bn] at h5;have HS:Hid (ap (((w.alloc (c_ (q.L6 gs) 31)).alloc (c_ ar 31)).setCell ⟨gs,n * 12+11,n_⟩ (i_ j_ q.next)) base ({ q with L8:=q.L8.set n { x with RU:=q.next } } :af)/\B_ base w (((w.alloc (c_ (q.L6 gs) 31)).alloc (c_ ar 31)).setCell ⟨gs,n * 12+11,n_⟩ (i_ j_ q.next))/\av (((w.alloc (c_ (q.L6 gs) 31)).alloc (c_ ar 31)).setCell ⟨gs,n * 12+11,n_⟩ (i_ j_ q.next)) w.heap.size q/\(((w.alloc (c_ (q.L6 gs) 31)).alloc (c_ ar 31)).setCell ⟨gs,n * 12+11,n_⟩ (i_ j_ q.next)).heap[w.heap.size+1]? =o_ (c_ ar 31)):=by
  have hg:=HB.I.2.2.2.2.2.2;refine ⟨h5.1,(hb1.mono hb).trans (h5.2.1.below (by have:=hb1.size; omega) ZcT),(aH zo).trans HB.I.1,(aH zo).trans HB.I.2.2.2.1⟩
 have hq8:(af.cells q)=(q.L6 gs):=by unfold af.cells; rw [ha]
 rw [hq8];have hbks:=h5.2.2;have hlt0: ∀ g∈q.Mc,g < w.heap.size:=fun g hg=>(h.lt g hg).2
 have HBK:Hid (∀ g∈({ q with L8:=q.L8.set n { x with RU:=q.next } } :af).Mc,g < w.heap.size):=fun g hg=>hlt0 g (by rw [<- hbks]; exact hg)
 have k1:(((w.alloc (c_ (q.L6 gs) 31)).alloc (c_ ar 31)).setCell ⟨gs,n * 12+11,n_⟩ (i_ j_ q.next)).cell? ⟨w.heap.size,1,n_⟩=o_ (i_ j_ q.next):=by have h6:=HS.I.2.2.1; unfold av at h6; simp only [World.cell?,h6]; rfl
 have k1f:(((w.alloc (c_ (q.L6 gs) 31)).alloc (c_ ar 31)).setCell ⟨gs,n * 12+11,n_⟩ (i_ j_ q.next)).frozen? ⟨w.heap.size,1,n_⟩=false:=Ko _ _ _ _ _ HS.I.2.2.1;clear h hb hx hb1 h5 hat ha hq8
 go_enter func118,ntmps118
 have HT:Hid (((((w.alloc (c_ (q.L6 gs) 31)).alloc (c_ ar 31)).setCell ⟨gs,n * 12+11,n_⟩ (i_ j_ q.next)).setCell ⟨w.heap.size,1,n_⟩ (i_ j_ (q.next+1))).heap[w.heap.size+1]? =o_ (c_ ar 31)/\ap ((((w.alloc (c_ (q.L6 gs) 31)).alloc (c_ ar 31)).setCell ⟨gs,n * 12+11,n_⟩ (i_ j_ q.next)).setCell ⟨w.heap.size,1,n_⟩ (i_ j_ (q.next+1))) base ({ q with L8:=q.L8.set n { x with RU:=q.next } } :af)/\B_ base w ((((w.alloc (c_ (q.L6 gs) 31)).alloc (c_ ar 31)).setCell ⟨gs,n * 12+11,n_⟩ (i_ j_ q.next)).setCell ⟨w.heap.size,1,n_⟩ (i_ j_ (q.next+1)))):=by
  have hg:=HB.I.2.2.2.2.2.2;have hbl: ∀ g∈({ q with L8:=q.L8.set n { x with RU:=q.next } } :af).Mc,g≠w.heap.size:=fun g hg2 e=>by rw [hbks] at hg2; have:=hlt0 g hg2; omega
  exact ⟨(aH zo).trans HS.I.2.2.2,HS.I.1.same fun g hg2=>aH (hbl g hg2),bP HS.I.2.1 zo⟩
 clear hbks hlt0;go_wp2_with (refine ec 4 16 #[i_ j_ q.id,i_ j_ (q.next+1),s_ (o_ ⟨gs,0,n_⟩) q.L8.length q.aW,s_ q.bc q.aj.length q.bF,s_ q.ay q.L9.length q.aO,s_ q.ax q.ag.length q.aP,s_ q.am q.ae.length q.aG,s_ q.aK q.ai.length q.aV] HT.I.1 ?_);refine gZ results118 HT.I.1 ?_;have hg:=HB.I.2.2.2.2.2.2;have rN: ∀ g∈({ q with L8:=q.L8.set n { x with RU:=q.next } } :af).Mc,g≠w.heap.size+1:=fun g hg2 e=>by have:=HBK.I g hg2; omega
 have ho:=HT.I.2.1.same (w':=((((w.alloc (c_ (q.L6 gs) 31)).alloc (c_ ar 31)).setCell ⟨gs,n * 12+11,n_⟩ (i_ j_ q.next)).setCell ⟨w.heap.size,1,n_⟩ (i_ j_ (q.next+1))).setRow (w.heap.size+1) #[i_ j_ q.id,i_ j_ (q.next+1),s_ (o_ ⟨gs,0,n_⟩) q.L8.length q.aW,s_ q.bc q.aj.length q.bF,s_ q.ay q.L9.length q.aO,s_ q.ax q.ag.length q.aP,s_ q.am q.ae.length q.aG,s_ q.aK q.ai.length q.aV]) fun g hg2=>KH _ _ _ _ (rN g hg2)
 refine ⟨_,?_,rfl,⟨ho.L8,ho.aj,ho.L9,ho.ag,ho.ae,ho.ai,ho.eI,ho.eE,ho.eR,ho.nodup⟩,q_ HT.I.2.2 zo _⟩;simp only [af.cells,LI,HB.I.2.2.2.2.2.1]
def tK (p:af) (id:Int) (w:w_) (hf:p.Fit) (hs: ∀ x∈p.L8,x.dX) (h:af.At w p):
  k_ J3 80 #[a_ p.cells,i_ j_ id] w fun e w'=>gI w (kD p.pure id) e w':=by
 have HB:Hid (av ((w.alloc (c_ p.row 31)).alloc (c_ ar 31)) w.heap.size p/\af.At ((w.alloc (c_ p.row 31)).alloc (c_ ar 31)) p/\B_ w.heap.size w ((w.alloc (c_ p.row 31)).alloc (c_ ar 31))/\((w.alloc (c_ p.row 31)).alloc (c_ ar 31)).heap[w.heap.size+1]? =o_ (c_ ar 31)):=by
  exact Q4
 have fl:Hid (p.Fit/\ ∀ x∈p.L8,x.dX):=⟨hf,hs⟩
 have hpl:=hf.short.L8;clear h hf hs;obtain ⟨m0,m1,m2,m3,m4,m5,m6,m7⟩:=HB.I.1.cells;unfold af.cells
 go_enter func80,ntmps80
 go_wp2_with fail;generalize (w.alloc (c_ p.row 31)).alloc (c_ ar 31)=W at *;clear m0 m1 m2 m3 m4 m5 m6 m7;refine (lS p id W hpl HB.I.2.1).mono ?_;rintro e W1 ⟨rfl,hb⟩;replace HB:Hid (av W1 w.heap.size p/\af.At W1 p/\B_ w.heap.size w W1/\W1.heap[w.heap.size+1]? =o_ (c_ ar 31)):=⟨HB.I.1.below hb,HB.I.2.1.below hb,HB.I.2.2.1.trans (hb.mono HB.I.2.2.1.size),(hb.block _ (J2.1 HB.I.2.2.2).1).trans HB.I.2.2.2⟩
 clear hb;obtain ⟨m0,m1,m2,m3,m4,m5,m6,m7⟩:=HB.I.1.cells;have hpf:=nK id p.pure.L8 0;rw [show p.pure.L8.map (·.id)=p.L8.map (·.id) by simp [af.pure,Ls]] at hpf;have Gh:Hid (_):=hpf;clear hpf;generalize place (p.L8.map (·.id)) id 0=z at *;go_wp2_with fail;clear m0 m1 m2 m3 m4 m5 m6 m7;refine (eV p W1 fl.I.1 fl.I.2 HB.I.2.1).mono ?_;rintro e W2 ⟨rfl,hb⟩;replace HB:Hid (av W2 w.heap.size p/\af.At W2 p/\B_ w.heap.size w W2/\W2.heap[w.heap.size+1]? =o_ (c_ ar 31)):=⟨HB.I.1.below hb,HB.I.2.1.below hb,HB.I.2.2.1.trans (hb.mono HB.I.2.2.1.size),(hb.block _ (J2.1 HB.I.2.2.2).1).trans HB.I.2.2.2⟩
 clear hb;obtain ⟨m0,m1,m2,m3,m4,m5,m6,m7⟩:=HB.I.1.cells;cases h4:bK p.pure
 .have HN:Hid (kD p.pure id=n_):=vO h4
  clear h4;exact J_
 have H4:Hid (bK p.pure=true):=h4;clear h4;rcases Gh.I with ⟨hz,hnf⟩ | ⟨n,y0,hz,hn,Dc⟩
 .have HN:Hid (kD p.pure id=n_):=tg hnf
  subst hz;clear hnf Gh;exact J_
 rw [Nat.zero_add] at hz;subst hz;have hnl:n < p.L8.length:=by have h5:=(Lj.1 hn).1; simpa [af.pure] using h5
 have afO:decide ((n:Int) < 0)=false:=decide_eq_false zo;obtain ⟨x0,hx0,hxy⟩: ∃ x,p.L8[n]? =o_ x/\x.toaD=y0:=by
  have h5:(p.L8.map (·.toaD))[n]? =o_ y0:=hn;rw [Kk,Kw] at h5;exact h5
 subst hxy;have HY:Hid (p.pure.L8[n]? =o_ x0.toaD/\p.pure.L8.find? (fun x=>decide (x.id=id))=o_ x0.toaD):=⟨hn,Dc⟩
 obtain ⟨gp,hap,Gn⟩:=cn HB.I.2.1.1 hx0;rw [hap] at m2;have wg:Hid (p.aN=o_ ⟨gp,0,n_⟩):=hap;have d3:=Gn.2.2.2.1;clear hn Dc Gh hx0 Gn hap;have j0:(0:Int)<=(n:Int):=zo
 have j1:(n:Int) < (p.L8.length:Int):=zo
 by_cases hst:x0.Md=0
 .by_cases hnx:p.next=1000000000
  .have HN:Hid (kD p.pure id=n_):=sx HY.I.2 (by have e:p.pure.next=1000000000:=hnx; simp [e])
   have e1:(x0.Md != 0)=false:=by simp [hst]
   have e2:(p.next == 1000000000)=true:=by simp [hnx]
   clear hst hnx;exact J_
  have HN:Hid (kD p.pure id=o_ { p.pure with next:=p.next+1,L8:=ce id (fun y:aD=> { y with Md:=1,RU:=p.next }) p.pure.L8 }):=tT H4.I HY.I.2 (by have e:x0.toaD.Md=0:=hst; have e2: ¬ p.pure.next=1000000000:=hnx; simp [e,e2]);have e1:(x0.Md != 0)=false:=by simp [hst]
  have e2:(p.next == 1000000000)=false:=by simp [hnx]
  clear hst hnx;go_wp2_with fail;clear m0 m1 m2 m3 m4 m5 m6 m7 d3 e1 e2;have Mb:=fR p W2 fl.I.1 fl.I.2 HB.I.2.1;rw [show af.cells p=(p.L6 gp) by unfold af.cells; rw [wg.I]] at Mb;refine Mb.mono ?_;clear Mb;rintro e W3 ⟨q,rfl,hown,gn,hb3⟩;obtain ⟨x,hx,hxy⟩: ∃ x,q.L8[n]? =o_ x/\x.toaD=x0.toaD:=by
   have h5:(q.L8.map (·.toaD))[n]? =o_ x0.toaD:=by have h6:=HY.I.1; rw [<- gn] at h6; exact h6
   rw [Kk,Kw] at h5;exact h5
  obtain ⟨gs,ha,hat⟩:=cn hown.at.1 hx;have hnq:n < q.L8.length:=(Lj.1 hx).1;have hgs:=cf hown.L8 (g:=gs) Zdt;have hb4:B_ W3.heap.size W3 (W3.alloc (c_ (q.L6 gs) 31)):=(Kp _ _).alloc (Ki _) _;obtain ⟨⟨u,c3⟩,f3⟩:(∃ u,(W3.alloc (c_ (q.L6 gs) 31)).cell? ⟨gs,n * 12+3,n_⟩=o_ u)/\(W3.alloc (c_ (q.L6 gs) 31)).frozen? ⟨gs,n * 12+3,n_⟩=false:=by
   obtain ⟨g,hg,hrow⟩:=bl.fX (K:=bg) (hown.below hb4).L8 zo;rw [ha] at hg;cases hg;exact ⟨⟨_,(hrow.cell hx (r:=3) (by decide)).1⟩,(hrow.cell hx (r:=3) (by decide)).2⟩
  have h5:=(hown.below hb4).kB (n:=n) (j:=3) (x:=x) (y:= { x with Md:=1 }) (vs:= [i_ j_ 1]) hx ha ⟨rfl,rfl,rfl⟩ (by decide) (fun r hr=>by match r,hr with | 0,_=>rfl) (fun r hr hn=>by match r,hr,hn with | 0,_,_=>rfl | 1,_,_=>rfl | 2,_,_=>rfl | 3,_,hn=>exact absurd ⟨zo,by decide⟩ hn | 4,_,_=>rfl | 5,_,_=>rfl | 6,_,_=>rfl | 7,_,_=>rfl | 8,_,_=>rfl | 9,_,_=>rfl | 10,_,_=>rfl | 11,_,_=>rfl);simp only [bn] at h5;have oX:w.heap.size+1 < W2.heap.size:=(J2.1 HB.I.2.2.2).1;have Ix:=hb3.size;have HS:Hid (ap ((W3.alloc (c_ (q.L6 gs) 31)).setCell ⟨gs,n * 12+3,n_⟩ (i_ j_ 1)) W2.heap.size ({ q with L8:=q.L8.set n { x with Md:=1 } } :af)/\av ((W3.alloc (c_ (q.L6 gs) 31)).setCell ⟨gs,n * 12+3,n_⟩ (i_ j_ 1)) W3.heap.size q/\B_ w.heap.size w ((W3.alloc (c_ (q.L6 gs) 31)).setCell ⟨gs,n * 12+3,n_⟩ (i_ j_ 1))/\((W3.alloc (c_ (q.L6 gs) 31)).setCell ⟨gs,n * 12+3,n_⟩ (i_ j_ 1)).heap[w.heap.size+1]? =o_ (c_ ar 31)/\({ q with L8:=q.L8.set n { x with Md:=1 } } :af).L8[n]? =o_ { x with Md:=1 } /\af.cells ({ q with L8:=q.L8.set n { x with Md:=1 } } :af)=(q.L6 gs)/\W2.heap.size<=((W3.alloc (c_ (q.L6 gs) 31)).setCell ⟨gs,n * 12+3,n_⟩ (i_ j_ 1)).heap.size/\q.pure=p.pure/\x.toaD=x0.toaD):=by
   refine ⟨h5.1,?_,?_,?_,by simp [hnq],by simp only [af.cells,LI,ha],?_,gn,hxy⟩
   .refine (aH zo).trans ?_
    rw [ha];exact Kj _ _
   .exact bP (HB.I.2.2.1.trans ((hb3.alloc Ix _).mono HB.I.2.2.1.size)) zo
   .exact (aH zo).trans ((hb4.block _ zo).trans ((hb3.block _ oX).trans HB.I.2.2.2))
   .have:=hb4.size; rw [show (((W3.alloc (c_ (q.L6 gs) 31)).setCell ⟨gs,n * 12+3,n_⟩ (i_ j_ 1))).heap.size=_ from fH [_]]; omega
  obtain ⟨k0,k1,k2,k3,k4,k5,k6,k7⟩:=HS.I.2.1.cells;rw [ha] at k2;have u4:(n:Int) < (q.L8.length:Int):=zo
  rw [show af.cells q=(q.L6 gs) by unfold af.cells; rw [ha]];clear hown gn hb3 hx hxy ha hat hgs hb4 h5 Ix;go_wp2_with fail;clear k0 k1 k2 k3 k4 k5 k6 k7 c3 f3;generalize (W3.alloc (c_ (q.L6 gs) 31)).setCell ⟨gs,n * 12+3,n_⟩ (i_ j_ 1)=W5 at *;have hnx:0<=q.next/\q.next<=1000000000:=by have h6:=bz.1 ((ch _).1 H4.I).next; rw [<- HS.I.2.2.2.2.2.2.2.1] at h6; have h7:q.pure.next=q.next:=rfl; omega
  have Mb:=Bk ({ q with L8:=q.L8.set n { x with Md:=1 } } :af) n W2.heap.size { x with Md:=1 } W5 HS.I.1 HS.I.2.2.2.2.2.2.1 HS.I.2.2.2.2.1 hnx;rw [HS.I.2.2.2.2.2.1] at Mb;refine Mb.mono ?_;clear Mb;rintro e W6 ⟨q2,rfl,pv,DU,jQ⟩;have H6:Hid (ap W6 W2.heap.size q2/\B_ w.heap.size w W6/\W6.heap[w.heap.size+1]? =o_ (c_ ar 31)/\q2.pure= { p.pure with next:=p.next+1,L8:=ce id (fun y:aD=> { y with Md:=1,RU:=p.next }) p.pure.L8 } /\w.heap.size+1 < W2.heap.size):=by
   refine ⟨DU,HS.I.2.2.1.trans (jQ.mono zo),(jQ.block _ oX).trans HS.I.2.2.2.1,?_,oX⟩;have hpp:=HS.I.2.2.2.2.2.2.2.1;have hid:x0.toaD.id=id:=by have h7:=List.find?_some HY.I.2; simpa using h7
   rw [rp (sc H4.I) HY.I.1 hid];have hnn:q.next=p.next:=congrArg aE.next hpp;have hpr:q.L8.map (·.toaD)=p.pure.L8:=congrArg aE.L8 hpp;have hxx:=HS.I.2.2.2.2.2.2.2.2;subst pv
   show ({ q.pure with next:=q.next+1,L8:=((q.L8.set n { x with Md:=1 }).set n { { x with Md:=1 } with RU:=q.next }).map (·.toaD) } :aE)=_
   rw [List.set_set,List.map_set,hpr,hpp,hnn,<- hxx]
  clear pv DU jQ HS hnx;go_wp2_with (refine ec 4 42 (af.cells q2) H6.I.2.2.1 ?_);refine mG results80 (b_ true) H6.I.2.2.1 ?_;rw [HN.I];have hl:=H6.I.2.2.2.2;exact ⟨q2,rfl,(H6.I.1.lower zo).same fun g hg=>KH _ _ _ _ (by have:=(H6.I.1.lt g hg).1; omega),H6.I.2.2.2.1,q_ H6.I.2.1 zo _⟩
 .have HN:Hid (kD p.pure id=n_):=sx HY.I.2 (by have e: ¬ x0.toaD.Md=0:=hst; simp [e])
  have e1:(x0.Md != 0)=true:=by simp [hst]
  clear hst;exact J_
end
section
variable {α:Type} (afM:α->α->Bool)
def qV (r:Option α) (x:α):Option α:=match r with
 | none=>o_ x
 | some b=>if afM x b then o_ x else o_ b
def oa (l:List α):Option α:=l.foldl (qV afM) n_
def qy (l:List α) (x:α):oa afM (l ++ [x])=qV afM (oa afM l) x:=by simp [oa]
def EO {r:Option α} {x y:α} (h:qV afM r x=o_ y):y=x\/r=o_ y:=by
 unfold qV at h
 exact ZbQ
def zZ: ∀ (l:List α) (r:Option α) {y:α},l.foldl (qV afM) r=o_ y->y∈l\/r=o_ y
 | [],_,_,h=> .inr h
 | x :: l,r,y,h=>by
  rcases zZ l (qV afM r x) h with h1 | h1
  .exact .inl (by simp [h1])
  .rcases EO afM h1 with h2 | h2
   .exact .inl (by simp [h2])
   .exact .inr h2
def Fg {l:List α} {y:α} (h:oa afM l=o_ y):y∈l:=(zZ afM l n_ h).elim id (fun e=>by cases e)
def C8 (r:Option α) (x:α): ∃ y,qV afM r x=o_ y:=by
 unfold qV
 split
 .exact ⟨_,rfl⟩
 .split <;> exact ⟨_,rfl⟩
def CZ {l:List α} (h:oa afM l=n_):l= [] :=by
 rcases List.eq_nil_or_concat l with e | ⟨l',x,e⟩
 .exact e
 .subst e
  rw [List.concat_eq_append,qy] at h;obtain ⟨y,hy⟩:=C8 afM (oa afM l') x;rw [hy] at h;cases h
def eN (f:α->Bool) (l:List α) (k:Nat) (i:Int):Prop:=match oa afM ((l.take k).filter f) with
 | none=>i= -1
 | some x=> ∃ n:Nat,i=n/\n < k/\l[n]? =o_ x
variable {f:α->Bool} {l:List α} {k:Nat} {i:Int} {x:α}
def eN.start (f:α->Bool) (l:List α):eN afM f l 0 (-1):=by simp [eN,oa]
def qm (hx:l[k]? =o_ x):(l.take (k+1)).filter f=(l.take k).filter f ++ (if f x then [x] else []):=by
 have h:l.take (k+1)=l.take k ++ [x] :=by rw [List.take_add_one,hx]; rfl
 rw [h,List.filter_append];by_cases h:f x=true <;> simp [h]
variable {afM}
def eN.skip (h:eN afM f l k i) (hx:l[k]? =o_ x) (hf:f x=false):eN afM f l (k+1) i:=by
 unfold eN at h ⊢;rw [qm hx,hf];exact Zbu
def eN.first (h:eN afM f l k i) (hi:i < 0) (hx:l[k]? =o_ x) (hf:f x=true):eN afM f l (k+1) k:=by
 unfold eN at h ⊢;rw [qm hx,hf];simp only [if_true];rw [qy]
 exact ZbN
def eN.got (h:eN afM f l k i) (hi: ¬ i < 0): ∃ (n:Nat) (y:α),i=n/\n < k/\l[n]? =o_ y/\oa afM ((l.take k).filter f)=o_ y:=by
 unfold eN at h
 exact ZbU
def eN.none' (h:eN afM f l k i) (hi:i < 0):oa afM ((l.take k).filter f)=n_:=by
 unfold eN at h
 split at h
 .assumption
 .obtain ⟨n,h1,_⟩:=h
  omega
def eN.next {n:Nat} {y:α} (hn:n < k) (hy:l[n]? =o_ y) (he:oa afM ((l.take k).filter f)=o_ y) (hx:l[k]? =o_ x) (hf:f x=true):eN afM f l (k+1) (if afM x y then (k:Int) else (n:Int)):=by
 unfold eN;rw [qm hx,hf];simp only [if_true];rw [qy,he];simp only [qV];by_cases ha:afM x y=true
 .simp only [ha,if_true]
  exact ⟨k,rfl,zo,hx⟩
 .simp only [ha,J5,if_false]
  exact ⟨n,rfl,zo,hy⟩
end
def og (now:Int) (x:aD):Bool:=decide (2<=x.Md) && cv x.Mg 1 now
def l8 (a b:aD):Bool:=decide (a.Mg < b.Mg)
def lF (now:Int) (l:List aD):List aD:=l.filter (og now)
def lZ (now:Int) (l:List aD):Option aD:=oa l8 (lF now l)
def jM (code:Int) (x:aD):aD:= { x with code:=code,Md:=1,pc:=x.pc+1,left:=0,Mg:=0,on:=0,held:=rM }
def jT (code:Int) (x:aD):aD:=if x.pc+1=x.prog.length then j7 (jM code x) else jM code x
def iY (nx code:Int) (x:aD):aD:=if x.pc+1=x.prog.length then j7 (jM code x) else { jM code x with RU:=nx }
def gf (nx:Int) (x:aD):Int:=if x.pc+1=x.prog.length then nx else nx+1
def mL (x:aD):Int:=if x.Md=2 then 0 else 2
def gu (p:aE) (x:aD):aE:= { p with next:=gf p.next x,L8:=ce x.id (iY p.next (mL x)) p.L8 }
def oO (now:Int):Nat->aE->aE
 | 0,p=>p
 | n+1,p=>match lZ now p.L8 with
  | none=>p
  | some x=>oO now n (gu p x)
def gj (now:Int) (p:aE):aE:=oO now (lF now p.L8).length p
def kk (p:aE) (now:Int):Option aE:=if bK p && cv now 0 1000000000 && decide (p.next<=999999980) then o_ (gj now p) else n_
def rD (nx code:Int) (x:aD):(iY nx code x).id=x.id/\(iY nx code x).prog=x.prog:=by
 unfold iY
 split <;> exact ⟨rfl,rfl⟩
def E7 (now nx code:Int) (x:aD):og now (iY nx code x)=false:=by
 unfold iY og
 split <;> simp [j7,jM]
def qB {f:aD->aD} {id:Int} : ∀ {l:List aD},(∀ y∈l,y.id≠id)->ce id f l=l
 | [],_=>rfl
 | y :: r,h=>by
  have h1:ce id f r=r:=qB fun z hz=>h z (LB _ hz)
  simp only [ce,Lt] at h1 ⊢;rw [if_neg (h y zw),h1]
def Bg {now:Int} {f:aD->aD} {x:aD} (hf:og now (f x)=false) (hx:og now x=true): ∀ {l:List aD},l.Pairwise (fun x y=>x.id < y.id)->x∈l->(lF now (ce x.id f l)).length+1=(lF now l).length
 | [],_,h=>by cases h
 | y :: r,hr,h=>by
  rw [LM] at hr;by_cases e:y=x
  .subst e
   have h2:ce y.id f (y :: r)=f y :: r:=by
    exact ZbE
   rw [h2];simp [lF,hf,hx]
  .have hm:x∈r:=by
    rcases Kt.1 h with h1 | h1
    .exact absurd h1.symm e
    .exact h1
   have h4:=Bg hf hx hr.2 hm;have h5: ¬ y.id=x.id:=by have:=hr.1 x hm; omega
   have h6:ce x.id f (y :: r)=y :: ce x.id f r:=by simp [ce,h5]
   rw [h6];unfold lF at h4 ⊢;by_cases hy:og now y=true
   .simp only [LN,hy,if_true,List.length_cons]; omega
   .simp only [LN,hy,J5,if_false]; exact h4
def rW {f:aD->aD} {id:Int} (hf: ∀ x,(f x).id=x.id) {l:List aD} (h:l.Pairwise (fun x y=>x.id < y.id)):(ce id f l).Pairwise (fun x y=>x.id < y.id):=by
 unfold ce;rw [List.pairwise_map];refine h.imp fun {a b} hab=> ?_
 have e: ∀ z:aD,(if z.id=id then f z else z).id=z.id:=fun z=>by split <;> simp [hf]
 rw [e,e];exact hab
def Gs {f:aD->aD} {id:Int} {l:List aD} {y:aD} (h:y∈ce id f l):y∈l\/ ∃ x∈l,y=f x:=by
 obtain ⟨z,hz,e⟩:=Lr.1 h;by_cases h1:z.id=id
 .exact .inr ⟨z,hz,by rw [<- e,if_pos h1]⟩
 .exact .inl (by rw [if_neg h1] at e; exact e ▸ hz)
structure af9 (now:Int) (p:aE):Prop where
 kW:p.L8.Pairwise (fun x y=>x.id < y.id)
 op: ∀ x∈p.L8,2<=x.Md->0<=x.pc/\x.pc < x.prog.length
 room:1<=p.next/\p.next+(lF now p.L8).length<=1000000000
 low:p.L8.length<=6
def af9.mem {now:Int} {p:aE} {x:aD} (h:lZ now p.L8=o_ x):x∈p.L8/\og now x=true:=by
 have h1:=Fg l8 h;exact List.mem_filter.1 h1
def af9.step {now:Int} {p:aE} {x:aD} (h:af9 now p) (hx:lZ now p.L8=o_ x):af9 now (gu p x)/\(lF now (gu p x).L8).length+1=(lF now p.L8).length:=by
 obtain ⟨hm,hd⟩:=af9.mem hx;have h1:=Bg (E7 now p.next (mL x) x) hd h.kW hm;refine ⟨⟨rW (fun y=>(rD _ _ y).1) h.kW,fun y hy hs=> ?_,?_,?_⟩,h1⟩
 .rcases Gs hy with h2 | ⟨z,_,rfl⟩
  .exact h.op y h2 hs
  .unfold iY at hs
   split at hs <;> simp [j7,jM] at hs
 .have h2:=h.room
  have h3:(gu p x).next<=p.next+1/\p.next<=(gu p x).next:=by
   show gf p.next x<=_/\_<=gf p.next x
   unfold gf
   split <;> omega
  have h4:(lF now (gu p x).L8).length+1=(lF now p.L8).length:=h1;omega
 .show (ce _ _ p.L8).length<=6
  simpa [ce] using h.low
def Co {now:Int} {p:aE} (h:lZ now p.L8=n_):gj now p=p:=by
 unfold gj;rw [CZ l8 h];rfl
def vn {now:Int} {p:aE} {x:aD} (h:af9 now p) (hx:lZ now p.L8=o_ x):gj now p=gj now (gu p x):=by
 have h1:=(h.step hx).2;unfold gj;rw [<- h1];simp only [oO,hx]
def af9.of {now:Int} {p:aE} (h:aQ p) (hn:p.next<=999999980):af9 now p:=by
 have h1:=(db h.L8).2;refine ⟨h1,fun x hx hs=> ?_,?_,h.dl⟩
 .have h2:=(cK h.L8 x hx).2
  simp only [cH,J7] at h2;have h3:=h2.1.1.2;unfold bO at h3;have h4:dU x=true:=by
   split at h3
   .omega
   .split at h3
    .omega
    .exact ZaK
  have h5:=bz.1 h4;omega
 .have h2:=bz.1 h.next
  have h3:(lF now p.L8).length<=p.L8.length:=List.length_filter_le _ _;have h4:=h.dl;omega
section
open Go.RowKit Go.Maps
attribute [local go_sem ↓] Kc Kd
def xX {z:Int} (h:cv z 1 1000=true):(Lit.int j_ z).wf=true:=by
 have h2:=bz.1 h;have e1:IntKind.min j_<=0:=by decide
 have e2:100000<=IntKind.max j_:=by decide
 exact ZbZ
def iB {S:aZ} (h:aQ S.pure):S.Fits:=by
 refine ⟨?_,?_,?_,?_,?_,?_,?_,?_,?_,?_,?_,?_⟩
 .have h5:=h.dl
  have h6:S.pure.L8.length=S.lp.length:=by simp [aZ.pure]
  omega
 .intro p hp
  obtain ⟨r,hr,rfl⟩:=Lr.1 hp;exact xX (cK h.L8 (r.1.toaD) (Lr.2 ⟨r,hr,rfl⟩)).1
 .have h5:=h.fx
  have h6:S.pure.aj.length=S.ls.length:=by simp [aZ.pure]
  omega
 .intro p hp
  obtain ⟨r,hr,rfl⟩:=Lr.1 hp;exact xX (cK h.aj (r.1) (Lr.2 ⟨r,hr,rfl⟩)).1
 .have h5:=h.cD
  have h6:S.pure.L9.length=S.le.length:=by simp [aZ.pure]
  omega
 .intro p hp
  obtain ⟨r,hr,rfl⟩:=Lr.1 hp;exact xX (cK h.L9 (r.1) (Lr.2 ⟨r,hr,rfl⟩)).1
 .have h5:=h.cC
  have h6:S.pure.ag.length=S.lb.length:=by simp [aZ.pure]
  omega
 .intro p hp
  obtain ⟨r,hr,rfl⟩:=Lr.1 hp;exact xX (cK h.ag (r.1) (Lr.2 ⟨r,hr,rfl⟩)).1
 .have h5:=h.cb
  have h6:S.pure.ae.length=S.lf.length:=by simp [aZ.pure]
  omega
 .intro p hp
  obtain ⟨r,hr,rfl⟩:=Lr.1 hp;exact xX (cK h.ae (r.1.toci) (Lr.2 ⟨r,hr,rfl⟩)).1
 .have h5:=h.dH
  have h6:S.pure.ai.length=S.lq.length:=by simp [aZ.pure]
  omega
 .intro p hp
  obtain ⟨r,hr,rfl⟩:=Lr.1 hp;exact xX (cK h.ai (r.1.todS) (Lr.2 ⟨r,hr,rfl⟩)).1
def NU {S:aZ} {g:Nat} {f:ao->ao} {nx:Int} (h:S.Fits) (hf: ∀ x,(f x).id=x.id):(S.ju g f nx).Fits:=by
 have e:RW (fun x:ao=>x.id) (sU g f S.lp)=RW (fun x:ao=>x.id) S.lp:=Al fun p _ _=>hf p.1
 refine ⟨?_,?_,h.fx,h.adG,h.cD,h.G4,h.cC,h.FP,h.cb,h.DW,h.dH,h.Jz⟩
 .show (sU g f S.lp).length<=_
  unfold sU;rw [KG];exact h.dl
 .show ∀ p∈RW (fun x:ao=>x.id) (sU g f S.lp),_
  rw [e];exact h.Jl
def wE (o g:Nat) (nx:Int) (w:w_) (h1:w.cell? ⟨o,1,n_⟩=o_ (i_ j_ nx)) (f1:w.frozen? ⟨o,1,n_⟩=false) (h2: ∃ u,w.cell? ⟨g,11,n_⟩=o_ u) (f2:w.frozen? ⟨g,11,n_⟩=false) (hne: ¬ o=g) (n0:0<=nx) (n1:nx<=1000000000):
  k_ J3 104 #[p_ (o_ ⟨o,0,n_⟩),p_ (o_ ⟨g,0,n_⟩)] w fun e w'=>e=r_ (u_ #[])/\w'=(w.setCell ⟨g,11,n_⟩ (i_ j_ nx)).setCell ⟨o,1,n_⟩ (i_ j_ (nx+1)):=by
 obtain ⟨u,h2⟩:=h2;have k1:(w.setCell ⟨g,11,n_⟩ (i_ j_ nx)).cell? ⟨o,1,n_⟩=o_ (i_ j_ nx):=(J1 (aH hne)).trans h1;have k2:(w.setCell ⟨g,11,n_⟩ (i_ j_ nx)).frozen? ⟨o,1,n_⟩=false:=(World.frozen?_of_block (aH hne)).trans f1
 go_enter func104,ntmps104
 go_wp2
 go_end0
 exact ⟨rfl,rfl⟩
def F2 (nx:Int) (y:ao):ao:= { y with Md:=1,RU:=nx }
def aI.cell {w:w_} {g i:Nat} {v:v_} :aI w (w.setCell ⟨g,i,n_⟩ v) [g] :=aI.set (off:=i) [v] zw
def ajh (o g base:Nat) (S:aZ) (x:ao) (w:w_) (h:cJ w base o S) (hx:(x,g)∈S.lp) (n0:0<=S.q.next) (n1:S.q.next<=1000000000):
  k_ J3 194 #[p_ (o_ ⟨o,0,n_⟩),p_ (o_ ⟨g,0,n_⟩)] w fun e w'=>e=r_ (u_ #[])/\cJ w' base o (S.ju g (F2 S.q.next) (S.q.next+1))/\aI w w' [g,o] :=by
 have hgb:w.heap[g]? =o_ (c_ (aX x) 41):=h.L8.box (x,g) hx;have bR:g∈S.lp.map (·.2):=Lr.2 ⟨(x,g),hx,rfl⟩;have hno: ¬ o=g:=fun e=>by
  exact ZbG
 have CT:=cx (i:=3) (v:=i_ j_ 1) hgb;have c3:w.cell? ⟨g,3,n_⟩=o_ (i_ j_ x.Md):=(bo hgb).2.2.2.1;have z3:w.frozen? ⟨g,3,n_⟩=false:=Ko _ _ _ _ _ hgb;have HC:Hid ((w.setCell ⟨g,3,n_⟩ (i_ j_ 1)).cell? ⟨o,1,n_⟩=o_ (i_ j_ S.q.next)/\(w.setCell ⟨g,3,n_⟩ (i_ j_ 1)).frozen? ⟨o,1,n_⟩=false/\(∃ u,(w.setCell ⟨g,3,n_⟩ (i_ j_ 1)).cell? ⟨g,11,n_⟩=o_ u)/\(w.setCell ⟨g,3,n_⟩ (i_ j_ 1)).frozen? ⟨g,11,n_⟩=false):=⟨(J1 (aH hno)).trans (h.opn.cell 1),(World.frozen?_of_block (aH hno)).trans (Ko _ _ _ _ _ h.opn),⟨i_ j_ x.RU,by simp [World.cell?,CT,aX]⟩,Ko _ _ _ _ _ CT⟩
 have HE:Hid (cJ (((w.setCell ⟨g,3,n_⟩ (i_ j_ 1)).setCell ⟨g,11,n_⟩ (i_ j_ S.q.next)).setCell ⟨o,1,n_⟩ (i_ j_ (S.q.next+1))) base o (S.ju g (F2 S.q.next) (S.q.next+1))/\aI w (((w.setCell ⟨g,3,n_⟩ (i_ j_ 1)).setCell ⟨g,11,n_⟩ (i_ j_ S.q.next)).setCell ⟨o,1,n_⟩ (i_ j_ (S.q.next+1))) [g,o]):=by
  refine ⟨h.ju (fun y=>⟨rfl,rfl,rfl,rfl⟩) (fun p hp hpg=> ?_) bR ?_ fun b hb hb2=>(aH hb2).trans ((aH hb).trans (aH hb)),((aI.cell.trans aI.cell).mono zw).trans (aI.cell.mono zw)⟩
  .have e:=h.L8.one hp hx hpg
   subst e;have h5:=(aH (i:=1) (v:=i_ j_ (S.q.next+1)) (fun e=>hno e.symm:g≠o)).trans (cx (i:=11) (v:=i_ j_ S.q.next) CT);exact h5
  .have h5:((w.setCell ⟨g,3,n_⟩ (i_ j_ 1)).setCell ⟨g,11,n_⟩ (i_ j_ S.q.next)).heap[o]? =_:=((aH hno).trans (aH hno)).trans h.opn
   exact cx (i:=1) (v:=i_ j_ (S.q.next+1)) h5
 clear hgb bR CT h hx
 go_enter func194,ntmps194
 go_wp2_with fail;refine (wE o g S.q.next _ HC.I.1 HC.I.2.1 HC.I.2.2.1 HC.I.2.2.2 hno n0 n1).mono ?_;rintro e w2 ⟨rfl,rfl⟩;go_wp2
 go_end0
 exact ⟨rfl,HE.I.1,HE.I.2⟩
end
end Go.Proofs.YtfncpmaefninjaaGreatDoor
