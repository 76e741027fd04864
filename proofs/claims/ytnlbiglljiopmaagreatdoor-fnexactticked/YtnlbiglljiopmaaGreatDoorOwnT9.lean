/- What the proof leans on, part 9. -/
import Derived.Test.YtnlbiglljiopmaaGreatDoorOwnT8
import Derived.Lib.SliceRun
set_option linter.unusedVariables false
set_option maxRecDepth 100000
set_option maxHeartbeats 8000000
open Go.Proofs.Tryz
open Go renaming World->w_,Value->v_,Calls->k_,Addr->d_,TypeId->T_,below_setRow->q_
open Go.Ending renaming returned->r_
open Go.IntKind renaming i64->j_
open Go.Obj renaming cells->c_
open Go.RowKit renaming Below->B_
open Go.Value renaming int->i_,slice->s_,bool->b_,string->t_,agg->a_,pointer->p_,tuple->u_
open Option renaming some->o_,none->n_
open Array renaming getElem?_eq_some_iff->J2,getElem?_toList->QJ
open Bool renaming and_eq_true->J7,false_eq_true->J5,or_eq_true->Kb
open Function renaming comp_def->Ls
open Go renaming frozen_of_row->Ko,heap_alloc_new->Kj,setRow_heap->KU,setRow_other->KH,wp_at_succ->Kd,wp_at_zero->Kc
open Go.Addr.mk renaming injEq->aeS
open Go.ByteArray renaming toList_eq->PQ
open Go.Proofs.Tryz renaming prog->J3
open Go.RowKit.Below renaming refl->Kp
open Go.Value.slice renaming injEq->LD
open Go.World renaming cell?_of_block->J1
open Int renaming le_refl->LJ
open List renaming append_assoc->Lm,append_nil->QO,filterMap_append->LW,filterMap_cons->LH,filter_append->QN,filter_cons->LN,find?_cons->LL,getElem?_eq_getElem->Kz,getElem?_eq_some_iff->Lj,getElem?_set_self->LU,getElem?_take->QW,length_append->Lf,length_cons->Lg,length_filter_le->Qq,length_nil->K4,length_set->LI,length_take->Lk,map_congr_left->Lw,map_cons->Lt,map_map->Lv,mem_append->Kg,mem_append_left->Lz,mem_append_right->Ly,mem_cons->Kt,mem_cons_of_mem->LB,mem_filter->L2,mem_filterMap->Lq,mem_iff_getElem->LK,mem_map->Lr,mem_of_getElem?->KA,mem_of_mem_drop->RL,mem_of_mem_take->RK,nodup_append->Kf,nodup_cons->Lp,not_mem_nil->Ku,pairwise_cons->LM,pairwise_iff_getElem->P8,pairwise_map->Qm,set_eq_take_append_cons_drop->RJ,take_append_drop->Qn,take_of_length_le->KF
open Nat renaming add_zero->PT,le_refl->Ki,le_trans->LG,lt_trichotomy->P9,zero_add->Li,zero_le->Ky
open Option renaming map_eq_some_iff->Kw,map_some->J9
open Option.some renaming inj->KC,injEq->LF
open Prod.mk renaming injEq->Kx

namespace Go.Proofs.YtnlbiglljiopmaaGreatDoor
section
open Go.RowKit Go.Maps
def aZ.ju (S:aZ) (g:Nat) (f:ao→ao) (nx:Int):aZ:= { S with q:= { S.q with next:=nx },lp:=sU g f S.lp }
theorem GW {g:Nat} {f:ao→ao} (hf: ∀ x,aR.bt (f x)=aR.bt x) (l:List (ao × Nat)):kids aR (sU g f l)=kids aR l:=by
 induction l with
 | nil=>rfl
 | cons p r ih=>
  have e:(sU g f (p :: r))=(if p.2=g then (f p.1,p.2) else p) :: sU g f r:=rfl;simp only [kids,LH] at ih ⊢;rw [e];simp only [LH];by_cases h:p.2=g
  ·simp only [h,if_true,hf]
   rw [ih]
  ·simp only [h,if_false]
   rw [ih]
theorem cJ.ju {w w':w_} {base o g:Nat} {S:aZ} {f:ao→ao} {nx:Int} (h:cJ w base o S) (hf: ∀ x,(f x).id=x.id∧(f x).prog=x.prog∧(f x).aY=x.aY∧(f x).bH=x.bH)
  (hc: ∀ p∈S.lp,p.2=g→w'.heap[g]? =o_ (c_ (aX (f p.1)) 100)) (hg:g∈S.lp.map (·.2)) (ho:fa w' o { S.q with next:=nx }) (hs: ∀ b,b≠g→b≠o→w'.heap[b]? =w.heap[b]?):cJ w' base o (S.ju g f nx):=by
 have iH: ∀ x,aR.bt (f x)=aR.bt x:=fun x=>by show (f x).aY.map (·.block)=x.aY.map (·.block); rw [(hf x).2.2.1]
 have hn:=h.nodup;have hno:=(Lp.1 hn).1;have yD:=(Kf.1 (Lp.1 hn).2)
 have jQ:=yD.1;unfold aZ.boxes at jQ;have hin: ∀ b,b∈S.boxes∨b∈S.kids→b≠o:=fun b hb e=>hno (by rw [← e]; exact Kg.2 hb)
 have hp:=Kf.1 jQ;have l9:g∈S.q.bp :: S.lp.map (·.2):=LB _ hg;have hgr: ∀ b,b∈((S.q.bs :: S.ls.map (·.2)) ++ ((S.q.be :: S.le.map (·.2)) ++ ((S.q.bb :: S.lb.map (·.2)) ++ ((S.q.bf :: S.lf.map (·.2)) ++ (S.q.bq :: S.lq.map (·.2))))))→b≠g:=fun b hb e=>hp.2.2 g l9 b hb e.symm
 have EI: ∀ b∈S.kids,b≠g:=fun b hb e=>yD.2.2 g (by unfold aZ.boxes; exact Lz _ l9) b hb e.symm
 have hbp:S.q.bp≠g:=fun e=>by
  have:=(Lp.1 hp.1).1
  rw [e] at this;exact this hg
 have lW: ∀ b,b∈(S.q.bp :: S.lp.map (·.2))→b≠o:=fun b hb=>hin b (.inl (by unfold aZ.boxes; exact Lz _ hb))
 have hbr: ∀ b,b∈((S.q.bs :: S.ls.map (·.2)) ++ ((S.q.be :: S.le.map (·.2)) ++ ((S.q.bb :: S.lb.map (·.2)) ++ ((S.q.bf :: S.lf.map (·.2)) ++ (S.q.bq :: S.lq.map (·.2))))))→w'.heap[b]? =w.heap[b]? :=fun b hb=>hs b (hgr b hb) (hin b (.inl ZdG))
 have hkk: ∀ b∈S.kids,w'.heap[b]? =w.heap[b]? :=fun b hb=>hs b (EI b hb) (hin b (.inr hb))
 have hmem: ∀ (b:Nat),(b∈kids aR S.lp∨b∈kids aC S.lf∨b∈kids aU S.lq)→b∈S.kids:=fun b hb=>by simp only [aZ.kids,Kg]; exact hb
 refine ⟨ho,h.L8.sU (fun p _ _=>(hf p.1).1) hc (hs _ hbp (lW _ (by simp))) (fun b hb hne=>hs b hne (lW b (LB _ hb))),h.aj.same fun b hb=>hbr b (Lz _ hb),h.L9.same fun b hb=>hbr b (Ly _ (Lz _ hb)),h.ag.same fun b hb=>hbr b (Ly _ (Ly _ (Lz _ hb))),h.ae.same fun b hb=>hbr b (Ly _ (Ly _ (Ly _ (Lz _ hb)))),h.ai.same fun b hb=>hbr b (Ly _ (Ly _ (Ly _ (Ly _ hb)))),fun p hp'=> ?_,fun p hp'=>(h.eE p hp').same fun b hb=>hkk b (hmem b (.inr (.inl (Lq.2 ⟨p,hp',hb⟩)))),fun p hp'=>(h.eR p hp').same fun b hb=>hkk b (hmem b (.inr (.inr (Lq.2 ⟨p,hp',hb⟩)))),?_,h.low⟩
 ·exact Tu
 ·exact Za2
end
section
open Go.RowKit Go.Maps
attribute [local go_sem ↓] Kc Kd
def j7 (y:aD):aD:=⟨y.id,y.RX,y.prog,0,0,0,0,0,rM,y.got,y.code,0⟩
def sW (y:ao):ao:=⟨j7 y.toaD,y.aY,y.bH⟩
theorem mN (x:ao) (w:w_):k_ J3 146 #[a_ x.row] w fun e w'=>e=r_ (a_ #[i_ j_ x.id,i_ j_ x.RX,s_ x.aY x.prog.length x.bH,i_ j_ 0,i_ j_ 0,i_ j_ 0,i_ j_ 0,i_ j_ 0,t_ ⟨#[]⟩,t_ x.got,i_ j_ x.code,i_ j_ 0])∧B_ w.heap.size w w':=by
 have HB:Hid (B_ w.heap.size w ((w.alloc (c_ x.row 100)).alloc (c_ cE 100))∧((w.alloc (c_ x.row 100)).alloc (c_ cE 100)).heap[w.heap.size+1]? =o_ (c_ cE 100)):=⟨((Kp _ _).alloc (Ki _) _).alloc (by simp) _,heap_alloc2_new _ _ _⟩
 go_enter func146,ntmps146
 go_wp2_with (refine wpList_store_row rfl 100 (Operand.tmp 2) (Operand.tmp 13) rfl (w.heap.size+1) _ _ #[i_ j_ x.id,i_ j_ x.RX,s_ x.aY x.prog.length x.bH,i_ j_ 0,i_ j_ 0,i_ j_ 0,i_ j_ 0,i_ j_ 0,t_ ⟨#[]⟩,t_ x.got,i_ j_ x.code,i_ j_ 0] rfl rfl HB.I.2 ZcR rfl ZcR ?_);refine bodyPost_ret (v:=a_ #[i_ j_ x.id,i_ j_ x.RX,s_ x.aY x.prog.length x.bH,i_ j_ 0,i_ j_ 0,i_ j_ 0,i_ j_ 0,i_ j_ 0,t_ ⟨#[]⟩,t_ x.got,i_ j_ x.code,i_ j_ 0]) (results_cell_row results146 _ _ (w.heap.size+1) _ _ (0,0) _ rfl (KU _ _ _ _ _ _ HB.I.2) underlying100 rfl ZcR) rfl ?_;exact ⟨rfl,q_ HB.I.1 (by omega) _⟩
def Ba (O gs n:Nat) (q:af) (x:ao) (w':w_):Prop:=w'.cell? ⟨O,2,n_⟩=o_ (s_ (o_ ⟨gs,0,n_⟩) q.L8.length q.aW)∧w'.cell? ⟨gs,n * 12,n_⟩=o_ (i_ j_ x.id)∧w'.cell? ⟨gs,n * 12+1,n_⟩=o_ (i_ j_ x.RX)∧w'.cell? ⟨gs,n * 12+2,n_⟩=o_ (s_ x.aY x.prog.length x.bH)∧w'.cell? ⟨gs,n * 12+3,n_⟩=o_ (i_ j_ x.Md)∧w'.cell? ⟨gs,n * 12+4,n_⟩=o_ (i_ j_ x.pc)∧w'.cell? ⟨gs,n * 12+5,n_⟩=o_ (i_ j_ x.left)∧w'.cell? ⟨gs,n * 12+6,n_⟩=o_ (i_ j_ x.Mg)∧w'.cell? ⟨gs,n * 12+7,n_⟩=o_ (i_ j_ x.on)∧w'.cell? ⟨gs,n * 12+8,n_⟩=o_ (t_ x.held)∧w'.cell? ⟨gs,n * 12+9,n_⟩=o_ (t_ x.got)∧w'.cell? ⟨gs,n * 12+10,n_⟩=o_ (i_ j_ x.code)∧w'.cell? ⟨gs,n * 12+11,n_⟩=o_ (i_ j_ x.RU)
theorem xX {z:Int} (h:cv z 1 1000=true):(Lit.int j_ z).wf=true:=by
 have h2:=bz.1 h;have e1:IntKind.min j_≤0:=by decide
 have e2:100000≤IntKind.max j_:=by decide
 simp only [Lit.wf,J7,decide_eq_true_eq];omega
theorem iB {S:aZ} (h:aQ S.pure):S.Fits:=by
 refine ⟨?_,?_,?_,?_,?_,?_,?_,?_,?_,?_,?_,?_⟩
 ·have h5:=h.dl
  have h6:S.pure.L8.length=S.lp.length:=by simp [aZ.pure]
  omega
 ·intro p hp
  obtain ⟨r,hr,rfl⟩:=Lr.1 hp;exact xX (cK h.L8 (r.1.toaD) (Lr.2 ⟨r,hr,rfl⟩)).1
 ·have h5:=h.fx
  have h6:S.pure.aj.length=S.ls.length:=by simp [aZ.pure]
  omega
 ·intro p hp
  obtain ⟨r,hr,rfl⟩:=Lr.1 hp;exact xX (cK h.aj (r.1) (Lr.2 ⟨r,hr,rfl⟩)).1
 ·have h5:=h.cD
  have h6:S.pure.L9.length=S.le.length:=by simp [aZ.pure]
  omega
 ·intro p hp
  obtain ⟨r,hr,rfl⟩:=Lr.1 hp;exact xX (cK h.L9 (r.1) (Lr.2 ⟨r,hr,rfl⟩)).1
 ·have h5:=h.cC
  have h6:S.pure.ag.length=S.lb.length:=by simp [aZ.pure]
  omega
 ·intro p hp
  obtain ⟨r,hr,rfl⟩:=Lr.1 hp;exact xX (cK h.ag (r.1) (Lr.2 ⟨r,hr,rfl⟩)).1
 ·have h5:=h.cb
  have h6:S.pure.ae.length=S.lf.length:=by simp [aZ.pure]
  omega
 ·intro p hp
  obtain ⟨r,hr,rfl⟩:=Lr.1 hp;exact xX (cK h.ae (r.1.toci) (Lr.2 ⟨r,hr,rfl⟩)).1
 ·have h5:=h.dH
  have h6:S.pure.ai.length=S.lq.length:=by simp [aZ.pure]
  omega
 ·intro p hp
  obtain ⟨r,hr,rfl⟩:=Lr.1 hp;exact xX (cK h.ai (r.1.todS) (Lr.2 ⟨r,hr,rfl⟩)).1
theorem NU {S:aZ} {g:Nat} {f:ao→ao} {nx:Int} (h:S.Fits) (hf: ∀ x,(f x).id=x.id):(S.ju g f nx).Fits:=by
 have e:RW (fun x:ao=>x.id) (sU g f S.lp)=RW (fun x:ao=>x.id) S.lp:=Al fun p _ _=>hf p.1
 refine ⟨?_,?_,h.fx,h.adG,h.cD,h.G4,h.cC,h.FP,h.cb,h.DW,h.dH,h.Jz⟩
 ·show (sU g f S.lp).length≤_
  unfold sU;rw [List.length_map];exact h.dl
 ·show ∀ p∈RW (fun x:ao=>x.id) (sU g f S.lp),_
  rw [e];exact h.Jl
theorem wE (o g:Nat) (nx:Int) (w:w_) (h1:w.cell? ⟨o,1,n_⟩=o_ (i_ j_ nx)) (f1:w.frozen? ⟨o,1,n_⟩=false) (h2: ∃ u,w.cell? ⟨g,11,n_⟩=o_ u) (f2:w.frozen? ⟨g,11,n_⟩=false) (hne: ¬ o=g) (n0:0≤nx) (n1:nx≤1000000000):
  k_ J3 161 #[p_ (o_ ⟨o,0,n_⟩),p_ (o_ ⟨g,0,n_⟩)] w fun e w'=>e=r_ (u_ #[])∧w'=(w.setCell ⟨g,11,n_⟩ (i_ j_ nx)).setCell ⟨o,1,n_⟩ (i_ j_ (nx+1)):=by
 obtain ⟨u,h2⟩:=h2;have k1:(w.setCell ⟨g,11,n_⟩ (i_ j_ nx)).cell? ⟨o,1,n_⟩=o_ (i_ j_ nx):=(J1 (aH hne)).trans h1;have k2:(w.setCell ⟨g,11,n_⟩ (i_ j_ nx)).frozen? ⟨o,1,n_⟩=false:=(World.frozen?_of_block (aH hne)).trans f1
 go_enter func161,ntmps161
 go_wp2
 go_end0
 exact ⟨rfl,rfl⟩
def F2 (nx:Int) (y:ao):ao:= { y with Md:=1,RU:=nx }
theorem aI.cell {w:w_} {g i:Nat} {v:v_} :aI w (w.setCell ⟨g,i,n_⟩ v) [g] :=aI.set (off:=i) [v] (by simp)
theorem ajh (o g base:Nat) (S:aZ) (x:ao) (w:w_) (h:cJ w base o S) (hx:(x,g)∈S.lp) (n0:0≤S.q.next) (n1:S.q.next≤1000000000):
  k_ J3 212 #[p_ (o_ ⟨o,0,n_⟩),p_ (o_ ⟨g,0,n_⟩)] w fun e w'=>e=r_ (u_ #[])∧cJ w' base o (S.ju g (F2 S.q.next) (S.q.next+1))∧aI w w' [g,o] :=by
 have hgb:w.heap[g]? =o_ (c_ (aX x) 100):=h.L8.box (x,g) hx;have bR:g∈S.lp.map (·.2):=Lr.2 ⟨(x,g),hx,rfl⟩;have hno: ¬ o=g:=fun e=>by
  exact ZbE
 have CT:=cx (i:=3) (v:=i_ j_ 1) hgb;have c3:w.cell? ⟨g,3,n_⟩=o_ (i_ j_ x.Md):=(bo hgb).2.2.2.1;have z3:w.frozen? ⟨g,3,n_⟩=false:=Ko _ _ _ _ _ hgb;have HC:Hid ((w.setCell ⟨g,3,n_⟩ (i_ j_ 1)).cell? ⟨o,1,n_⟩=o_ (i_ j_ S.q.next)∧(w.setCell ⟨g,3,n_⟩ (i_ j_ 1)).frozen? ⟨o,1,n_⟩=false∧(∃ u,(w.setCell ⟨g,3,n_⟩ (i_ j_ 1)).cell? ⟨g,11,n_⟩=o_ u)∧(w.setCell ⟨g,3,n_⟩ (i_ j_ 1)).frozen? ⟨g,11,n_⟩=false):=⟨(J1 (aH hno)).trans (h.opn.cell 1),(World.frozen?_of_block (aH hno)).trans (Ko _ _ _ _ _ h.opn),⟨i_ j_ x.RU,by simp [World.cell?,CT,aX]⟩,Ko _ _ _ _ _ CT⟩
 have HE:Hid (cJ (((w.setCell ⟨g,3,n_⟩ (i_ j_ 1)).setCell ⟨g,11,n_⟩ (i_ j_ S.q.next)).setCell ⟨o,1,n_⟩ (i_ j_ (S.q.next+1))) base o (S.ju g (F2 S.q.next) (S.q.next+1))∧aI w (((w.setCell ⟨g,3,n_⟩ (i_ j_ 1)).setCell ⟨g,11,n_⟩ (i_ j_ S.q.next)).setCell ⟨o,1,n_⟩ (i_ j_ (S.q.next+1))) [g,o]):=by
  refine ⟨h.ju (fun y=>⟨rfl,rfl,rfl,rfl⟩) (fun p hp hpg=> ?_) bR ?_ fun b hb hb2=>(aH hb2).trans ((aH hb).trans (aH hb)),((aI.cell.trans aI.cell).mono (by simp)).trans (aI.cell.mono (by simp))⟩
  ·have e:=h.L8.one hp hx hpg
   subst e;have h5:=(aH (i:=1) (v:=i_ j_ (S.q.next+1)) (fun e=>hno e.symm:g≠o)).trans (cx (i:=11) (v:=i_ j_ S.q.next) CT);exact h5
  ·have h5:((w.setCell ⟨g,3,n_⟩ (i_ j_ 1)).setCell ⟨g,11,n_⟩ (i_ j_ S.q.next)).heap[o]? =_:=((aH hno).trans (aH hno)).trans h.opn
   exact cx (i:=1) (v:=i_ j_ (S.q.next+1)) h5
 clear hgb bR CT h hx
 go_enter func212,ntmps212
 go_wp2_with fail;refine (wE o g S.q.next _ HC.I.1 HC.I.2.1 HC.I.2.2.1 HC.I.2.2.2 hno n0 n1).mono ?_;rintro e w2 ⟨rfl,rfl⟩;go_wp2
 go_end0
 exact ⟨rfl,HE.I.1,HE.I.2⟩
end
section
variable {α:Type} (afM:α→α→Bool)
def qV (r:Option α) (x:α):Option α:=match r with
 | none=>o_ x
 | some b=>if afM x b then o_ x else o_ b
def oa (l:List α):Option α:=l.foldl (qV afM) n_
theorem qy (l:List α) (x:α):oa afM (l ++ [x])=qV afM (oa afM l) x:=by simp [oa]
theorem EO {r:Option α} {x y:α} (h:qV afM r x=o_ y):y=x∨r=o_ y:=by
 unfold qV at h
 exact ZbM
theorem zZ: ∀ (l:List α) (r:Option α) {y:α},l.foldl (qV afM) r=o_ y→y∈l∨r=o_ y
 | [],_,_,h=> .inr h
 | x :: l,r,y,h=>by
  rcases zZ l (qV afM r x) h with h1 | h1
  ·exact .inl (by simp [h1])
  ·rcases EO afM h1 with h2 | h2
   ·exact .inl (by simp [h2])
   ·exact .inr h2
theorem Fg {l:List α} {y:α} (h:oa afM l=o_ y):y∈l:=(zZ afM l n_ h).elim id (fun e=>by cases e)
theorem C8 (r:Option α) (x:α): ∃ y,qV afM r x=o_ y:=by
 unfold qV
 split
 ·exact ⟨_,rfl⟩
 ·split <;> exact ⟨_,rfl⟩
theorem CZ {l:List α} (h:oa afM l=n_):l= [] :=by
 rcases List.eq_nil_or_concat l with e | ⟨l',x,e⟩
 ·exact e
 ·subst e
  rw [List.concat_eq_append,qy] at h;obtain ⟨y,hy⟩:=C8 afM (oa afM l') x;rw [hy] at h;cases h
def eN (f:α→Bool) (l:List α) (k:Nat) (i:Int):Prop:=match oa afM ((l.take k).filter f) with
 | none=>i= -1
 | some x=> ∃ n:Nat,i=n∧n < k∧l[n]? =o_ x
variable {f:α→Bool} {l:List α} {k:Nat} {i:Int} {x:α}
theorem eN.start (f:α→Bool) (l:List α):eN afM f l 0 (-1):=by simp [eN,oa]
theorem qm (hx:l[k]? =o_ x):(l.take (k+1)).filter f=(l.take k).filter f ++ (if f x then [x] else []):=by
 have h:l.take (k+1)=l.take k ++ [x] :=by rw [List.take_add_one,hx]; rfl
 rw [h,QN];by_cases h:f x=true <;> simp [h]
variable {afM}
theorem eN.skip (h:eN afM f l k i) (hx:l[k]? =o_ x) (hf:f x=false):eN afM f l (k+1) i:=by
 unfold eN at h ⊢;rw [qm hx,hf];simp only [J5,if_false,QO]
 exact ZbY
theorem eN.first (h:eN afM f l k i) (hi:i < 0) (hx:l[k]? =o_ x) (hf:f x=true):eN afM f l (k+1) k:=by
 unfold eN at h ⊢;rw [qm hx,hf];simp only [if_true];rw [qy]
 exact ZbK
theorem eN.got (h:eN afM f l k i) (hi: ¬ i < 0): ∃ (n:Nat) (y:α),i=n∧n < k∧l[n]? =o_ y∧oa afM ((l.take k).filter f)=o_ y:=by
 unfold eN at h
 exact ZbQ
theorem eN.none' (h:eN afM f l k i) (hi:i < 0):oa afM ((l.take k).filter f)=n_:=by
 unfold eN at h
 split at h
 ·assumption
 ·obtain ⟨n,h1,_⟩:=h
  omega
theorem eN.next {n:Nat} {y:α} (hn:n < k) (hy:l[n]? =o_ y) (he:oa afM ((l.take k).filter f)=o_ y) (hx:l[k]? =o_ x) (hf:f x=true):eN afM f l (k+1) (if afM x y then (k:Int) else (n:Int)):=by
 unfold eN;rw [qm hx,hf];simp only [if_true];rw [qy,he];simp only [qV];by_cases ha:afM x y=true
 ·simp only [ha,if_true]
  exact ⟨k,rfl,by omega,hx⟩
 ·simp only [ha,J5,if_false]
  exact ⟨n,rfl,by omega,hy⟩
end
def og (now:Int) (x:aD):Bool:=decide (2≤x.Md) && cv x.Mg 1 now
def l8 (a b:aD):Bool:=decide (a.Mg < b.Mg)
def lF (now:Int) (l:List aD):List aD:=l.filter (og now)
def lZ (now:Int) (l:List aD):Option aD:=oa l8 (lF now l)
def jM (code:Int) (x:aD):aD:= { x with code:=code,Md:=1,pc:=x.pc+1,left:=0,Mg:=0,on:=0,held:=rM }
def jT (code:Int) (x:aD):aD:=if x.pc+1=x.prog.length then j7 (jM code x) else jM code x
def iY (nx code:Int) (x:aD):aD:=if x.pc+1=x.prog.length then j7 (jM code x) else { jM code x with RU:=nx }
def gf (nx:Int) (x:aD):Int:=if x.pc+1=x.prog.length then nx else nx+1
def mL (x:aD):Int:=if x.Md=2 then 0 else 2
def gu (p:aE) (x:aD):aE:= { p with next:=gf p.next x,L8:=ce x.id (iY p.next (mL x)) p.L8 }
def oO (now:Int):Nat→aE→aE
 | 0,p=>p
 | n+1,p=>match lZ now p.L8 with
  | none=>p
  | some x=>oO now n (gu p x)
def gj (now:Int) (p:aE):aE:=oO now (lF now p.L8).length p
theorem rD (nx code:Int) (x:aD):(iY nx code x).id=x.id∧(iY nx code x).prog=x.prog:=by
 unfold iY
 split <;> exact ⟨rfl,rfl⟩
theorem E7 (now nx code:Int) (x:aD):og now (iY nx code x)=false:=by
 unfold iY og
 split <;> simp [j7,jM]
theorem qB {f:aD→aD} {id:Int} : ∀ {l:List aD},(∀ y∈l,y.id≠id)→ce id f l=l
 | [],_=>rfl
 | y :: r,h=>by
  have h1:ce id f r=r:=qB fun z hz=>h z (LB _ hz)
  simp only [ce,Lt] at h1 ⊢;rw [if_neg (h y (by simp)),h1]
theorem Bg {now:Int} {f:aD→aD} {x:aD} (hf:og now (f x)=false) (hx:og now x=true): ∀ {l:List aD},l.Pairwise (fun x y=>x.id < y.id)→x∈l→(lF now (ce x.id f l)).length+1=(lF now l).length
 | [],_,h=>by cases h
 | y :: r,hr,h=>by
  rw [LM] at hr;by_cases e:y=x
  ·subst e
   have h2:ce y.id f (y :: r)=f y :: r:=by
    exact ZbC
   rw [h2];simp [lF,hf,hx]
  ·have hm:x∈r:=by
    rcases Kt.1 h with h1 | h1
    ·exact absurd h1.symm e
    ·exact h1
   have h4:=Bg hf hx hr.2 hm;have h5: ¬ y.id=x.id:=by have:=hr.1 x hm; omega
   have h6:ce x.id f (y :: r)=y :: ce x.id f r:=by simp [ce,h5]
   rw [h6];unfold lF at h4 ⊢;by_cases hy:og now y=true
   ·simp only [LN,hy,if_true,Lg]; omega
   ·simp only [LN,hy,J5,if_false]; exact h4
theorem rW {f:aD→aD} {id:Int} (hf: ∀ x,(f x).id=x.id) {l:List aD} (h:l.Pairwise (fun x y=>x.id < y.id)):(ce id f l).Pairwise (fun x y=>x.id < y.id):=by
 unfold ce;rw [Qm];refine h.imp fun {a b} hab=> ?_
 have e: ∀ z:aD,(if z.id=id then f z else z).id=z.id:=fun z=>by split <;> simp [hf]
 rw [e,e];exact hab
theorem Gs {f:aD→aD} {id:Int} {l:List aD} {y:aD} (h:y∈ce id f l):y∈l∨ ∃ x∈l,y=f x:=by
 obtain ⟨z,hz,e⟩:=Lr.1 h;by_cases h1:z.id=id
 ·exact .inr ⟨z,hz,by rw [← e,if_pos h1]⟩
 ·exact .inl (by rw [if_neg h1] at e; exact e ▸ hz)
structure af9 (now:Int) (p:aE):Prop where
 kW:p.L8.Pairwise (fun x y=>x.id < y.id)
 op: ∀ x∈p.L8,2≤x.Md→0≤x.pc∧x.pc < x.prog.length
 room:1≤p.next∧p.next+(lF now p.L8).length≤1000000000
 low:p.L8.length≤6
theorem af9.mem {now:Int} {p:aE} {x:aD} (h:lZ now p.L8=o_ x):x∈p.L8∧og now x=true:=by
 have h1:=Fg l8 h;exact L2.1 h1
theorem af9.step {now:Int} {p:aE} {x:aD} (h:af9 now p) (hx:lZ now p.L8=o_ x):af9 now (gu p x)∧(lF now (gu p x).L8).length+1=(lF now p.L8).length:=by
 obtain ⟨hm,hd⟩:=af9.mem hx;have h1:=Bg (E7 now p.next (mL x) x) hd h.kW hm;refine ⟨⟨rW (fun y=>(rD _ _ y).1) h.kW,fun y hy hs=> ?_,?_,?_⟩,h1⟩
 ·rcases Gs hy with h2 | ⟨z,_,rfl⟩
  ·exact h.op y h2 hs
  ·unfold iY at hs
   split at hs <;> simp [j7,jM] at hs
 ·have h2:=h.room
  have h3:(gu p x).next≤p.next+1∧p.next≤(gu p x).next:=by
   show gf p.next x≤_∧_≤gf p.next x
   unfold gf
   split <;> omega
  have h4:(lF now (gu p x).L8).length+1=(lF now p.L8).length:=h1;omega
 ·show (ce _ _ p.L8).length≤6
  simpa [ce] using h.low
theorem Co {now:Int} {p:aE} (h:lZ now p.L8=n_):gj now p=p:=by
 unfold gj;rw [CZ l8 h];rfl
theorem vn {now:Int} {p:aE} {x:aD} (h:af9 now p) (hx:lZ now p.L8=o_ x):gj now p=gj now (gu p x):=by
 have h1:=(h.step hx).2;unfold gj;rw [← h1];simp only [oO,hx]
theorem af9.of {now:Int} {p:aE} (h:aQ p) (hn:p.next≤999999980):af9 now p:=by
 have h1:=(db h.L8).2;refine ⟨h1,fun x hx hs=> ?_,?_,h.dl⟩
 ·have h2:=(cK h.L8 x hx).2
  simp only [cH,J7] at h2;have h3:=h2.1.1.2;unfold bO at h3;have h4:dU x=true:=by
   split at h3
   ·omega
   ·split at h3
    ·omega
    ·exact ZaQ
  have h5:=bz.1 h4;omega
 ·have h2:=bz.1 h.next
  have h3:(lF now p.L8).length≤p.L8.length:=Qq _ _;have h4:=h.dl;omega
section
open Go.RowKit
section
variable {α:Type} {num:α→Int} {ok:α→Bool}
end
end
section
open Go.RowKit Go.Maps
attribute [local go_sem ↓] Kc Kd
theorem NI (g:Nat) (x:ao) (w:w_) (h:w.heap[g]? =o_ (c_ (aX x) 100)):k_ J3 192 #[p_ (o_ ⟨g,0,n_⟩)] w fun e w'=>e=r_ (u_ #[])∧w'=w.drew.setRow g #[i_ j_ x.id,i_ j_ x.RX,s_ x.aY x.prog.length x.bH,i_ j_ 0,i_ j_ 0,i_ j_ 0,i_ j_ 0,i_ j_ 0,t_ ⟨#[]⟩,t_ x.got,i_ j_ x.code,i_ j_ 0] :=by
 have H:Hid (_):=h;obtain ⟨d0,d1,d2,d3,d4,d5,d6,d7,d8,d9,tH,tS⟩:=bo h;clear h d3 d4 d5 d6 d7 d8 tS
 go_enter func192,ntmps192
 go_wp2_with fail;refine eD (fun w'=>w'=w.drew) 23 ZcR rfl ?_
 iterate 23 (refine ly 24 (v:= ?_) (o_ _) rfl rfl ZcR (fun _ _ _ h=>h) (bV ZcR ?_) ?_; rotate_left; (intro w0 hS0; subst hS0; go_simp; try with_reducible rfl); simp only [pt,sb,s0,s1])
 refine fL rfl ZcR ZcR ZcR ?_;intro w1 cm;subst cm;refine qd _ _ _ rfl g _ _ #[i_ j_ x.id,i_ j_ x.RX,s_ x.aY x.prog.length x.bH,i_ j_ 0,i_ j_ 0,i_ j_ 0,i_ j_ 0,i_ j_ 0,t_ ⟨#[]⟩,t_ x.got,i_ j_ x.code,i_ j_ 0] rfl rfl H.I ZcR rfl ZcR ?_
 go_end0
 exact ⟨rfl,rfl⟩
def Qz (a b:aD):Bool:=if a.Mg=b.Mg then decide (a.id < b.id) else decide (a.Mg < b.Mg)
def RY (a b:ao × Nat):Bool:=Qz a.1.toaD b.1.toaD
def Qx (now:Int) (l:List (ao × Nat)):List (ao × Nat):=l.filter fun p=>og now p.1.toaD
theorem RZ {now:Int} {x:aD} :og now x=true↔2≤x.Md∧1≤x.Mg∧x.Mg≤now:=by
 unfold og;rw [J7,decide_eq_true_eq,bz]
theorem R2 (now:Int) (l:List (ao × Nat)) (p:ao × Nat):Qx now (l ++ [p])=Qx now l ++ (if og now p.1.toaD=true then [p] else []):=by
 unfold Qx;rw [QN];by_cases h:og now p.1.toaD=true <;> simp [h]
theorem Sn {α:Type} (afM:α→α→Bool) {l:List α} {k:Nat} (h:0 < k) (hk:k≤l.length): ∃ y,oa afM (l.take k)=o_ y∧y∈l:=by
 cases hb:oa afM (l.take k) with
 | none=>
  have h1:=congrArg List.length (CZ afM hb);rw [Lk,K4] at h1;omega
 | some y=>exact ⟨y,rfl,RK (Fg afM hb)⟩
theorem Sq {α β:Type} {afM:β→β→Bool} (f:α→β) (l:List α):oa afM (l.map f)=(oa (fun x y=>afM (f x) (f y)) l).map f:=by
 have key: ∀ (l:List α) (r:Option α),(l.map f).foldl (qV afM) (r.map f)=(l.foldl (qV fun x y=>afM (f x) (f y)) r).map f:=by
  intro l
  induction l with
  | nil=>intro r; rfl
  | cons x l ih=>
   intro r;simp only [List.foldl_cons,Lt,← ih]
   congr 1
   cases r with
   | none=>rfl
   | some b=>
    simp only [qV,J9]
    split <;> rfl
 exact key l n_
theorem fold_congr {α:Type} {afM ah':α→α→Bool} : ∀ (l l0:List α) (r:Option α),(∀ b,r=o_ b→b∈l0)→(∀ b∈l0,∀ x∈l,afM x b=ah' x b)→l.Pairwise (fun b x=>afM x b=ah' x b)→l.foldl (qV afM) r=l.foldl (qV ah') r
 | [],_,_,_,_,_=>rfl
 | x :: l,l0,r,hr,h1,h2=>by
  rw [LM] at h2;have e:qV afM r x=qV ah' r x:=by
   cases r with
   | none=>rfl
   | some b=>simp only [qV,h1 b (hr b rfl) x (by simp)]
  simp only [List.foldl_cons,e];refine fold_congr l (x :: l0) _ (fun b hb=> ?_) (fun b hb y hy=> ?_) h2.2
  ·rcases EO ah' hb with h3 | h3
   ·simp [h3]
   ·exact LB _ (hr b h3)
  ·rcases Kt.1 hb with rfl | hb
   ·exact h2.1 y hy
   ·exact h1 b hb y Zdr
theorem Sy {now:Int} {lp:List (ao × Nat)} (h:(lp.map fun p=>p.1.toaD).Pairwise (fun x y=>x.id < y.id)):(oa RY (Qx now lp)).map (fun p=>p.1.toaD)=lZ now (lp.map fun p=>p.1.toaD):=by
 have e1:lF now (lp.map fun p=>p.1.toaD)=(Qx now lp).map fun p=>p.1.toaD:=by
  unfold lF Qx;rw [List.filter_map];rfl
 unfold lZ;rw [e1];have e2:oa l8 ((Qx now lp).map fun p=>p.1.toaD)=oa Qz ((Qx now lp).map fun p=>p.1.toaD):=by
  refine fold_congr _ [] n_ (fun b hb=>by cases hb) (fun b hb=>by cases hb) ?_;have h2:((Qx now lp).map fun p=>p.1.toaD).Pairwise (fun x y=>x.id < y.id):=by
   rw [← e1];exact h.sublist List.filter_sublist
  refine h2.imp fun {b x} lW=> ?_
  unfold l8 Qz;by_cases hw:x.Mg=b.Mg
  ·rw [if_pos hw,decide_eq_false (by omega),decide_eq_false (by omega)]
  ·rw [if_neg hw]
 rw [e2,Sq];rfl
theorem R9 (A B:Nat) (a b:ao) (w:w_) (ha:w.heap[A]? =o_ (c_ (aX a) 100)) (hb:w.heap[B]? =o_ (c_ (aX b) 100)):
  k_ J3 124 #[p_ (o_ ⟨A,0,n_⟩),p_ (o_ ⟨B,0,n_⟩)] w fun e w'=>e=r_ (b_ (Qz a.toaD b.toaD))∧B_ w.heap.size w w':=by
 obtain ⟨a0,-,-,-,-,-,a6,-⟩:=bo ha;obtain ⟨b0,-,-,-,-,-,b6,-⟩:=bo hb;clear ha hb
 go_enter func124,ntmps124
 by_cases hp:a.Mg=b.Mg
 ·have e1:(a.Mg != b.Mg)=false:=by simp [hp]
  by_cases hs:a.id < b.id
  ·have ds:decide (a.id < b.id)=true:=decide_eq_true hs
   have HV:Hid (Qz a.toaD b.toaD=true):=by show Qz _ _=_; unfold Qz; rw [if_pos hp]; exact ds
   exact ab
  ·have ds:decide (a.id < b.id)=false:=decide_eq_false hs
   have HV:Hid (Qz a.toaD b.toaD=false):=by show Qz _ _=_; unfold Qz; rw [if_pos hp]; exact ds
   exact ab
 ·have e1:(a.Mg != b.Mg)=true:=by simp [hp]
  by_cases hs:a.Mg < b.Mg
  ·have ds:decide (a.Mg < b.Mg)=true:=decide_eq_true hs
   have HV:Hid (Qz a.toaD b.toaD=true):=by show Qz _ _=_; unfold Qz; rw [if_neg hp]; exact ds
   exact ab
  ·have ds:decide (a.Mg < b.Mg)=false:=decide_eq_false hs
   have HV:Hid (Qz a.toaD b.toaD=false):=by show Qz _ _=_; unfold Qz; rw [if_neg hp]; exact ds
   exact ab
theorem Sd (a:Option d_) (l:List (ao × Nat)) (cap:Nat) (w:w_) (hl:l.length≤1048576) (hr:Row w a (l.map fun p=>dt p.2)) (hb: ∀ p∈l,w.heap[p.2]? =o_ (c_ (aX p.1) 100)):
  k_ J3 122 #[s_ a l.length cap,.func (.func 124) #[] #[]] w fun e w'=>e=r_ (u_ #[qz ((oa RY l).map (·.2)),b_ (decide (0 < l.length))])∧B_ w.heap.size w w':=by
 have H:Hid (Row w a (l.map fun p=>dt p.2)∧ ∀ p∈l,w.heap[p.2]? =o_ (c_ (aX p.1) 100)):=⟨hr,hb⟩
 clear hr hb
 go_enter func122,ntmps122
 go_wp2_with fail
 go_loopw [6,11] (fun b i wr=> ∃ (k:Nat) (r:Option (ao × Nat)),k≤l.length∧i=i_ j_ k∧b=qz (r.map (·.2))∧Hid (r=oa RY (l.take k)∧B_ w.heap.size w wr)) (fun _ i _=>l.length - (intOf i).toNat)
 case atStart=>exact ⟨0,n_,Ky _,rfl,rfl,⟨by simp [oa],Kp _ _⟩⟩
 case round=>
  obtain ⟨k,r,hk,rfl,rfl,HA⟩:=hrel;by_cases hlt:k < l.length
  ·have i0:(0:Int)≤(k:Int):=by omega
   have i1:(k:Int) < (l.length:Int):=by omega
   obtain ⟨p,hp⟩: ∃ p,l[k]? =o_ p:=⟨_,Kz hlt⟩
   obtain ⟨g,ha,hc⟩:=(H.I.1.below HA.I.2) k (dt p.2) Zdo;subst ha;unfold dt at hc;have HP:Hid (l[k]? =o_ p∧p∈l):=⟨hp,KA hp⟩
   clear hp;by_cases hk0:k=0
   ·have e0:((k:Int) == 0)=true:=by simp [hk0]
    have HS:Hid (o_ p=oa RY (l.take (k+1))):=by show _=_; rw [cj HP.I.1,qy,hk0]; rfl
    exact Zbl
   ·have e0:((k:Int) == 0)=false:=by simp [hk0]
    obtain ⟨y,hy,hym⟩:=Sn RY (l:=l) (by omega:0 < k) hk;have hry:r=o_ y:=HA.I.1.trans hy;subst hry;have HQ:Hid (oa RY (l.take k)=o_ y∧y∈l):=⟨hy,hym⟩
    clear hk0 hy hym;simp only [qz,dt,J9];go_wp2_with fail;refine (R9 p.2 y.2 p.1 y.1 wr ((HA.I.2.block _ (J2.1 (H.I.2 p HP.I.2)).1).trans (H.I.2 p HP.I.2)) ((HA.I.2.block _ (J2.1 (H.I.2 y HQ.I.2)).1).trans (H.I.2 y HQ.I.2))).mono ?_;rintro e w4 ⟨rfl,hb4⟩;have HB4:Hid (B_ w.heap.size w w4):=HA.I.2.trans (hb4.mono HA.I.2.size);clear hb4;cases FT:Qz p.1.toaD y.1.toaD with
    | true=>
     have HS:Hid (o_ p=oa RY (l.take (k+1))):=by show _=_; rw [cj HP.I.1,qy,HQ.I.1]; simp [qV,RY,FT]
     exact Zbm
    | false=>
     have HS:Hid (o_ y=oa RY (l.take (k+1))):=by show _=_; rw [cj HP.I.1,qy,HQ.I.1]; simp [qV,RY,FT]
     exact Zbn
  ·have i1: ¬ (k:Int) < (l.length:Int):=by omega
   have HE:Hid (r=oa RY l):=by have h5:=HA.I.1; rwa [KF (by omega)] at h5
   go_wp2;go_ret2;refine ⟨?_,HA.I.2⟩;rw [HE.I];simp
theorem Sz (o:Nat) (q:ol) (lp:List (ao × Nat)) (now:Int) (base:Nat) (w:w_) (hop:fa w o q) (hsh:Shelf aX (fun x:ao=>x.id) 100 w base q.bp lp) (hl:lp.length≤1048576) (hwf: ∀ p∈RW (fun x:ao=>x.id) lp,(Lit.int j_ p.1).wf=true):
  k_ J3 123 #[p_ (o_ ⟨o,0,n_⟩),i_ j_ now] w fun e w'=>(∃ a cap,e=r_ (s_ a (Qx now lp).length cap)∧Row w' a ((Qx now lp).map fun p=>dt p.2))∧B_ w.heap.size w w':=by
 obtain ⟨i0,hi,e0⟩:=Kw.1 sQ;simp only [Kx] at e0;have HI:Hid (Tryz.prog.info? 161=o_ i0∧i0.zero=o_ (p_ n_)∧i0.size=1∧i0.bytes=8):=⟨hi,e0⟩
 have H:Hid (Shelf aX (fun x:ao=>x.id) 100 w base q.bp lp∧ ∀ p∈RW (fun x:ao=>x.id) lp,(Lit.int j_ p.1).wf=true):=⟨hsh,hwf⟩
 have c2:w.cell? ⟨o,2,n_⟩=o_ (i_ j_ 6):=hop.cell 2;have c3:w.cell? ⟨o,3,n_⟩=o_ (.map (o_ q.bp)):=hop.cell 3;have HK:Hid ((RW (fun x:ao=>x.id) lp).length=lp.length):=bZ lp;clear hop hsh hwf hi e0
 go_enter func123,ntmps123
 go_wp2_with fail;refine (mq 6 q.bp (RW (fun x:ao=>x.id) lp) w H.I.1.map Zc4 H.I.2).mono ?_;rintro e w2 ⟨a,cap,rfl,hown,hb2⟩;obtain ⟨a',cap',hv,hrow⟩:=cr hown;cases hv;have HR:Hid (Row w2 a ((RW (fun x:ao=>x.id) lp).map fun p=>dt p.2)):=hrow;have HO:Hid (Shelf aX (fun x:ao=>x.id) 100 w2 base q.bp lp∧B_ w.heap.size w w2):=⟨H.I.1.below hb2,hb2⟩
 rw [HK.I];clear hown hrow hb2 c2 c3;go_wp2_with fail
 go_loopw [5,14] (fun l i wr=> ∃ (k n:Nat),k≤lp.length∧n≤k∧i=i_ j_ k∧ ∃ a' cap',l=s_ a' n cap'∧Hid (n=(Qx now (lp.take k)).length∧wr.ownsRow w2.heap.size 161 1 (s_ a' n cap') n ((Qx now (lp.take k)).map fun p=>dt p.2)∧B_ w2.heap.size w2 wr)) (fun _ i _=>lp.length - (intOf i).toNat)
 case atStart=>exact ⟨0,0,Ky _,Ki _,rfl,n_,0,rfl,⟨rfl,World.ownsRow_nil _ _ _ _,Kp _ _⟩⟩
 case round=>
  obtain ⟨k,n,hk,hn,rfl,a',cap',rfl,HA⟩:=hrel;by_cases hlt:k < lp.length
  ·have qE:(0:Int)≤(k:Int):=by omega
   have i1:(k:Int) < (lp.length:Int):=by omega
   obtain ⟨p,hp⟩: ∃ p,lp[k]? =o_ p:=⟨_,Kz hlt⟩
   obtain ⟨g,ha,hc⟩:=(HR.I.below HA.I.2.2) k (dt p.2) Zc9;subst ha;unfold dt at hc;have HP:Hid (lp[k]? =o_ p):=hp;have lW:wr.heap[p.2]? =o_ (c_ (aX p.1) 100):=(HO.I.1.below HA.I.2.2).box p (KA hp);obtain ⟨-,-,-,s3,-,-,s6,-⟩:=bo lW;have kT:=HA.I.2.2.size;clear hp lW;by_cases h1:2≤p.1.Md;rotate_left
   ·skip
    exact ws
   by_cases h2:1≤p.1.Mg;rotate_left
   ·skip
    exact ws
   by_cases h3:p.1.Mg≤now;rotate_left
   ·skip
    exact ws
   have SC:Hid ((Qx now (lp.take (k+1)))=(Qx now (lp.take k)) ++ [p]):=by show _=_; rw [cj HP.I,R2,if_pos (by rw [RZ]; exact ⟨h1,h2,h3⟩)]
   go_wp2_with (at_builtin; refine wpList_append_own_at _ rfl _ _ 195 rfl w2.heap.size 161 i0 (p_ n_) 1 8 underlying195 HI.I.1 HI.I.2.1 HI.I.2.2.1 HI.I.2.2.2 rfl (by decide) (s_ a' n cap') n ((Qx now (lp.take k)).map fun p=>dt p.2) rfl (HA.I.2.1.alloc _) ⟨wr.heap.size,0,n_⟩ 1 1 [p_ (o_ ⟨p.2,0,n_⟩)] (by rfl) rfl (World.news_of_block (cs:= #[p_ (o_ ⟨p.2,0,n_⟩)]) (t:=161) (fr:=(0,0)) (Kj wr _)) Zc5 ZcV (by omega) ZcS ?_; intro v' w5 hown' hgrow hnil jV; obtain ⟨a5,im,rfl,-⟩:=cr hown'; have HN:Hid (n+1=(Qx now (lp.take (k+1))).length∧w5.ownsRow w2.heap.size 161 1 (s_ a5 (n+1) im) (n+1) ((Qx now (lp.take (k+1))).map fun p=>dt p.2)∧B_ w2.heap.size w2 w5):=⟨by rw [SC.I,Lf,← HA.I.1]; rfl,by rw [SC.I,List.map_append]; exact hown',(HA.I.2.2.alloc kT _).grown hgrow ZcS (fun q hq=>(HA.I.2.1.lt q hq).1)⟩; clear hown' hgrow hnil jV);exact Zay
  ·have i1: ¬ (k:Int) < (lp.length:Int):=by omega
   have HE:Hid (n=(Qx now lp).length∧Row wr a' ((Qx now lp).map fun p=>dt p.2)):=by
    have h5:=HA.I;rw [KF (by omega)] at h5;exact Zbp
   exact Zbx
end
def jP {α:Type} (num:α→Int) (id:Int) (f:α→α) (l:List α):List α:=l.map fun x=>if num x=id then f x else x
def cg {α:Type} (num:α→Int) (id:Int) (l:List α):Option α:=l.find? fun x=>decide (num x=id)
def ie (st on:Int) (x:aD):Bool:=decide (x.Md=st) && decide (x.on=on)
def jl (st on:Int) (l:List aD):Option aD:=jo (l.filter (ie st on))
def bu (code id:Int) (p:aE):aE:= { p with L8:=ce id (jT code) p.L8 }
def lG (t:ByteArray) (x:aD):aD:= { x with got:=t }
def ez (t:ByteArray) (id:Int) (p:aE):aE:= { p with L8:=ce id (lG t) p.L8 }
def gF (f:aD→aD) (p:aE) (x:aD):aE:= { p with next:=gf p.next x,L8:=ce x.id (fun y=>iY p.next 0 (f y)) p.L8 }
def gW (f:aD→aD) (st on:Int):Nat→aE→aE
 | 0,p=>p
 | n+1,p=>match jl st on p.L8 with
  | none=>p
  | some x=>gW f st on n (gF f p x)
def ff (f:aD→aD) (st on:Int) (p:aE):aE:=gW f st on (p.L8.filter (ie st on)).length p
def zb (nx st on:Int) (held:ByteArray) (Mg:Int) (y:aD):aD:= { y with Md:=st,Mg:=Mg,on:=on,held:=held,RU:=nx }
def kC (st on:Int) (held:ByteArray) (Mg id:Int) (p:aE):aE:= { p with next:=p.next+1,L8:=ce id (zb p.next st on held Mg) p.L8 }
def kZ (now m:Int):Int:=if 0≤m then now+m else -1
def mX (st:Int) (o:dN) (now id:Int) (p:aE):aE:=if o.2.2.1=0 then bu 1 id p else kC st o.2.1 o.2.2.2 (kZ now o.2.2.1) id p
def nZ (id d:Int) (p:aE):aE:= { p with aj:=jP (·.id) id (fun y=> { y with n:=y.n+d }) p.aj }
def gL (id:Int) (b:Bool) (p:aE):aE:= { p with L9:=jP (·.id) id (fun y=> { y with up:=b }) p.L9 }
def ib (id:Int) (b:Bool) (t:ByteArray) (p:aE):aE:= { p with ag:=jP (·.id) id (fun y=> { y with shown:=b,text:=t }) p.ag }
def cV (id:Int) (l:List ByteArray) (p:aE):aE:= { p with ae:=jP (·.id) id (fun y=> { y with Ma:=l }) p.ae }
def gU (id:Int) (l:List ByteArray) (p:aE):aE:= { p with ai:=jP (·.id) id (fun y=> { y with Ma:=l }) p.ai }
def mh (o:dN) (now id:Int) (p:aE):aE:=match cg (·.id) o.2.1 p.aj with
 | none=>bu 3 id p
 | some s=>if s.n=0 then mX 3 o now id p else bu 0 id (nZ o.2.1 (-1) p)
def gJ (o:dN) (id:Int) (p:aE):aE:=match cg (·.id) o.2.1 p.aj with
 | none=>bu 3 id p
 | some s=>match jl 3 o.2.1 p.L8 with
  | some y=>bu 0 id (gF (fun y=>y) p y)
  | none=>if s.n=s.max then bu 1 id p else bu 0 id (nZ o.2.1 1 p)
def dE (o:dN) (now id:Int) (p:aE):aE:=match cg (·.id) o.2.1 p.L9 with
 | none=>bu 3 id p
 | some e=>if o.1=5 then bu 0 id (ff (fun y=>y) 4 o.2.1 (gL o.2.1 true p))
  else if o.1=6 then bu 0 id (gL o.2.1 false p)
  else if e.up then bu 0 id p else mX 4 o now id p
def lc (o:dN) (now id:Int) (p:aE):aE:=match cg (·.id) o.2.1 p.ae with
 | none=>bu 3 id p
 | some b=>match jl 6 o.2.1 p.L8 with
  | some y=>bu 0 id (gF (lG o.2.2.2) p y)
  | none=>if (b.Ma.length:Int)=b.max then mX 5 o now id p else bu 0 id (cV o.2.1 (b.Ma ++ [o.2.2.2]) p)
def ka (o:dN) (now id:Int) (p:aE):aE:=match cg (·.id) o.2.1 p.ae with
 | none=>bu 3 id p
 | some b=>match b.Ma with
  | [] =>mX 6 o now id (ez rM id p)
  | t :: r=>match jl 5 o.2.1 (ez t id p).L8 with
   | none=>bu 0 id (cV o.2.1 r (ez t id p))
   | some y=>bu 0 id (gF (fun y=>y) (cV o.2.1 (r ++ [y.held]) (ez t id p)) y)
def dC (o:dN) (now id:Int) (p:aE):aE:=match cg (·.id) o.2.1 p.ag with
 | none=>bu 3 id p
 | some b=>if o.1=10 then bu 0 id (ff (lG o.2.2.2) 7 o.2.1 (ib o.2.1 true o.2.2.2 p))
  else if o.1=11 then bu 0 id (ib o.2.1 false rM p)
  else if b.shown then bu 0 id (ez b.text id p) else mX 7 o now id (ez b.text id p)
def ig (o:dN) (id:Int) (p:aE):aE:=match cg (·.id) o.2.1 p.ai with
 | none=>bu 3 id p
 | some q=>if q.I=false then bu 3 id p
  else if q.Mf=false then bu 0 id (gU o.2.1 [o.2.2.2] p)
  else if (q.Ma.length:Int)=q.max then bu 1 id p
  else bu 0 id (gU o.2.1 (q.Ma ++ [o.2.2.2]) p)
def gC (o:dN) (id:Int) (p:aE):aE:=match cg (·.id) o.2.1 p.ai with
 | none=>bu 3 id p
 | some q=>if q.I then bu 3 id p else match q.Ma with
  | [] =>bu 1 id (ez rM id p)
  | t :: r=>bu 0 id (if q.Mf then gU o.2.1 r (ez t id p) else ez t id p)
def py (id:Int) (p:aE):aE:= { p with next:=p.next+1,L8:=ce id (fun y=> { y with Md:=1,RU:=p.next }) p.L8 }
def ot (id:Int) (p:aE):aE:= { p with L8:=ce id j7 p.L8 }
def jU (o:dN) (id:Int) (p:aE):aE:=match cg (·.id) o.2.1 p.L8 with
 | none=>bu 3 id p
 | some y=>if y.Md=0 then bu 0 id (py o.2.1 p) else bu 1 id p
def lg (o:dN) (id:Int) (p:aE):aE:=match cg (·.id) o.2.1 p.L8 with
 | none=>bu 3 id p
 | some y=>if y.Md=0 then bu 1 id p else if o.2.1=id then ot id p else bu 0 id (ot o.2.1 p)
def GY (x:aD) (o:dN) (p:aE):aE:=
 if (if x.left=0 then o.2.1 else x.left)=1 then bu 0 x.id p
 else { p with L8:=ce x.id (fun y=> { y with left:=(if x.left=0 then o.2.1 else x.left) - 1 }) p.L8 }
def lX (now:Int) (x:aD) (o:dN) (p:aE):aE:=
 if o.1=1 then GY x o p
 else if o.1=2 then kC 2 0 rM (now+o.2.1) x.id p
 else if o.1=3 then mh o now x.id p
 else if o.1=4 then gJ o x.id p
 else if o.1=5∨o.1=6∨o.1=7 then dE o now x.id p
 else if o.1=8 then lc o now x.id p
 else if o.1=9 then ka o now x.id p
 else if o.1=10∨o.1=11∨o.1=12 then dC o now x.id p
 else if o.1=13 then ig o x.id p
 else if o.1=14 then gC o x.id p
 else if o.1=15 then jU o x.id p
 else if o.1=16 then lg o x.id p
 else { p with L8:=ce x.id (fun y=> { y with pc:=0 }) p.L8 }
def mS (now:Int) (p:aE):aE:=match jl 1 0 (gj now p).L8 with
 | none=>gj now p
 | some x=>lX now x (opAt x) (gj now p)
def hZ (p:aE) (now:Int):Option aE:=if bK p && cv now 0 1000000000 && decide (p.next≤999999980) then o_ (mS now p) else n_
section
variable {α:Type} {num:α→Int}
theorem jF {l:List α} {f:α→α} {id:Int} {n:Nat} {y:α} (hr:l.Pairwise (fun x y=>num x < num y)) (hn:l[n]? =o_ y) (hy:num y=id):jP num id f l=l.set n (f y):=by
 induction l generalizing n with
 | nil=>simp at hn
 | cons x r ih=>
  obtain ⟨h1,h2⟩:=LM.1 hr;cases n with
  | zero=>
   simp only [List.getElem?_cons_zero,LF] at hn;subst hn;have e:jP num id f r=r:=by
    unfold jP
    conv=>rhs; rw [← List.map_id r]
    refine Lw fun z hz=> ?_
    rw [if_neg (by have:=h1 z hz; omega)];rfl
   simp only [List.set_cons_zero]
   show (if num x=id then f x else x) :: jP num id f r=_
   rw [if_pos hy,e]
  | succ n=>
   simp only [List.getElem?_cons_succ] at hn;have hlt:=h1 y (KA hn);simp only [List.set_cons_succ]
   show (if num x=id then f x else x) :: jP num id f r=_
   rw [if_neg (by omega),ih h2 hn]
theorem ef (id:Int): ∀ (l:List α) (k:Nat),(place (l.map num) id k= -1∧cg num id l=n_)∨ ∃ n x,place (l.map num) id k=((k+n:Nat):Int)∧l[n]? =o_ x∧num x=id∧cg num id l=o_ x
 | [],k=> .inl ⟨rfl,rfl⟩
 | x :: r,k=>by
  unfold cg;by_cases h:num x=id
  ·refine .inr ⟨0,x,?_,rfl,h,by simp [h]⟩
   simp [place,h]
  ·rcases ef id r (k+1) with ⟨h1,h2⟩ | ⟨n,y,h1,h2,h4,h3⟩
   ·exact .inl ⟨by simp only [Lt,place]; rw [if_neg h]; exact h1,by simp only [LL,h,decide_false]; exact h2⟩
   ·refine .inr ⟨n+1,y,?_,h2,h4,by simp only [LL,h,decide_false]; exact h3⟩
    simp only [Lt,place];rw [if_neg h,h1];omega
theorem ks {id:Int} {l:List α} {x:α} (h:cg num id l=o_ x):x∈l∧num x=id:=by
 have h1:=List.find?_some h;exact ⟨List.mem_of_find?_eq_some h,by simpa using h1⟩
end
theorem xw: ∀ (l:List aD) (r:Option aD) {y:aD},l.foldl iy r=o_ y→y∈l∨r=o_ y
 | [],_,_,h=> .inr h
 | x :: l,r,y,h=>by
  rcases xw l (iy r x) h with h1 | h1
  ·exact .inl (by simp [h1])
  ·rcases zp h1 with h2 | h2
   ·exact .inl (by simp [h2])
   ·exact .inr h2
theorem ft {st on:Int} {l:List aD} {x:aD} (h:jl st on l=o_ x):x∈l∧x.Md=st∧x.on=on:=by
 have h1:x∈l.filter (ie st on):=(xw _ n_ h).elim (fun e=>e) (fun e=>by cases e);obtain ⟨h2,h3⟩:=L2.1 h1;unfold ie at h3;simp only [J7,decide_eq_true_eq] at h3;exact ⟨h2,h3⟩
theorem Dt {st on:Int} {l:List aD} (h:jl st on l=n_):l.filter (ie st on)= [] :=by
 unfold jl jo at h;rcases List.eq_nil_or_concat (l.filter (ie st on)) with e | ⟨l',x,e⟩
 ·exact e
 ·rw [e,List.concat_eq_append,List.foldl_append] at h
  simp only [List.foldl_cons,List.foldl_nil] at h;obtain ⟨y,hy⟩:=pN (l'.foldl iy n_) x;rw [hy] at h;cases h
theorem pT {n:Int} (h1: -2147483648≤n) (h2:n≤2147483647):(Lit.int j_ n).wf=true:=by
 have e1:IntKind.min j_≤ -2147483648:=by decide
 have e2:2147483647≤IntKind.max j_:=by decide
 simp only [Lit.wf,J7,decide_eq_true_eq];omega
section
open Go.RowKit Go.Maps
theorem cJ.lt {w:w_} {base o:Nat} {S:aZ} (h:cJ w base o S): ∀ c∈o :: (S.boxes ++ S.kids),c < w.heap.size:=fun c hc=>by
 simp only [aZ.boxes,aZ.kids,Kt,Kg] at hc;rcases hc with rfl | ((hc | hc | hc | hc | hc | hc) | hc | hc | hc)
 ·exact (J2.1 h.opn).1
 ·exact h.L8.lt c (Kt.2 hc)
 ·exact h.aj.lt c (Kt.2 hc)
 ·exact h.L9.lt c (Kt.2 hc)
 ·exact h.ag.lt c (Kt.2 hc)
 ·exact h.ae.lt c (Kt.2 hc)
 ·exact h.ai.lt c (Kt.2 hc)
 ·obtain ⟨r,hr,hk⟩:=Lq.1 hc
  exact ((h.eI r hr).lt hk).2
 ·obtain ⟨r,hr,hk⟩:=Lq.1 hc
  exact ((h.eE r hr).lt hk).2
 ·obtain ⟨r,hr,hk⟩:=Lq.1 hc
  exact ((h.eR r hr).lt hk).2
end
theorem sr {α:Type} {num:α→Int} {ok:α→Bool} : ∀ {l:List α} {last:Int},(∀ x∈l,cv (num x) 1 1000=true∧ok x=true)→(∀ x∈l,last < num x)→l.Pairwise (fun x y=>num x < num y)→aw num ok last l=true
 | [],_,_,_,_=>rfl
 | x :: r,last,h1,h2,h3=>by
  obtain ⟨h4,h5⟩:=LM.1 h3;simp only [aw,J7,decide_eq_true_eq];exact ⟨⟨⟨(h1 x (by simp)).1,h2 x (by simp)⟩,(h1 x (by simp)).2⟩,sr (fun y hy=>h1 y Zdr) h4 h5⟩
theorem nj {α:Type} {num:α→Int} {ok:α→Bool} {l:List α} {last id:Int} {f:α→α} (h:aw num ok last l=true) (hf: ∀ x,num (f x)=num x) (ho: ∀ x∈l,num x=id→ok (f x)=true):aw num ok last (jP num id f l)=true:=by
 obtain ⟨h1,h2⟩:=db h;have h3:=cK h;have e: ∀ z:α,num (if num z=id then f z else z)=num z:=fun z=>by split <;> simp [hf]
 refine sr (fun y hy=> ?_) (fun y hy=> ?_) ?_
 ·obtain ⟨z,hz,rfl⟩:=Lr.1 hy
  refine ⟨by rw [e]; exact (h3 z hz).1,?_⟩
  split
  ·exact ho z hz ‹_›
  ·exact (h3 z hz).2
 ·obtain ⟨z,hz,rfl⟩:=Lr.1 hy
  rw [e]; exact h1 z hz
 ·unfold jP
  rw [Qm];exact h2.imp fun {a b} hab=>by rw [e,e]; exact hab
theorem vN {α:Type} {num:α→Int} {id:Int} {f:α→α} (hf: ∀ x,num (f x)=num x) (l:List α):(jP num id f l).map num=l.map num:=by
 unfold jP;rw [Lv];refine Lw fun z _=> ?_
 simp only [Ls]
 split <;> simp [hf]
section
variable {p:aE}
theorem aQ.proc (h:aQ p) {x:aD} (hx:x∈p.L8):cv x.id 1 1000=true∧cH x=true∧fF p.next x=true∧dG p x=true:=by
 obtain ⟨h1,h2⟩:=cK h.L8 x hx;simp only [J7] at h2;exact ⟨h1,h2.1.1,h2.1.2,h2.2⟩
theorem aQ.kW (h:aQ p):p.L8.Pairwise (fun x y=>x.id < y.id):=(db h.L8).2
theorem aQ.ju {id nx:Int} {f:aD→aD} (h:aQ p) (hid: ∀ x,(f x).id=x.id) (hn:p.next≤nx∧nx≤1000000000)
  (hx: ∀ x∈p.L8,x.id=id→cH (f x)=true∧fF nx (f x)=true∧dG p (f x)=true∧((f x).RU=x.RU∨(f x).RU=0∨(f x).RU=p.next)):aQ { p with next:=nx,L8:=ce id f p.L8 } :=by
 have hnx:=bz.1 h.next;have e: ∀ z:aD,(if z.id=id then f z else z).id=z.id:=fun z=>by split <;> simp [hid]
 refine ⟨h.id,(show cv nx 1 1000000000=true from eB (by omega) hn.2),by simpa [ce] using h.dl,h.fx,h.cD,h.cC,h.cb,h.dH,?_,h.aj,h.L9,h.ag,h.ae,h.ai,?_⟩
 ·obtain ⟨h1,h2⟩:=db h.L8
  refine sr (fun y hy=> ?_) (fun y hy=> ?_) ?_
  ·obtain ⟨z,hz,rfl⟩:=Lr.1 hy
   refine ⟨by rw [e]; exact (h.proc hz).1,?_⟩;simp only [J7]
   split
   ·rename_i hi
    obtain ⟨k1,k2,k3,-⟩:=hx z hz hi;exact ⟨⟨k1,k2⟩,k3⟩
   ·obtain ⟨-,k1,k2,k3⟩:=h.proc hz
    refine ⟨⟨k1,?_⟩,k3⟩;unfold fF at k2 ⊢;simp only [Kb,decide_eq_true_eq] at k2 ⊢;rcases k2 with k2 | k2
    ·exact .inl k2
    ·have:=bz.1 k2; exact .inr (eB (by omega) (by show _≤nx - 1; omega))
  ·obtain ⟨z,hz,rfl⟩:=Lr.1 hy
   rw [e]; exact h1 z hz
  ·show (ce id f p.L8).Pairwise _
   exact rW hid h2
 ·have hs: ∀ z∈p.L8,z.RU < p.next∧0≤z.RU:=fun z hz=>by
   obtain ⟨-,k1,k2,-⟩:=h.proc hz;by_cases h0:z.Md=0
   ·have:=kx k1 h0; omega
   ·unfold fF at k2
    simp only [Kb,decide_eq_true_eq,h0,false_or] at k2
    have:=bz.1 k2; omega
  have ha:=h.apart;unfold rb at ha ⊢
  show ((ce id f p.L8).map (·.RU)).Pairwise _
  unfold ce;rw [Lv,Qm];rw [Qm] at ha;refine List.Pairwise.imp_of_mem (fun {a b} ham wU hab=> ?_) (ha.and h.kW);obtain ⟨h1,h2⟩:=hab;have sa:=hs a ham;have sb:=hs b wU;simp only [Ls];by_cases ea:a.id=id
  ·rw [if_pos ea,if_neg (by omega)]
   obtain ⟨-,-,-,k⟩:=hx a ham ea;rintro ⟨u,v⟩;rcases k with k | k | k
   ·rw [k] at u; exact h1 ⟨u,v⟩
   ·omega
   ·omega
  ·rw [if_neg ea]
   by_cases eb:b.id=id
   ·rw [if_pos eb]
    obtain ⟨-,-,-,k⟩:=hx b wU eb;rintro ⟨u,v⟩;rcases k with k | k | k
    ·rw [k] at u v; exact h1 ⟨u,v⟩
    ·omega
    ·omega
   ·rw [if_neg eb]; exact h1
theorem aQ.GD {l:List bD} (h:aQ p) (hi:l.map (·.id)=p.aj.map (·.id)) (hr:aw (·.id) gw 0 l=true):aQ { p with aj:=l } :=by
 have hw:dG { p with aj:=l } =dG p:=by funext x; simp only [dG,hasB,hi]
 have hl:l.length=p.aj.length:=by simpa using congrArg List.length hi
 exact ⟨h.id,h.next,h.dl,by show l.length≤5; rw [hl]; exact h.fx,h.cD,h.cC,h.cb,h.dH,by rw [hw]; exact h.L8,hr,h.L9,h.ag,h.ae,h.ai,h.apart⟩
theorem aQ.Cz {l:List aB} (h:aQ p) (hi:l.map (·.id)=p.L9.map (·.id)) (hr:aw (·.id) ey 0 l=true):aQ { p with L9:=l } :=by
 have hw:dG { p with L9:=l } =dG p:=by funext x; simp only [dG,hasB,hi]
 have hl:l.length=p.L9.length:=by simpa using congrArg List.length hi
 exact ⟨h.id,h.next,h.dl,h.fx,by show l.length≤5; rw [hl]; exact h.cD,h.cC,h.cb,h.dH,by rw [hw]; exact h.L8,h.aj,hr,h.ag,h.ae,h.ai,h.apart⟩
theorem aQ.C5 {l:List az} (h:aQ p) (hi:l.map (·.id)=p.ag.map (·.id)) (hr:aw (·.id) cU 0 l=true):aQ { p with ag:=l } :=by
 have hw:dG { p with ag:=l } =dG p:=by funext x; simp only [dG,hasB,hi]
 have hl:l.length=p.ag.length:=by simpa using congrArg List.length hi
 exact ⟨h.id,h.next,h.dl,h.fx,h.cD,by show l.length≤5; rw [hl]; exact h.cC,h.cb,h.dH,by rw [hw]; exact h.L8,h.aj,h.L9,hr,h.ae,h.ai,h.apart⟩
theorem aQ.Cb {l:List ci} (h:aQ p) (hi:l.map (·.id)=p.ae.map (·.id)) (hr:aw (·.id) ct 0 l=true):aQ { p with ae:=l } :=by
 have hw:dG { p with ae:=l } =dG p:=by funext x; simp only [dG,hasB,hi]
 have hl:l.length=p.ae.length:=by simpa using congrArg List.length hi
 exact ⟨h.id,h.next,h.dl,h.fx,h.cD,h.cC,by show l.length≤5; rw [hl]; exact h.cb,h.dH,by rw [hw]; exact h.L8,h.aj,h.L9,h.ag,hr,h.ai,h.apart⟩
theorem aQ.Es {l:List dS} (h:aQ p) (hi:l.map (·.id)=p.ai.map (·.id)) (hr:aw (·.id) dj 0 l=true):aQ { p with ai:=l } :=by
 have hw:dG { p with ai:=l } =dG p:=by funext x; simp only [dG,hasB]
 have hl:l.length=p.ai.length:=by simpa using congrArg List.length hi
 exact ⟨h.id,h.next,h.dl,h.fx,h.cD,h.cC,h.cb,by show l.length≤5; rw [hl]; exact h.dH,by rw [hw]; exact h.L8,h.aj,h.L9,h.ag,h.ae,hr,h.apart⟩
end
def jY (x:aD):Bool:=cv x.RX 1 50 && jm x.prog && bw x.held && bw x.got && cv x.code 0 3
theorem fG (x:aD):cH x=(jY x && bO x):=rfl
theorem jX:bw rM=true:=by decide
theorem oB:bI rM=true:=by simp [bI,rM,PQ]
theorem iT {x:aD} (h:cH x=true) (h0: ¬ x.Md=0):0≤x.pc∧x.pc < x.prog.length:=by
 rw [fG,J7] at h;have h3:=h.2;unfold bO at h3;have h4:dU x=true:=by
  rw [if_neg h0] at h3
  split at h3
  ·simp only [J7] at h3; exact h3.1.1.1.1
  ·exact ZaQ
 have h5:=bz.1 h4;omega
theorem yG {l:List dN} (h:jm l=true) {i:Nat} {o:dN} (ho:l[i]? =o_ o):kc o=true:=by
 unfold jm nq at h;have h1:=(of_decide_eq_true h).2.2 i (Lj.1 ho).1;unfold j8 Cd Cg Ea Ce at h1;rw [ho] at h1;exact h1
theorem lK {l:List dN} (h:jm l=true):1≤l.length∧l.length≤20:=by
 unfold jm nq at h;have h1:=of_decide_eq_true h;exact ⟨h1.1,h1.2.1⟩
theorem mr {x:aD} (hp:jm x.prog=true) (hs:x.Md=1) (hc:0≤x.pc∧x.pc < x.prog.length) (hl:x.left=0) (hw:x.Mg=0) (ho:x.on=0) (hh:bI x.held=true):bO x=true:=by
 unfold bO;rw [if_neg (by omega),if_pos hs,hw,ho,hh];have h1:dU x=true:=eB hc.1 (by omega);have h2:jJ x=true:=by
  unfold jJ;rw [hl]
  split
  ·rename_i hk
   unfold opAt at hk ⊢;have h3:x.pc.toNat < x.prog.length:=by omega
   rw [Kz h3] at hk ⊢;simp only [Option.getD_some] at hk ⊢;have h4:=yG hp (Kz h3);unfold kc mQ at h4;rw [hk] at h4;have h5:cv (x.prog[x.pc.toNat]).2.1 1 1000=true:=by simp at h4; exact h4.1.1
   have:=bz.1 h5
   simp only [J7,decide_eq_true_eq];omega
  ·rfl
 rw [h1,h2]; rfl
theorem vQ {x:aD} (h:jY x=true):cH (j7 x)=true:=by
 rw [fG,J7];constructor
 ·unfold jY at h ⊢
  simp only [J7] at h ⊢;exact ⟨⟨⟨h.1.1.1,jX⟩,h.1.2⟩,h.2⟩
 ·unfold bO j7
  simp [oB]
theorem vF {x:aD} {code s:Int} (h:jY x=true) (hc:cv code 0 3=true) (h0:0≤x.pc) (h1:x.pc+1 < x.prog.length):cH { jM code x with RU:=s } =true:=by
 rw [fG,J7];unfold jY at h ⊢;simp only [J7] at h ⊢;refine ⟨⟨⟨⟨h.1.1.1,jX⟩,h.1.2⟩,hc⟩,mr (x:= { jM code x with RU:=s }) h.1.1.1.2 rfl ⟨by show 0≤x.pc+1; omega,h1⟩ rfl rfl rfl oB⟩
section
open Go.RowKit Go.Maps
def ld (w:w_) (a:Option d_) (xs:List v_):Prop:= ∀ j u,xs[j]? =o_ u→ ∃ ad,a=o_ ad∧w.cell? (ad.add j)=o_ u
theorem ld.nil {w:w_} {a:Option d_} :ld w a [] :=fun j u hu=>by cases hu
theorem ld.none {w:w_} {xs:List v_} (h:ld w n_ xs):xs= [] :=by
 cases xs with
 | nil=>rfl
 | cons u r=>
  obtain ⟨ad,e,_⟩:=h 0 u rfl;cases e
theorem jD {P:Program} (w:w_) (base:Nat) (t ty e:T_) (i:TypeInfo) (z:v_) (size bytes:Nat) (ht:P.underlying t=o_ (.slice e)) (hi:P.info? e=o_ i) (hz:i.zero=o_ z)
  (hsize:i.size=size) (hby:i.bytes=bytes) (hzs:z.cells.size=size) (hsz:0 < size) (a0:Option d_) (n0 c0:Nat) (ys:List v_) (ho:w.ownsRow base e size (s_ a0 n0 c0) n0 ys)
  (a:Option d_) (n cap:Nat) (xs:List v_) (h:ld w a xs) (hl:xs.length=n * size) (h1: ∀ u∈xs,u.oneCell'=true) (h63:n0+n≤4000000) (hb:bytes≤1000) (lY:base≤w.heap.size):
  ∃ a' cap' w',(Builtin.append_ #[t,t] ty #[s_ a0 n0 c0,s_ a n cap]).run P w= .ok (s_ a' (n0+n) cap') w'∧w'.ownsRow base e size (s_ a' (n0+n) cap') (n0+n) (ys ++ xs)∧w.grownBy w' (Value.slice a0 n0 c0).ownBlock∧ ∀ g∈blk a',g∈blk a0∨g=w.heap.size:=by
 cases a with
 | none=>
  have hx:=h.none;subst hx;have hn:n=0:=by
   cases n with
   | zero=>rfl
   | succ n=>simp only [K4,Nat.succ_mul] at hl; omega
  subst hn;refine ⟨a0,c0,w,?_,by simpa using ho,⟨rfl,rfl,rfl,Ki _,fun _ _ _=>rfl⟩,fun g hg=> .inl hg⟩;have hc:n0≤c0:=by
   obtain ⟨-,⟨e1,e2⟩ | ⟨g,c,cur,e1,-,-,h5,-⟩⟩:=ho
   ·cases e1; exact Ki _
   ·cases e1; exact h5
  cases a0 <;> simp [Builtin.append_,run_underlying ht,sizeOf,typeInfo,hi,Builtin.lenOf,Builtin.firstCells,storeCells,hc]
 | some ad=>
  have hnews: ∀ j u,xs[j]? =o_ u→w.cell? (ad.add j)=o_ u:=fun j u hu=>by
   obtain ⟨ad',e',hc⟩:=h j u hu;cases e';exact hc
  obtain ⟨v',w',hr,ho',hgr,-,hbl⟩:=run_append_own_at (P:=P) w base t ty e i z size bytes ht hi hz hsize hby hzs hsz (s_ a0 n0 c0) n0 ys ho ad n cap xs hl hnews h1 ZcV (by have:=Nat.mul_le_mul h63 hb; omega) lY;obtain ⟨a',cap',rfl,-⟩:=cr ho';refine ⟨a',cap',w',hr,ho',hgr,fun g hg=> ?_⟩;rw [fZ] at hg ⊢;cases a' with
  | none=>cases hg
  | some ad'=>
   simp only [J9,LF] at hg;subst hg;rcases hbl with hbl | hbl
   ·refine .inl ?_
    cases a0 with
    | none=>cases hbl
    | some ad0=>simpa [Value.ownBlock] using hbl.symm
   ·exact .inr ZdE
theorem Hj (g m j:Nat):(⟨g,m,n_⟩:d_).add j=⟨g,m+j,n_⟩:=by unfold Addr.add; split <;> simp_all
theorem FH {α:Type} {K:Kind α} {w:w_} {a:Option d_} {l:List α} (k:Nat) (h:Row w a (K.flat l)):ld w (a.map (·.add (k * K.n))) (K.flat (l.drop k)):=fun j u hu=>by
 by_cases hk:k≤l.length
 ·have e:K.flat l=K.flat (l.take k) ++ K.flat (l.drop k):=by rw [← K.dc,Qn]
  have hl:(K.flat (l.take k)).length=k * K.n:=by rw [K.dM,Lk,Nat.min_eq_left hk]
  have hu2:(K.flat l)[k * K.n+j]? =o_ u:=by
   rw [e,List.getElem?_append_right (by omega),hl,Nat.add_sub_cancel_left];exact hu
  obtain ⟨g,rfl,hc⟩:=h _ u hu2;exact ⟨⟨g,k * K.n,n_⟩,by rw [J9,qZ],by rw [Hj]; exact hc⟩
 ·rw [List.drop_eq_nil_of_le (by omega)] at hu
  cases hu
theorem nV {w:w_} {base size n c:Nat} {e:T_} {a:Option d_} {xs:List v_} (h:w.ownsRow base e size (s_ a n c) n xs):n≤c:=by
 obtain ⟨-,⟨e1,e2⟩ | ⟨g,c',cur,e1,-,-,h5,-⟩⟩:=h
 ·cases e1; exact Ki _
 ·cases e1; exact h5
theorem jO {w:w_} {g:Nat} {cs:Array v_} {t:T_} {aaO:Nat × Nat} (h:w.heap[g]? =o_ (c_ cs t aaO)):ld w (o_ ⟨g,0,n_⟩) cs.toList:=fun j u hu=>⟨_,rfl,by rw [qZ]; simp only [World.cell?,h]; simpa using hu⟩
theorem ja {w:w_} {o i:Nat} {v:v_} :(w.setCell ⟨o,i,n_⟩ v).heap.size=w.heap.size:=fH [v]
theorem qK {α:Type} {K:Kind α} {w:w_} {a:Option d_} {l:List α} {k c:Nat} (hk:l.length≤c) (h:Row w a (K.flat l)):ld w (if c=k then a else Option.map (fun x=>x.add (k * K.n)) a) (K.flat (l.drop k)):=by
 split
 ·rw [List.drop_eq_nil_of_le (by omega)]
  exact ld.nil
 ·exact FH k h
end
section
open Go.RowKit

end
section
open Go.RowKit Go.Maps
theorem cJ.drew {w:w_} {base o:Nat} {S:aZ} (h:cJ w base o S):cJ w.drew base o S:=
 ⟨h.opn,h.L8.same fun _ _=>rfl,h.aj.same fun _ _=>rfl,h.L9.same fun _ _=>rfl,h.ag.same fun _ _=>rfl,h.ae.same fun _ _=>rfl,h.ai.same fun _ _=>rfl,fun p hp=>(h.eI p hp).same fun _ _=>rfl,fun p hp=>(h.eE p hp).same fun _ _=>rfl,fun p hp=>(h.eR p hp).same fun _ _=>rfl,h.nodup,h.low⟩
end
section
variable {p:aE} {x:aD}
theorem iF (h:cH x=true):jY x=true:=by rw [fG,J7] at h; exact h.1
theorem vm {code:Int} (h:cH x=true) (h0: ¬ x.Md=0) (hc:cv code 0 3=true):cH (jT code x)=true:=by
 obtain ⟨h1,h2⟩:=iT h h0;unfold jT
 split
 ·refine vQ ?_
  have h3:=iF h;unfold jY at h3 ⊢;simp only [J7] at h3 ⊢;exact ⟨⟨⟨h3.1.1.1,jX⟩,h3.1.2⟩,hc⟩
 ·have:=vF (s:=x.RU) (iF h) hc h1 (by omega)
  exact this
theorem AR {code nx:Int} (h:cH x=true) (h0: ¬ x.Md=0) (hc:cv code 0 3=true):cH (iY nx code x)=true:=by
 obtain ⟨h1,h2⟩:=iT h h0;unfold iY
 split
 ·have:=vm (code:=code) h h0 hc
  unfold jT at this;rw [if_pos ‹_›] at this;exact this
 ·exact vF (iF h) hc h1 (by omega)
theorem zF {code id:Int} (h:aQ p) (h0: ∀ x∈p.L8,x.id=id→ ¬ x.Md=0) (hc:cv code 0 3=true):aQ (bu code id p):=by
 have hn:=bz.1 h.next;refine h.ju (nx:=p.next) (f:=jT code) (fun x=>by unfold jT; split <;> rfl) ⟨LJ _,hn.2⟩ fun x hx hi=> ?_
 obtain ⟨-,k1,k2,-⟩:=h.proc hx;have k0:=h0 x hx hi;refine ⟨vm k1 k0 hc,?_,?_,?_⟩
 ·unfold fF at k2 ⊢
  simp only [Kb,decide_eq_true_eq,k0,false_or] at k2 ⊢;unfold jT
  split
  ·exact .inl rfl
  ·exact .inr k2
 ·unfold dG
  rw [if_neg];unfold jT
  split <;> simp [j7,jM]
 ·unfold jT
  split
  ·exact .inr (.inl rfl)
  ·exact .inl rfl
theorem lO {code:Int} {f:aD→aD} (h:aQ p) (hx:x∈p.L8) (h0: ¬ x.Md=0) (hc:cv code 0 3=true) (hf: ∀ y,(f y).id=y.id∧(f y).pc=y.pc∧(f y).prog=y.prog∧(f y).Md=y.Md) (hr:cH (f x)=true) (hn:p.next+1≤1000000000):
  aQ { p with next:=gf p.next x,L8:=ce x.id (fun y=>iY p.next code (f y)) p.L8 } :=by
 have hnx:=bz.1 h.next;have hw:gf p.next x=if (f x).pc+1=(f x).prog.length then p.next else p.next+1:=by unfold gf; rw [(hf x).2.1,(hf x).2.2.1]
 refine h.ju (f:=fun y=>iY p.next code (f y)) (fun y=>by rw [(rD _ _ _).1,(hf y).1]) ?_ fun y hy hi=> ?_
 ·rw [hw]; split <;> omega
 ·have e:y=x:=by
   exact K_
  subst e;have hs: ¬ (f y).Md=0:=by rw [(hf y).2.2.2]; exact h0
  refine ⟨AR hr hs hc,?_,?_,?_⟩
  ·unfold fF
   rw [hw];simp only [Kb,decide_eq_true_eq];unfold iY
   split
   ·exact .inl rfl
   ·exact .inr (eB (by show 1≤p.next; omega) (by show p.next≤_; omega))
  ·unfold dG
   rw [if_neg];unfold iY
   split <;> simp [j7,jM]
  ·unfold iY
   split
   ·exact .inr (.inl rfl)
   ·exact .inr (.inr rfl)
theorem mU (nx:Int) (x:aD):nx≤gf nx x∧gf nx x≤nx+1:=by unfold gf; split <;> omega
theorem vd {now:Int} (h:aQ p) (hx:lZ now p.L8=o_ x) (hn:p.next+1≤1000000000):aQ (gu p x):=by
 obtain ⟨hm,hd⟩:=af9.mem hx;unfold og at hd;simp only [J7,decide_eq_true_eq] at hd;exact lO (f:=fun y=>y) h hm (by omega) (by unfold mL; split <;> rfl) (fun _=>⟨rfl,rfl,rfl,rfl⟩) (h.proc hm).2.1 hn
theorem qI {now:Int} : ∀ (n:Nat) (p:aE),aQ p→p.next+n≤1000000000→aQ (oO now n p)∧p.next≤(oO now n p).next∧(oO now n p).next≤p.next+n
 | 0,p,h,_=>⟨h,by simp [oO]⟩
 | n+1,p,h,hn=>by
  unfold oO
  split
  ·exact ⟨h,by omega,by omega⟩
  ·rename_i x hx
   have h1:=vd h hx (by omega);have h2:(gu p x).next=gf p.next x:=rfl;have h3:=mU p.next x;obtain ⟨h4,h5,h6⟩:=qI n (gu p x) h1 (by omega);exact ⟨h4,by omega,by omega⟩
theorem ru {now:Int} (h:aQ p) (hn:p.next≤999999990):aQ (gj now p)∧p.next≤(gj now p).next∧(gj now p).next≤p.next+6:=by
 have h1:(lF now p.L8).length≤p.L8.length:=Qq _ _;have h2:=h.dl;obtain ⟨h3,h4,h5⟩:=qI (now:=now) (lF now p.L8).length p h (by omega);exact ⟨h3,h4,by unfold gj; omega⟩
theorem iQ {t:ByteArray} {id:Int} (h:aQ p) (ht:bw t=true):aQ (ez t id p):=by
 have hn:=bz.1 h.next;refine h.ju (nx:=p.next) (f:=lG t) (fun _=>rfl) ⟨LJ _,hn.2⟩ fun x hx _=> ?_
 obtain ⟨-,k1,k2,k3⟩:=h.proc hx;refine ⟨?_,k2,k3,.inl rfl⟩;exact Zbj
theorem i9 {f:aD→aD} (h:aQ p) (hx:x∈p.L8) (h0: ¬ x.Md=0) (hf:f=(fun y=>y)∨ ∃ t,bw t=true∧f=lG t) (hn:p.next+1≤1000000000):aQ (gF f p x):=by
 rcases hf with rfl | ⟨t,ht,rfl⟩
 ·exact lO h hx h0 rfl (fun _=>⟨rfl,rfl,rfl,rfl⟩) (h.proc hx).2.1 hn
 ·refine lO (f:=lG t) h hx h0 rfl (fun _=>⟨rfl,rfl,rfl,rfl⟩) ?_ hn
  have k1:=(h.proc hx).2.1;exact Zbj
theorem oU {f:aD→aD} {st on:Int} (hst: ¬ st=0) (hf:f=(fun y=>y)∨ ∃ t,bw t=true∧f=lG t): ∀ (n:Nat) (p:aE),aQ p→p.next+n≤1000000000→aQ (gW f st on n p)∧p.next≤(gW f st on n p).next∧(gW f st on n p).next≤p.next+n
 | 0,p,h,_=>⟨h,by simp [gW]⟩
 | n+1,p,h,hn=>by
  unfold gW
  split
  ·exact ⟨h,by omega,by omega⟩
  ·rename_i x hx
   obtain ⟨m1,m2,-⟩:=ft hx;have h1:=i9 (f:=f) h m1 (by omega) hf (by omega);have h2:(gF f p x).next=gf p.next x:=rfl;have h3:=mU p.next x;obtain ⟨h4,h5,h6⟩:=oU hst hf n (gF f p x) h1 (by omega);exact ⟨h4,by omega,by omega⟩
theorem pP {f:aD→aD} {st on:Int} (hst: ¬ st=0) (hf:f=(fun y=>y)∨ ∃ t,bw t=true∧f=lG t) (h:aQ p) (hn:p.next≤999999990):aQ (ff f st on p)∧p.next≤(ff f st on p).next∧(ff f st on p).next≤p.next+6:=by
 have h1:(p.L8.filter (ie st on)).length≤p.L8.length:=Qq _ _;have h2:=h.dl;obtain ⟨h3,h4,h5⟩:=oU (on:=on) hst hf (p.L8.filter (ie st on)).length p h (by omega);exact ⟨h3,h4,by unfold ff; omega⟩
end
section
open Go.RowKit Go.Maps
structure yr (w:w_) (base:Nat) (q q2:af) (W:w_):Prop where
 own:ap W base q2
 kept:aI w W q.Mc
 far: ∀ g∈q2.Mc,g∈q.Mc∨w.heap.size≤g
theorem rn {α:Type} {K:Kind α} {T:T_} {w:w_} {base cap n gs j:Nat} {a:Option d_} {l:List α} {x y:α} {v:v_} (h:w.ownsRow base T K.n (s_ a l.length cap) l.length (K.flat l)) (hx:l[n]? =o_ x) (ha:a=o_ ⟨gs,0,n_⟩) (hj:j < K.n) (hv:K.vals y=(K.vals x).set j v):
  (w.setCell ⟨gs,n * K.n+j,n_⟩ v).ownsRow base T K.n (s_ a l.length cap) l.length (K.flat (l.set n y))∧aI w (w.setCell ⟨gs,n * K.n+j,n_⟩ v) (blk a)∧(∃ u,w.cell? ⟨gs,n * K.n+j,n_⟩=o_ u)∧w.frozen? ⟨gs,n * K.n+j,n_⟩=false:=by
 have hn:n < l.length:=(Lj.1 hx).1;obtain ⟨g,hg,hrow⟩:=bl.fX (K:=K) h (by omega);rw [ha] at hg;cases hg;have h7:=hrow.cell hx (r:=j) hj;have hsp:=kL hx;have hset:l.set n y=l.take n ++ y :: l.drop (n+1):=by rw [RJ,if_pos hn]
 have hl:(l.take n).length=n:=by rw [Lk]; omega
 rw [hsp] at hrow;have h5:=bl.part (K:=K) (x:=x) (y:=y) (j:=j) (vs:= [v]) hrow ZcS (fun r hr=>by simp at hr; subst hr; rw [PT,hv,LU (by rw [K.len]; exact hj)]; rfl) (fun r hr hn=>by rw [hv,List.getElem?_set_ne (by simp at hn; omega)]);rw [hl,← hset] at h5;have h6:=h5.owns;rw [LI] at h6;rw [ha];exact ⟨h6,aI.set (vs:= [v]) (by simp [blk]),⟨_,h7.1.trans (Kz (by rw [K.len]; exact hj))⟩,h7.2⟩
theorem uX {P1 P2:List Nat} {a b:Option Nat} (h:(P1 ++ (a.toList ++ P2)).Nodup) (hb: ∀ g,b=o_ g→g∉P1∧g∉P2):(P1 ++ (b.toList ++ P2)).Nodup:=by
 obtain ⟨h1,h2,h3⟩:=Kf.1 h;obtain ⟨-,h5,-⟩:=Kf.1 h2;refine Kf.2 ⟨h1,Kf.2 ⟨by cases b <;> simp,h5,fun x hx y hy e=> ?_⟩,fun x hx y hy e=> ?_⟩
 ·cases b with
  | none=>simp at hx
  | some g=>simp at hx; subst hx; exact (hb x rfl).2 (e ▸ hy)
 ·rcases Kg.1 hy with hy | hy
  ·cases b with
   | none=>simp at hy
   | some g=>simp at hy; subst hy; exact (hb y rfl).1 (e ▸ hx)
  ·exact h3 x hx y (Ly _ hy) e
theorem ou (w:w_) (base:Nat) (a0:Option d_) (c0:Nat) (l0:List ByteArray) (ho:w.ownsRow base 9 1 (s_ a0 l0.length c0) l0.length (bT.flat l0)) (a:Option d_) (l:List ByteArray) (cap:Nat) (h:ld w a (bT.flat l)) (hl:l0.length+l.length≤4000000) (lY:base≤w.heap.size):
  ∃ a' cap' w',(Builtin.append_ #[91,91] 91 #[s_ a0 l0.length c0,s_ a l.length cap]).run J3 w= .ok (s_ a' (l0.length+l.length) cap') w'∧w'.ownsRow base 9 1 (s_ a' (l0.length+l.length) cap') (l0.length+l.length) (bT.flat (l0 ++ l))∧w.grownBy w' (Value.slice a0 l0.length c0).ownBlock∧ ∀ g∈blk a',g∈blk a0∨g=w.heap.size:=by
 obtain ⟨i,hi,e⟩:=Kw.1 zD;simp only [Kx] at e;rw [bT.dc];exact jD w base _ _ 9 i _ 1 16 underlying91 hi e.1 e.2.1 e.2.2 rfl (by decide) a0 l0.length c0 _ ho a l.length cap _ h (bT.dM l) yK hl (by decide) lY
theorem IN (w:w_) (s:ByteArray):(w.alloc (c_ #[t_ s] 9)).ownsRow w.heap.size 9 1 (s_ (o_ ⟨w.heap.size,0,n_⟩) [s].length 1) [s].length (bT.flat [s]):=
 ⟨rfl,.inr ⟨w.heap.size,1,#[t_ s],rfl,Ki _,Kj _ _,Ki _,by decide,rfl,rfl⟩⟩
theorem vg {w:w_} {a:Option d_} {l:List ByteArray} {c:Nat} (hk:l.length≤c) (h:Row w a (bT.flat l)):ld w (if c=1 then a else Option.map (fun x:d_=>⟨x.block,x.off+1,n_⟩) a) (bT.flat (l.drop 1)):=by
 have h1:=qK (K:=bT) (k:=1) hk h;have e:(fun x:d_=>x.add (1 * bT.n))=(fun x:d_=>⟨x.block,x.off+1,n_⟩):=by funext x; rfl
 rw [e] at h1;exact h1
theorem aI.grown {w w5 w7:w_} {a:Option d_} {n c:Nat} (hb:B_ w.heap.size w w5) (hg:w5.grownBy w7 (Value.slice a n c).ownBlock):aI w w7 (blk a):=
 ⟨hg.os.trans hb.os,hg.tape.trans hb.tape,hg.output.trans hb.output,LG hb.size hg.size,fun g h1 h2=>(hg.block g (Nat.lt_of_lt_of_le h1 hb.size) fun e=>h2 (di e.symm)).trans (hb.block g h1)⟩
section
variable {w W:w_} {base n gs:Nat} {q:af}
theorem pg {x:aM} {l:List ByteArray} {a:Option d_} {c:Nat} (h:ap w base q) (hb:aI w W (blk x.ak)) (hx:q.ai[n]? =o_ x) (ha:q.aK=o_ ⟨gs,0,n_⟩) (ho:W.ownsRow base 9 1 (s_ a l.length c) l.length (bT.flat l)) (hf: ∀ g∈blk a,g∈blk x.ak∨w.heap.size≤g):
  yr w base q ({ q with ai:=q.ai.set n { x with Ma:=l,ak:=a,aq:=c } } :af) (W.setCell ⟨gs,n * 5+4,n_⟩ (s_ a l.length c))∧(∃ u,W.cell? ⟨gs,n * 5+4,n_⟩=o_ u)∧W.frozen? ⟨gs,n * 5+4,n_⟩=false:=by
 have hn:n < q.ai.length:=(Lj.1 hx).1;have hset:q.ai.set n { x with Ma:=l,ak:=a,aq:=c } =q.ai.take n ++ { x with Ma:=l,ak:=a,aq:=c } :: q.ai.drop (n+1):=by rw [RJ,if_pos hn]
 have hk: ∀ (z:aM) (A B:List aM),(A ++ z :: B).filterMap aU.bt=A.filterMap aU.bt ++ ((aU.bt z).toList ++ B.filterMap aU.bt):=fun z A B=>by
  rw [LW,LH];cases aU.bt z <;> simp
 have h6:q.ai.filterMap aU.bt=(q.ai.take n).filterMap aU.bt ++ ((aU.bt x).toList ++ (q.ai.drop (n+1)).filterMap aU.bt):=(congrArg (List.filterMap aU.bt) (kL hx)).trans (hk _ _ _);obtain ⟨P1,uZ⟩: ∃ P1,P1=blk q.aN ++ (q.L8.filterMap aR.bt ++ (blk q.bc ++ (blk q.ay ++ (blk q.ax ++ (blk q.am ++ (q.ae.filterMap aC.bt ++ blk q.aK)))))) ++ (q.ai.take n).filterMap aU.bt:=⟨_,rfl⟩
 obtain ⟨P2,IQ⟩: ∃ P2,P2=(q.ai.drop (n+1)).filterMap aU.bt:=⟨_,rfl⟩
 have e1:q.Mc=P1 ++ ((aU.bt x).toList ++ P2):=by rw [uZ,IQ]; simp only [af.Mc,h6,Lm]
 have e2:({ q with ai:=q.ai.set n { x with Ma:=l,ak:=a,aq:=c } } :af).Mc=P1 ++ ((a.map (·.block)).toList ++ P2):=by
  rw [uZ,IQ];simp only [af.Mc,hset,hk,Lm];rfl
 have hkx: ∀ g,g∈blk x.ak↔g∈(aU.bt x).toList:=fun g=>Iff.rfl
 have Dl:=h.nodup;rw [e1] at Dl;have hP: ∀ g,g∈P1∨g∈P2→g∉blk x.ak:=fun g hg hm=>by
  exact ZaW
 have hin: ∀ g,g∈P1∨g∈P2→g∈q.Mc:=fun g hg=>by
  rw [e1];rcases hg with hg | hg
  ·exact Lz _ hg
  ·exact Ly _ (Ly _ hg)
 have hgl:gs∈blk q.aK:=by rw [ha]; simp [blk]
 have hgP:gs∈P1:=by rw [uZ]; simp [hgl]
 have hsW: ∀ g,g∈P1∨g∈P2→W.heap[g]? =w.heap[g]? :=fun g hg=>hb.same g (h.lt g (hin g hg)).2 (hP g hg)
 have hrow:=aL h.ai fun g hg=>hsW g (.inl Zc6)
 obtain ⟨h1,h2,h3⟩:=rn (K:=bX) (y:= { x with Ma:=l,ak:=a,aq:=c }) (v:=s_ a l.length c) hrow hx ha (show 4 < 5 by decide) rfl;refine ⟨?_,h3⟩;have hnd:({ q with ai:=q.ai.set n { x with Ma:=l,ak:=a,aq:=c } } :af).Mc.Nodup:=by
  exact Zan
 have hs: ∀ g,g≠gs→(W.setCell ⟨gs,n * 5+4,n_⟩ (s_ a l.length c)).heap[g]? =W.heap[g]? :=fun g hg=>aH hg
 have hsp:q.Mc=(blk q.aN ++ (q.L8.filterMap aR.bt ++ (blk q.bc ++ (blk q.ay ++ (blk q.ax ++ (blk q.am ++ q.ae.filterMap aC.bt)))))) ++ (blk q.aK ++ (q.ai.filterMap aU.bt)):=by simp [af.Mc,Lm]
 have nw: ∀ g,(g∈(blk q.aN ++ (q.L8.filterMap aR.bt ++ (blk q.bc ++ (blk q.ay ++ (blk q.ax ++ (blk q.am ++ q.ae.filterMap aC.bt))))))∨g∈(q.ai.filterMap aU.bt))→g≠gs:=fun g hg he=>by
  exact ZaN
 have hall: ∀ g,g∈P1∨g∈P2→g≠gs→(W.setCell ⟨gs,n * 5+4,n_⟩ (s_ a l.length c)).heap[g]? =w.heap[g]? :=fun g hg hne=>(hs g hne).trans (hsW g hg)
 refine ⟨⟨aL h.L8 fun g hg=>hall g (.inl Zc6) (nw g (.inl Zdj)),aL h.aj fun g hg=>hall g (.inl Zc6) (nw g (.inl Zdj)),aL h.L9 fun g hg=>hall g (.inl Zc6) (nw g (.inl Zdj)),aL h.ag fun g hg=>hall g (.inl Zc6) (nw g (.inl Zdj)),aL h.ae fun g hg=>hall g (.inl Zc6) (nw g (.inl Zdj)),(by show (W.setCell _ _).ownsRow _ _ _ (s_ _ (List.set _ _ _).length _) (List.set _ _ _).length _; rw [LI]; exact h1),fun z hz=>(h.eI z hz).same fun g hg=>hall g (.inl ZdC) (nw g (.inl ZdN)),?_,?_,hnd⟩,⟨hb.os,hb.tape,hb.output,by rw [ja]; exact hb.size,fun g hg hm=>(hs g fun e=>hm (e ▸ hin gs (.inl hgP))).trans (hb.same g hg fun hx=>hm ZdK)⟩,fun g hg=> ?_⟩
 ·intro z hz
  exact (h.eE z hz).same fun g hg=>hall g (.inl (by rw [uZ]; simp only [Kg]; exact .inl (.inr (.inr (.inr (.inr (.inr (.inr (.inl (dP.2 ⟨z,hz,hg⟩)))))))))) (nw g (.inl (by simp only [Kg]; exact .inr (.inr (.inr (.inr (.inr (.inr (dP.2 ⟨z,hz,hg⟩)))))))))
 ·intro z hz
  rw [hset] at hz;rcases Kg.1 hz with hz | hz
  ·exact (h.eR z (RK hz)).same fun g hg=>hall g (.inl (by rw [uZ]; exact Ly _ (dP.2 ⟨z,hz,hg⟩))) (nw g (.inr (by exact dP.2 ⟨z,RK hz,hg⟩)))
  ·rcases Kt.1 hz with rfl | hz
   ·exact Zaw
   ·exact (h.eR z (RL hz)).same fun g hg=>hall g (.inr (by rw [IQ]; exact dP.2 ⟨z,hz,hg⟩)) (nw g (.inr (by exact dP.2 ⟨z,RL hz,hg⟩)))
 ·exact Zav
end
end
section
open Go Go.RowKit
theorem tkr {P:Program} {md:Region.Mode} {ops:Array Oper} {Q:Exit→Act→w_→Prop} {S:w_→Prop} (i:Nat) {oi:Oper} {v:v_} {fuel:Nat} {RV:Array Bool} {a:Act} {w:w_} {d:Tmp} (hi:ops[i]? =o_ oi) (hy:YieldsIf P ops S oi v a) (hS:S w)
  (h:wpAnyH P md ops Q S fuel (RV.setIfInBounds i true) (a.put (o_ d) v) w) (hd:oi.dst=o_ d:=by rfl) (h1:Region.noSelect ops=true:=by kernel_rfl) (h2:Region.free md ops RV i=true:=by kernel_rfl) (h3:(Region.ready md ops RV).contains i=true:=by kernel_rfl)
  (hQ: ∀ c a w,Q (.panic c) (a.put (o_ d) v) w→Q (.panic c) a w:=by exact fun _ _ _ h=>h):wpAnyH P md ops Q S (fuel+1) RV a w:=by
 rw [← hd] at h hQ;exact wpAnyH_take (i:=i) hi h1 h2 h3 hQ hy hS h
def oc (cs:Array v_) (T:T_) (X:Nat) (W:w_):Prop:=W.heap[X]? =o_ (c_ cs T)
section
variable {cs:Array v_} {T:T_} {X:Nat} {W W':w_} {bs:List Nat}
theorem oc.lt (h:oc cs T X W):X < W.heap.size:=(J2.1 h).1
theorem oc.below (h:oc cs T X W) (hb:B_ W.heap.size W W'):oc cs T X W':=(hb.block _ h.lt).trans h
theorem oc.kept (h:oc cs T X W) (hk:aI W W' bs) (hs:X∉bs):oc cs T X W':=(hk.same _ h.lt hs).trans h
end
theorem Y5 {α : Type} {l : List α} {i : Nat} (h : i < l.toArray.size) : l.toArray[i]'h = l[i]'(by simpa using h) := by simp
theorem gz {α : Type} {a : α} {l : List α} (h : 0 < (a :: l).length) : (a :: l)[0]'h = a := rfl
theorem gs {α : Type} {a : α} {l : List α} {i : Nat} (h : i + 1 < (a :: l).length) : (a :: l)[i + 1]'h = l[i]'(Nat.lt_of_succ_lt_succ h) := rfl
section
variable {p q:af} {w W U V:w_} {B X b:Nat} {cs:Array v_} {T:T_} {Y:Prop}
theorem upX (h:Hid (Az p w U)) (hb:B_ U.heap.size U V):Hid (Az p w V):=h.I.below hb
theorem upI (h:Hid (o8 U X b q)) (hb:B_ U.heap.size U V):Hid (o8 V X b q):=h.I.below hb
theorem upB (h:Hid (av U X q)) (hb:B_ U.heap.size U V):Hid (av V X q):=h.I.below hb
theorem upM (h:Hid (ap U B q)) (hb:B_ U.heap.size U V):Hid (ap V B q):=h.I.below hb
end
end
section
open Go.RowKit Go.Maps
attribute [local go_sem ↓] Kc Kd
def fE (code:Int) (x:ao):ao:=⟨jT code x.toaD,x.aY,x.bH⟩
abbrev CB (W w:w_) (base:Nat) (q:af) (v:Array v_):Prop:=av W w.heap.size q∧W.heap[w.heap.size+1]? =o_ (c_ ar 38)∧W.heap[w.heap.size+1+1]? =o_ (c_ v 100)∧ap W base q∧B_ w.heap.size w W
theorem aI.more {w w1 w2:w_} {bs:List Nat} (h:aI w w1 bs) (hb:B_ w.heap.size w1 w2):aI w w2 bs:=⟨hb.os.trans h.os,hb.tape.trans h.tape,hb.output.trans h.output,LG h.size hb.size,fun g hg hn=>(hb.block g hg).trans (h.same g hg hn)⟩
theorem ug {W w:w_} {base gs n:Nat} {q:af} {x y:ao} {vs:List v_} (h1:av W w.heap.size q) (h2:W.heap[w.heap.size+1]? =o_ (c_ ar 38)) (h3:w.heap.size+1+1 < W.heap.size) (h4:ap W base q) (h5:B_ w.heap.size w W)
  (hx:q.L8[n]? =o_ x) (ha:q.aN=o_ ⟨gs,0,n_⟩) (hb:base≤w.heap.size) (CT:base≤gs) (hg2:gs < w.heap.size) (yD: ∀ g∈q.Mc,g < w.heap.size) (hv:vs=bg.vals y) (hy:y.prog=x.prog∧y.aY=x.aY∧y.bH=x.bH):
  W.there gs (n * 12) 12∧ap (W.setCells gs (n * 12) vs) base ({ q with L8:=q.L8.set n y } :af)∧av (W.setCells gs (n * 12) vs) w.heap.size q∧(W.setCells gs (n * 12) vs).heap[w.heap.size+1]? =o_ (c_ ar 38)∧B_ base w (W.setCells gs (n * 12) vs)∧(∀ g∈({ q with L8:=q.L8.set n y } :af).Mc,g≠w.heap.size+1)∧aI w (W.setCells gs (n * 12) vs) [gs] :=by
 have hn:n < q.L8.length:=(Lj.1 hx).1;have hl:vs.length=12:=by rw [hv]; exact bg.len y
 have oC:W.there gs (n * 12) 12:=by
  obtain ⟨g,hg,hrow⟩:=bl.fX (K:=bg) h4.L8 (by omega);exact ZaI
 have h7:=h4.kB (n:=n) (j:=0) (x:=x) (y:=y) (vs:=vs) hx ha hy (by omega) (fun r _=>by rw [Li,hv]) (fun r hr hn=>absurd ⟨Ky _,by omega⟩ hn);rw [PT,← iL] at h7;have hs: ∀ g,g≠gs→g < W.heap.size→(W.setCells gs (n * 12) vs).heap[g]? =W.heap[g]? :=fun g hg hl=>h7.2.1.same g hl (by simpa using hg)
 refine ⟨oC,h7.1,(hs _ (by omega) (by omega)).trans h1,(hs _ (by omega) (by omega)).trans h2,(h5.mono hb).trans (h7.2.1.below (by omega) ZcS),fun g hg e=> ?_,(aI.dI h5).trans h7.2.1⟩;have h8:=yD g (h7.2.2 ▸ hg);omega
theorem ve (q:af) (n base:Nat) (x:ao) (code:Int) (w:w_) (h:ap w base q) (hb:base≤w.heap.size) (hx:q.L8[n]? =o_ x) (hpc:0≤x.pc∧x.pc < x.prog.length) (hl:x.prog.length≤1048576):
  k_ J3 103 #[a_ q.cells,i_ j_ n,i_ j_ code] w fun e w'=>e=r_ (a_ q.cells)∧ap w' base ({ q with L8:=q.L8.set n (fE code x) } :af)∧B_ base w w'∧aI w w' (blk q.aN):=by
 obtain ⟨gs,ha,hat⟩:=cn h.at.1 hx;have hgs:=cf h.L8 (g:=gs) (by rw [ha]; simp [blk]);have hnl:n < q.L8.length:=(Lj.1 hx).1;obtain ⟨afG,afd,ps,pA,pC,ss,afV,afX,es,afA,afq,bs,afR,afK,fs,aga,afN,ts,afr,af4⟩:=q;simp only at ha;subst ha;obtain ⟨C,hC⟩: ∃ C:Array v_,C= #[i_ j_ afG,i_ j_ afd,s_ (o_ ⟨gs,0,n_⟩) ps.length pC,s_ afV ss.length afX,s_ afA es.length afq,s_ afR bs.length afK,s_ aga fs.length afN,s_ afr ts.length af4] :=⟨_,rfl⟩
 obtain ⟨G,hG⟩: ∃ G:Array v_,G= #[i_ j_ x.id,i_ j_ x.RX,s_ x.aY x.prog.length x.bH,i_ j_ 1,i_ j_ (x.pc+1),i_ j_ 0,i_ j_ 0,i_ j_ 0,t_ ⟨#[]⟩,t_ x.got,i_ j_ code,i_ j_ x.RU] :=⟨_,rfl⟩
 obtain ⟨D,hD⟩: ∃ D:af,D=(⟨afG,afd,ps,o_ ⟨gs,0,n_⟩,pC,ss,afV,afX,es,afA,afq,bs,afR,afK,fs,aga,afN,ts,afr,af4⟩:af):=⟨_,rfl⟩
 obtain ⟨A,hA⟩: ∃ A:w_,A=(w.alloc (c_ C 38)).alloc (c_ ar 38):=⟨_,rfl⟩
 obtain ⟨B,hB⟩: ∃ B:w_,B=A.alloc (c_ G 100):=⟨_,rfl⟩
 have b1:B_ w.heap.size w A:=by rw [hA]; exact dT _ _ _
 have b2:B_ w.heap.size w B:=by rw [hB,hA]; exact fg _ _ _ _
 have h3:=dR w (c_ C 38) (c_ ar 38) (c_ G 100);have H6:Hid (CB B w base D G):=by subst hB hA hG hD hC; exact ⟨h3.1,h3.2.1,h3.2.2.1,h.below b2,b2⟩
 have HC:Hid (ps[n]? =o_ x∧base≤gs∧gs < w.heap.size∧base≤w.heap.size∧n < ps.length):=⟨hx,hgs.1,hgs.2,hb,hnl⟩
 obtain ⟨d0,d1,d2,d3,d4,d5,d6,d7,d8,d9,tH,tS⟩:ao.At A gs n x:=by
  obtain ⟨g,e,h5⟩:=cn (h.below b1).at.1 hx;cases e;exact h5
 have PBK:Hid (∀ g∈D.Mc,g < w.heap.size):=fun g hg=>(h.lt g (hD ▸ hg)).2
 obtain ⟨n0,n1⟩:=hpc;have n2:x.pc≤1048576:=by omega
 have j0:(0:Int)≤(n:Int):=by omega
 have j1:(n:Int) < (ps.length:Int):=by have:n < ps.length:=hnl; omega
 clear h hb hx hgs hat b1 b2 h3 hnl hl;subst hB hA hG hD hC;unfold af.cells;simp only
 go_enter func103,ntmps103
 by_cases hlen:x.pc+1=x.prog.length
 ·have afx:Hid (fE code x=(⟨j7 (jM code x.toaD),x.aY,x.bH⟩:ao)):=by show fE code x=_; unfold fE jT; rw [if_pos hlen]
  have e1:(x.pc+1 == (x.prog.length:Int))=true:=by simp [hlen]
  clear hlen n1;have Mb:=mN (⟨jM code x.toaD,x.aY,x.bH⟩:ao);simp only [jM,rM] at Mb;go_wp2_with fail;clear d0 d1 d2 d3 d4 d5 d6 d7 d8 d9 tH tS e1;refine (Mb _).mono ?_;clear Mb;rintro e w5 ⟨rfl,iJ⟩;have H5:Hid (CB w5 w base (⟨afG,afd,ps,o_ ⟨gs,0,n_⟩,pC,ss,afV,afX,es,afA,afq,bs,afR,afK,fs,aga,afN,ts,afr,af4⟩:af) #[i_ j_ x.id,i_ j_ x.RX,s_ x.aY x.prog.length x.bH,i_ j_ 1,i_ j_ (x.pc+1),i_ j_ 0,i_ j_ 0,i_ j_ 0,t_ ⟨#[]⟩,t_ x.got,i_ j_ code,i_ j_ x.RU]):=⟨H6.I.1.below iJ,(iJ.block _ (J2.1 H6.I.2.1).1).trans H6.I.2.1,(iJ.block _ (J2.1 H6.I.2.2.1).1).trans H6.I.2.2.1,H6.I.2.2.2.1.below iJ,H6.I.2.2.2.2.trans (iJ.mono H6.I.2.2.2.2.size)⟩
  have H8:Hid (CB (w5.setRow (w.heap.size+1+1) #[i_ j_ x.id,i_ j_ x.RX,s_ x.aY x.prog.length x.bH,i_ j_ 0,i_ j_ 0,i_ j_ 0,i_ j_ 0,i_ j_ 0,t_ ⟨#[]⟩,t_ x.got,i_ j_ code,i_ j_ 0]) w base (⟨afG,afd,ps,o_ ⟨gs,0,n_⟩,pC,ss,afV,afX,es,afA,afq,bs,afR,afK,fs,aga,afN,ts,afr,af4⟩:af) #[i_ j_ x.id,i_ j_ x.RX,s_ x.aY x.prog.length x.bH,i_ j_ 0,i_ j_ 0,i_ j_ 0,i_ j_ 0,i_ j_ 0,t_ ⟨#[]⟩,t_ x.got,i_ j_ code,i_ j_ 0]):=by
   refine ⟨(KH _ _ _ _ (by omega)).trans H5.I.1,(KH _ _ _ _ (by omega)).trans H5.I.2.1,KU _ _ _ _ _ _ H5.I.2.2.1,H5.I.2.2.2.1.same fun g hg=>KH _ _ _ _ (by have:=PBK.I g hg; omega),q_ H5.I.2.2.2.2 (by omega) _⟩
  clear iJ H6;obtain ⟨m0,m1,m2,m3,m4,m5,m6,m7⟩:=H8.I.1.cells;obtain ⟨r0,r1,r2,r3,r4,r5,r6,r7,r8,r9,Ju,Jq⟩:=bo (x:=(⟨j7 (jM code x.toaD),x.aY,x.bH⟩:ao)) H8.I.2.2.1;have hz:=ug (y:=(⟨j7 (jM code x.toaD),x.aY,x.bH⟩:ao)) (vs:=(#[i_ j_ x.id,i_ j_ x.RX,s_ x.aY x.prog.length x.bH,i_ j_ 0,i_ j_ 0,i_ j_ 0,i_ j_ 0,i_ j_ 0,t_ ⟨#[]⟩,t_ x.got,i_ j_ code,i_ j_ 0] :Array v_).toList) H8.I.1 H8.I.2.1 (J2.1 H8.I.2.2.1).1 H8.I.2.2.2.1 H8.I.2.2.2.2 HC.I.1 rfl HC.I.2.2.2.1 HC.I.2.1 HC.I.2.2.1 PBK.I rfl ⟨rfl,rfl,rfl⟩;have oC:=hz.1;have HZ:Hid (_):=hz.2;clear hz;simp only [j7,jM] at r0 r1 r2 r3 r4 r5 r6 r7 r8 r9 Ju Jq
  dsimp only
  repeat (first | (go_big_may; first | (refine wpList_store_row rfl 100 (Operand.tmp 7) (Operand.tmp 31) rfl (w.heap.size+1+1) _ _ #[i_ j_ x.id,i_ j_ x.RX,s_ x.aY x.prog.length x.bH,i_ j_ 0,i_ j_ 0,i_ j_ 0,i_ j_ 0,i_ j_ 0,t_ ⟨#[]⟩,t_ x.got,i_ j_ code,i_ j_ 0] rfl rfl H5.I.2.2.1 ZcR rfl ZcR ?_) | (refine wpList_store_mid rfl 100 (Operand.tmp 36) (Operand.tmp 35) rfl gs (n * 12) #[i_ j_ x.id,i_ j_ x.RX,s_ x.aY x.prog.length x.bH,i_ j_ 0,i_ j_ 0,i_ j_ 0,i_ j_ 0,i_ j_ 0,t_ ⟨#[]⟩,t_ x.got,i_ j_ code,i_ j_ 0] rfl rfl ?ht ZcR ZcR ?_)) | go_values | go_skip | go_guarded | go_step | go_upon)
  case ht=>exact oC
  clear oC m0 m1 m2 m3 m4 m5 m6 m7 r0 r1 r2 r3 r4 r5 r6 r7 r8 r9 Ju Jq;generalize World.setCells (w5.setRow (w.heap.size+1+1) #[i_ j_ x.id,i_ j_ x.RX,s_ x.aY x.prog.length x.bH,i_ j_ 0,i_ j_ 0,i_ j_ 0,i_ j_ 0,i_ j_ 0,t_ ⟨#[]⟩,t_ x.got,i_ j_ code,i_ j_ 0]) gs (n * 12) (#[i_ j_ x.id,i_ j_ x.RX,s_ x.aY x.prog.length x.bH,i_ j_ 0,i_ j_ 0,i_ j_ 0,i_ j_ 0,i_ j_ 0,t_ ⟨#[]⟩,t_ x.got,i_ j_ code,i_ j_ 0] :Array v_).toList=WZ at *;exact Fd
 ·have afx:Hid (fE code x=(⟨jM code x.toaD,x.aY,x.bH⟩:ao)):=by show fE code x=_; unfold fE jT; rw [if_neg hlen]
  have e1:(x.pc+1 == (x.prog.length:Int))=false:=by simp [hlen]
  clear hlen n1;obtain ⟨m0,m1,m2,m3,m4,m5,m6,m7⟩:=H6.I.1.cells;obtain ⟨r0,r1,r2,r3,r4,r5,r6,r7,r8,r9,Ju,Jq⟩:=bo (x:=(⟨jM code x.toaD,x.aY,x.bH⟩:ao)) H6.I.2.2.1;have hz:=ug (y:=(⟨jM code x.toaD,x.aY,x.bH⟩:ao)) (vs:=(#[i_ j_ x.id,i_ j_ x.RX,s_ x.aY x.prog.length x.bH,i_ j_ 1,i_ j_ (x.pc+1),i_ j_ 0,i_ j_ 0,i_ j_ 0,t_ ⟨#[]⟩,t_ x.got,i_ j_ code,i_ j_ x.RU] :Array v_).toList) H6.I.1 H6.I.2.1 (J2.1 H6.I.2.2.1).1 H6.I.2.2.2.1 H6.I.2.2.2.2 HC.I.1 rfl HC.I.2.2.2.1 HC.I.2.1 HC.I.2.2.1 PBK.I rfl ⟨rfl,rfl,rfl⟩;have oC:=hz.1;have HZ:Hid (_):=hz.2;clear hz;simp only [jM] at r0 r1 r2 r3 r4 r5 r6 r7 r8 r9 Ju Jq
  repeat (first | (go_big_may; first | (refine wpList_store_mid rfl 100 (Operand.tmp 36) (Operand.tmp 35) rfl gs (n * 12) #[i_ j_ x.id,i_ j_ x.RX,s_ x.aY x.prog.length x.bH,i_ j_ 1,i_ j_ (x.pc+1),i_ j_ 0,i_ j_ 0,i_ j_ 0,t_ ⟨#[]⟩,t_ x.got,i_ j_ code,i_ j_ x.RU] rfl rfl ?ht ZcR ZcR ?_)) | go_values | go_skip | go_guarded | go_step | go_upon)
  case ht=>exact oC
  clear oC m0 m1 m2 m3 m4 m5 m6 m7 r0 r1 r2 r3 r4 r5 r6 r7 r8 r9 Ju Jq;generalize World.setCells _ gs (n * 12) (#[i_ j_ x.id,i_ j_ x.RX,s_ x.aY x.prog.length x.bH,i_ j_ 1,i_ j_ (x.pc+1),i_ j_ 0,i_ j_ 0,i_ j_ 0,t_ ⟨#[]⟩,t_ x.got,i_ j_ code,i_ j_ x.RU] :Array v_).toList=WZ at *;exact Fd
theorem Bt {W w:w_} {base gs n:Nat} {q:af} {x:ao} {nx:Int} (h1:av W w.heap.size q) (h2:W.heap[w.heap.size+1]? =o_ (c_ ar 38)) (h4:ap W base q) (h5:B_ w.heap.size w W)
  (hx:q.L8[n]? =o_ x) (ha:q.aN=o_ ⟨gs,0,n_⟩) (hb:base≤w.heap.size) (CT:base≤gs) (hg2:gs < w.heap.size) (yD: ∀ g∈q.Mc,g < w.heap.size):
  ((∃ u,W.cell? ⟨gs,n * 12+11,n_⟩=o_ u)∧W.frozen? ⟨gs,n * 12+11,n_⟩=false)∧ap (W.setCell ⟨gs,n * 12+11,n_⟩ (i_ j_ nx)) base ({ q with L8:=q.L8.set n { x with RU:=nx } } :af)∧av (W.setCell ⟨gs,n * 12+11,n_⟩ (i_ j_ nx)) w.heap.size q∧(W.setCell ⟨gs,n * 12+11,n_⟩ (i_ j_ nx)).heap[w.heap.size+1]? =o_ (c_ ar 38)∧B_ base w (W.setCell ⟨gs,n * 12+11,n_⟩ (i_ j_ nx))∧(∀ g∈({ q with L8:=q.L8.set n { x with RU:=nx } } :af).Mc,g < w.heap.size)∧aI w (W.setCell ⟨gs,n * 12+11,n_⟩ (i_ j_ nx)) [gs] :=by
 have hn:n < q.L8.length:=(Lj.1 hx).1;have hc:(∃ u,W.cell? ⟨gs,n * 12+11,n_⟩=o_ u)∧W.frozen? ⟨gs,n * 12+11,n_⟩=false:=by
  obtain ⟨g,hg,hrow⟩:=bl.fX (K:=bg) h4.L8 (by omega);rw [ha] at hg;cases hg;exact ⟨⟨_,(hrow.cell hx (r:=11) (by decide)).1⟩,(hrow.cell hx (r:=11) (by decide)).2⟩
 have h7:=h4.kB (n:=n) (j:=11) (x:=x) (y:= { x with RU:=nx }) (vs:= [i_ j_ nx]) hx ha ⟨rfl,rfl,rfl⟩ (by show 11+1≤12; omega) (fun r hr=>by match r,hr with | 0,_=>rfl) (fun r hr hn=>by
  have hne:r≠11:=fun e=>hn ⟨by omega,by show r < 11+1; omega⟩
  match r,hr,hne with | 0,_,_=>rfl | 1,_,_=>rfl | 2,_,_=>rfl | 3,_,_=>rfl | 4,_,_=>rfl | 5,_,_=>rfl | 6,_,_=>rfl | 7,_,_=>rfl | 8,_,_=>rfl | 9,_,_=>rfl | 10,_,_=>rfl | 11,_,hne=>exact absurd rfl hne)
 simp only [bn] at h7;have l1:=(J2.1 h2).1;have hs: ∀ g,g≠gs→(W.setCell ⟨gs,n * 12+11,n_⟩ (i_ j_ nx)).heap[g]? =W.heap[g]? :=fun g hg=>aH hg
 exact ⟨hc,h7.1,(hs _ (by omega)).trans h1,(hs _ (by omega)).trans h2,(h5.mono hb).trans (h7.2.1.below (by have:=h5.size; omega) ZcS),fun g hg=>yD g (h7.2.2 ▸ hg),(aI.dI h5).trans h7.2.1⟩
theorem qG (q:af) (n base:Nat) (x:ao) (w:w_) (h:ap w base q) (hb:base≤w.heap.size) (hx:q.L8[n]? =o_ x) (hn:0≤q.next∧q.next≤1000000000):
  k_ J3 145 #[a_ q.cells,i_ j_ n] w fun e w'=> ∃ q2:af,e=r_ (a_ q2.cells)∧q2= { q with next:=q.next+1,L8:=q.L8.set n { x with RU:=q.next } } ∧ap w' base q2∧B_ base w w'∧aI w w' (blk q.aN):=by
 obtain ⟨gs,ha,-⟩:=cn h.at.1 hx;have hgs:=cf h.L8 (g:=gs) (by rw [ha]; simp [blk]);have hnl:n < q.L8.length:=(Lj.1 hx).1;have b1:B_ w.heap.size w ((w.alloc (c_ q.cells 38)).alloc (c_ ar 38)):=dT _ _ _;have h2:=cZ w (c_ q.cells 38) (c_ ar 38);have hz:=Bt (nx:=q.next) h2.1 h2.2 (h.below b1) b1 hx ha hb hgs.1 hgs.2 fun g hg=>(h.lt g hg).2
 obtain ⟨⟨⟨u,pe⟩,f11⟩,hz⟩:=hz;have H2:Hid (_):=hz;have HB:Hid (av ((w.alloc (c_ q.cells 38)).alloc (c_ ar 38)) w.heap.size q∧base≤w.heap.size∧q.aN=o_ ⟨gs,0,n_⟩):=⟨h2.1,hb,ha⟩
 have H3:Hid ((((w.alloc (c_ q.cells 38)).alloc (c_ ar 38)).setCell ⟨gs,n * 12+11,n_⟩ (i_ j_ q.next)).setCell ⟨w.heap.size,1,n_⟩ (i_ j_ (q.next+1)) |> fun W=>av W w.heap.size { q with next:=q.next+1 } ∧W.heap[w.heap.size+1]? =o_ (c_ ar 38)∧ap W base { q with next:=q.next+1,L8:=q.L8.set n { x with RU:=q.next } } ∧B_ base w W∧(∀ g∈({ q with L8:=q.L8.set n { x with RU:=q.next } } :af).Mc,g < w.heap.size)∧aI w W [gs]):=by
  have ho:=hz.1.same (w':=(((w.alloc (c_ q.cells 38)).alloc (c_ ar 38)).setCell ⟨gs,n * 12+11,n_⟩ (i_ j_ q.next)).setCell ⟨w.heap.size,1,n_⟩ (i_ j_ (q.next+1))) fun g hg=>aH (by have:=hz.2.2.2.2.1 g hg; omega)
  exact ⟨cx (i:=1) (v:=i_ j_ (q.next+1)) hz.2.1,(aH (by omega)).trans hz.2.2.1,⟨ho.L8,ho.aj,ho.L9,ho.ag,ho.ae,ho.ai,ho.eI,ho.eE,ho.eR,ho.nodup⟩,bP hz.2.2.2.1 hb,hz.2.2.2.2.1,hz.2.2.2.2.2.more (bP (Kp _ _) (Ki _))⟩
 have k1f:(((w.alloc (c_ q.cells 38)).alloc (c_ ar 38)).setCell ⟨gs,n * 12+11,n_⟩ (i_ j_ q.next)).frozen? ⟨w.heap.size,1,n_⟩=false:=Ko _ _ _ _ _ hz.2.1;have k1:=hz.2.1.cells.2.1;obtain ⟨-,m1,m2,-⟩:=h2.1 |> av.cells (p:=q)
 obtain ⟨r0,r1,r2,r3,r4,r5,r6,r7⟩:=H3.I.1.cells;have j0:(0:Int)≤(n:Int):=by omega
 have j1:(n:Int) < (q.L8.length:Int):=by omega
 obtain ⟨n0,n1⟩:=hn;clear h hb hx b1 h2 hz hgs hnl;rw [ha] at m2;unfold af.cells at *;simp only [HB.I.2.2] at *
 go_enter func145,ntmps145
 go_wp2_with (refine ec 4 16 #[i_ j_ q.id,i_ j_ (q.next+1),s_ (o_ ⟨gs,0,n_⟩) q.L8.length q.aW,s_ q.bc q.aj.length q.bF,s_ q.ay q.L9.length q.aO,s_ q.ax q.ag.length q.aP,s_ q.am q.ae.length q.aG,s_ q.aK q.ai.length q.aV] H3.I.2.1 ?_);refine gZ results145 H3.I.2.1 ?_;have hb:=HB.I.2.1;refine ⟨_,?_,rfl,H3.I.2.2.1.same fun g hg=>KH _ _ _ _ (by have:=H3.I.2.2.2.2.1 g hg; omega),q_ H3.I.2.2.2.1 (by omega) _,?_⟩
 ·simp only [LI]
 ·exact H3.I.2.2.2.2.2.more (q_ (Kp _ _) (by omega) _)
end
theorem empty_eq {s:ByteArray} (h:bI s=true):s=rM:=by
 have h1:s.data.toList= [] :=by simpa [bI,PQ] using h
 cases s with
 | mk d=>
  have:d= #[] :=Array.toList_eq_nil_iff.1 h1
  rw [this]; rfl
def afc (id:Int) (p:aE):Prop:= ∀ y∈p.L8,y.id=id→y.Md=1
def xr (id:Int) (p:aE):Prop:= ∀ y∈p.L8,y.id=id→y.Md=1∧y.left=0
section
variable {p:aE} {id:Int}
theorem xr.up (h:xr id p):afc id p:=fun y hy hi=>(h y hy hi).1
theorem afc.not (h:afc id p): ∀ y∈p.L8,y.id=id→ ¬ y.Md=0:=fun y hy hi=>by rw [h y hy hi]; decide
theorem afc.other {k nx:Int} {f:aD→aD} (h:afc id p) (hk: ¬ k=id) (hf: ∀ x,(f x).id=x.id):afc id { p with next:=nx,L8:=ce k f p.L8 } :=fun y hy hi=>by
 obtain ⟨z,hz,rfl⟩:=Lr.1 (show y∈ce k f p.L8 from hy)
 split at hi
 ·rw [hf] at hi; omega
 ·rw [if_neg ‹_›]; exact h z hz hi
theorem xr.got {t:ByteArray} {k:Int} (h:xr id p):xr id (ez t k p):=fun y hy hi=>by
 obtain ⟨z,hz,rfl⟩:=Lr.1 (show y∈ce k (lG t) p.L8 from hy)
 split at hi
 ·rw [if_pos ‹_›]; exact h z hz hi
 ·rw [if_neg ‹_›]; exact h z hz hi
theorem afc.Mg {f:aD→aD} {x:aD} (h:afc id p) (hx:x∈p.L8) (hs: ¬ x.Md=1) (hf: ∀ y,(f y).id=y.id):afc id (gF f p x):=
 afc.other h (fun e=>hs (h x hx e)) fun y=>by rw [(rD _ _ _).1,hf]
theorem afc.gW {f:aD→aD} {st on:Int} (hst: ¬ st=1) (hf: ∀ y,(f y).id=y.id): ∀ (n:Nat) (p:aE),afc id p→afc id (gW f st on n p)
 | 0,_,h=>h
 | n+1,p,h=>by
  unfold Go.Proofs.YtnlbiglljiopmaaGreatDoor.gW
  split
  ·exact h
  ·rename_i x hx
   obtain ⟨m1,m2,-⟩:=ft hx;exact afc.gW hst hf n _ (h.Mg m1 (by omega) hf)
theorem afc.ff {f:aD→aD} {st on:Int} (h:afc id p) (hst: ¬ st=1) (hf: ∀ y,(f y).id=y.id):afc id (ff f st on p):=afc.gW hst hf _ _ h
theorem D6 {code:Int} (h:aQ p) (hu:afc id p) (hc:cv code 0 3=true):aQ (bu code id p):=zF h hu.not hc
theorem sO {st on Mg:Int} {held:ByteArray} (h:aQ p) (hu:xr id p) (hn:p.next+1≤1000000000)
  (hs:st=2∧on=0∧bI held=true∧cv Mg 1 2000000000=true∨(st=5∧bw held=true∨(st=3∨st=4∨st=6∨st=7)∧bI held=true)∧lh Mg=true∧hasB p st on=true):aQ (kC st on held Mg id p):=by
 have hnx:=bz.1 h.next;refine h.ju (f:=zb p.next st on held Mg) (fun _=>rfl) ⟨by omega,hn⟩ fun x hx hi=> ?_
 obtain ⟨hx1,hx2⟩:=hu x hx hi;obtain ⟨-,k1,k2,k3⟩:=h.proc hx;have hop:=iT k1 (by rw [hx1]; decide);have hb:=iF k1;have hh:bw held=true:=by
  rcases hs with hs | ⟨hs | hs,-⟩
  ·rw [empty_eq hs.2.2.1]; rfl
  ·exact hs.2
  ·rw [empty_eq hs.2]; rfl
 have ho:dU (zb p.next st on held Mg x)=true:=eB hop.1 (by show x.pc≤(x.prog.length:Int) - 1; omega);have hst:bO (zb p.next st on held Mg x)=true:=by
  unfold bO;rw [ho]
  show (if st=0 then _ else if st=1 then _ else if st=2 then true && decide (x.left=0) && cv Mg 1 2000000000 && decide (on=0) && bI held else if st=5 then true && decide (x.left=0) && lh Mg else if st=3∨st=4∨st=6∨st=7 then true && decide (x.left=0) && lh Mg && bI held else false)=true
  rw [hx2];rcases hs with ⟨rfl,rfl,h3,h4⟩ | ⟨⟨rfl,h3⟩ | ⟨h3,h4⟩,h5,-⟩
  ·simp [h3,h4]
  ·simp [h5]
  ·rcases h3 with rfl | rfl | rfl | rfl <;> simp [h4,h5]
 refine ⟨?_,?_,?_,.inr (.inr rfl)⟩
 ·rw [fG,J7]
  refine ⟨?_,hst⟩;unfold jY at hb ⊢;simp only [J7] at hb ⊢;exact ⟨⟨⟨hb.1.1.1,hh⟩,hb.1.2⟩,hb.2⟩
 ·unfold fF
  rw [Kb];exact Za5
 ·unfold dG
  show (if 3≤st then hasB p st on else true)=true
  rcases hs with ⟨rfl,-⟩ | ⟨-,-,h5⟩
  ·rfl
  ·split
   ·exact h5
   ·rfl
theorem Ha {st now:Int} {o:dN} (h:aQ p) (hu:xr id p) (hn:p.next+1≤1000000000) (eu:0≤now∧now≤1000000000) (hm:cv o.2.2.1 (-1) 1000=true)
  (hs:st=5∧bw o.2.2.2=true∨(st=3∨st=4∨st=6∨st=7)∧bI o.2.2.2=true) (hh:hasB p st o.2.1=true):aQ (mX st o now id p):=by
 have hm':=bz.1 hm;unfold mX
 split
 ·exact D6 h hu.up rfl
 ·refine sO h hu hn (.inr ⟨hs,?_,hh⟩)
  unfold lh kZ;rw [Kb]
  split
  ·exact .inl (eB (by omega) (by omega))
  ·exact .inr (by simp)
theorem IT {st now:Int} {o:dN} :p.next≤(mX st o now id p).next∧(mX st o now id p).next≤p.next+1:=by
 unfold mX
 split
 ·exact ⟨LJ _,by show p.next≤_; omega⟩
 ·exact ⟨by show p.next≤p.next+1; omega,LJ _⟩
theorem mx {k d:Int} (h:aQ p) (hd: ∀ s∈p.aj,s.id=k→0≤s.n+d∧s.n+d≤s.max):aQ (nZ k d p):=
 h.GD Zdl (nj h.aj (fun _=>rfl) fun s hs hk=>by
  have h1:=(cK h.aj s hs).2;unfold gw at h1 ⊢;simp only [J7] at h1 ⊢;exact ⟨h1.1,eB (hd s hs hk).1 (hd s hs hk).2⟩)
theorem kw {k:Int} {b:Bool} (h:aQ p):aQ (gL k b p):=h.Cz Zdl (nj h.L9 (fun _=>rfl) fun _ _ _=>rfl)
theorem kA {k:Int} {b:Bool} {t:ByteArray} (h:aQ p) (ht:bw t=true) (hb:b=true∨bI t=true):aQ (ib k b t p):=
 h.C5 Zdl (nj h.ag (fun _=>rfl) fun s hs hk=>by
  unfold cU;simp only [J7,Kb];exact ⟨ht,hb⟩)
theorem lv {l:List ByteArray} {m:Int} :dJ l m=true↔(l.length:Int)≤m∧ ∀ t∈l,bw t=true:=by
 unfold dJ;simp [and_comm]
theorem gN {k:Int} {l:List ByteArray} (h:aQ p) (hl: ∀ b∈p.ae,b.id=k→(l.length:Int)≤b.max) (ht: ∀ t∈l,bw t=true):aQ (cV k l p):=
 h.Cb Zdl (nj h.ae (fun _=>rfl) fun s hs hk=>by
  have h1:=(cK h.ae s hs).2;unfold ct at h1 ⊢;simp only [J7] at h1 ⊢;exact ⟨h1.1,lv.2 ⟨hl s hs hk,ht⟩⟩)
theorem jj {k:Int} {l:List ByteArray} (h:aQ p) (hl: ∀ b∈p.ai,b.id=k→(l.length:Int)≤b.max) (ht: ∀ t∈l,bw t=true):aQ (gU k l p):=
 h.Es Zdl (nj h.ai (fun _=>rfl) fun s hs hk=>by
  have h1:=(cK h.ai s hs).2;unfold dj at h1 ⊢;simp only [J7] at h1 ⊢;exact ⟨h1.1,lv.2 ⟨hl s hs hk,ht⟩⟩)
theorem only {α:Type} {num:α→Int} {ok:α→Bool} {last k:Int} {l:List α} {x y:α} (h:aw num ok last l=true) (hx:cg num k l=o_ x) (hy:y∈l) (hk:num y=k):y=x:=by
 obtain ⟨h1,h2⟩:=ks hx;have h5:=(db h).2;rw [P8] at h5;obtain ⟨i,hi1,rfl⟩:=LK.1 hy;obtain ⟨j,DS,rfl⟩:=LK.1 h1;rcases P9 i j with hlt | heq | hgt
 ·have:=h5 i j hi1 DS hlt; omega
 ·subst heq; rfl
 ·have:=h5 j i DS hi1 hgt; omega
theorem ul {α:Type} {num:α→Int} {k:Int} {l:List α} {x:α} (h:cg num k l=o_ x):decide (k∈l.map num)=true:=by
 obtain ⟨h1,h2⟩:=ks h;exact decide_eq_true (Lr.2 ⟨x,h1,h2⟩)
end
section
open Go.RowKit Go.Maps
attribute [local go_sem ↓] Kc Kd
theorem ac8 {w:w_} {base g n cap off:Nat} {e:T_} {xs vs:List v_} (h:w.ownsRow base e 1 (s_ (o_ ⟨g,0,n_⟩) n cap) n xs) (ho:n≤off):(bn w g off vs).ownsRow base e 1 (s_ (o_ ⟨g,0,n_⟩) n cap) n xs:=by
 refine ⟨h.1,?_⟩;rcases h.2 with ⟨h1,-⟩ | ⟨g',cap',cur,h1,h2,h3,h4,h5,h6,h7⟩
 ·cases h1
 ·simp only [LD,LF,aeS,and_true,true_and] at h1
  obtain ⟨rfl,rfl⟩:=h1;refine .inr ⟨g,cap,iD cur off vs,rfl,h2,jc vs h3,h4,h5,by rw [kM]; exact h6,?_⟩;rw [← h7];apply List.ext_getElem?;intro j;rw [QW,QW]
  split
  ·rw [QJ,QJ,lL _ _ _ _ (by omega)]
  ·rfl
theorem acR {w:w_} {base g n cap:Nat} {e:T_} {xs:List v_} (h:w.ownsRow base e 1 (s_ (o_ ⟨g,0,n_⟩) n cap) n xs) {j:Nat} (hj:j < cap):(w.cell? ⟨g,j,n_⟩).isSome=true∧w.frozen? ⟨g,j,n_⟩=false:=by
 rcases h.2 with ⟨h1,-⟩ | ⟨g',cap',cur,h1,h2,h3,h4,h5,h6,h7⟩
 ·cases h1
 ·simp only [LD,LF,aeS,and_true,true_and] at h1
  obtain ⟨rfl,rfl⟩:=h1
  have:j < cur.size:=by omega
  simp [World.cell?,World.frozen?,h3,this]
theorem adk {w:w_} {base g n cap:Nat} {e:T_} {xs:List v_} (h:w.ownsRow base e 1 (s_ (o_ ⟨g,0,n_⟩) n cap) n xs):w.ownsRow base e 1 (s_ (o_ ⟨g,0,n_⟩) 0 cap) 0 [] :=by
 rcases h.2 with ⟨h1,-⟩ | ⟨g',cap',cur,h1,h2,h3,h4,h5,h6,h7⟩
 ·cases h1
 ·simp only [LD,LF,aeS,and_true,true_and] at h1
  obtain ⟨rfl,rfl⟩:=h1;exact ⟨rfl,.inr ⟨g,cap,cur,rfl,h2,h3,Ky _,h5,h6,by simp⟩⟩
theorem acW (a:Option d_) (n cap:Nat) (w:w_) (hn:n≤cap) (hc:cap≤maxLen) (hz:a=n_→n=0∧cap=0):
  k_ J3 207 #[s_ a n cap,i_ j_ 0,i_ j_ 0] w fun e w'=>e=r_ (s_ a n cap)∧w'=w:=by
 unfold maxLen at hc;cases a with
 | none=>
  obtain ⟨rfl,rfl⟩:=hz rfl;clear hz hn hc
  go_enter func207,ntmps207
  go_wp2;go_ret;exact ⟨rfl,rfl⟩
 | some ad=>
  clear hz;have h1:(n:Int)≤(cap:Int):=by omega
  have h2:(0:Int)≤(n:Int):=by omega
  go_enter func207,ntmps207
  go_wp2;go_ret;exact ⟨rfl,rfl⟩
theorem ac7 (g cap N base:Nat) (l:List ByteArray) (w:w_) (h0:0 < N) (hN:N≤l.length) (hl:l.length≤1000) (ho:w.ownsRow base 9 1 (s_ (o_ ⟨g,0,n_⟩) l.length cap) l.length (bT.flat l)):
  k_ J3 207 #[s_ (o_ ⟨g,0,n_⟩) l.length cap,i_ j_ 0,i_ j_ N] w fun e w'=>e=r_ (s_ (o_ ⟨g,0,n_⟩) (l.length - N) cap)∧w'.ownsRow base 9 1 (s_ (o_ ⟨g,0,n_⟩) (l.length - N) cap) (l.length - N) (bT.flat (l.drop N))∧aI w w' [g] :=by
 have hcap:l.length≤cap∧cap≤maxLen:=by
  rcases ho.2 with ⟨h1,-⟩ | ⟨g',cap',cur,h1,h2,h3,h4,h5,h6,h7⟩
  ·cases h1
  ·simp only [LD,LF,aeS,and_true,true_and] at h1
   obtain ⟨rfl,rfl⟩:=h1;exact ⟨h4,h5⟩
 obtain ⟨A,hA,hsrc⟩: ∃ A:d_,(if cap=N then o_ (⟨g,0,n_⟩:d_) else o_ ⟨g,N,n_⟩)=o_ A∧ ∀ j u,(bT.flat (l.drop N))[j]? =o_ u→w.drew.cell? (A.add j)=o_ u:=by
  have h1:=qK (K:=bT) (k:=N) (c:=cap) hcap.1 (nP ho);have e:(if cap=N then o_ (⟨g,0,n_⟩:d_) else Option.map (fun x:d_=>x.add (N * bT.n)) (o_ (⟨g,0,n_⟩:d_)))=(if cap=N then o_ (⟨g,0,n_⟩:d_) else o_ ⟨g,N,n_⟩):=by
   split
   ·rfl
   ·show o_ ((⟨g,0,n_⟩:d_).add (N * 1))=_
    rw [qZ,Nat.mul_one]
  rw [e] at h1;refine ⟨if cap=N then ⟨g,0,n_⟩ else ⟨g,N,n_⟩,by split <;> rfl,fun j u hu=> ?_⟩;obtain ⟨ad,h2,h3⟩:=h1 j u hu;have h4:(if cap=N then (⟨g,0,n_⟩:d_) else ⟨g,N,n_⟩)=ad:=by
   split at h2 <;> rename_i hh
   ·rw [if_pos hh]; exact KC h2
   ·rw [if_neg hh]; exact KC h2
  rw [h4];exact h3
 obtain ⟨i,hi,e⟩:=Kw.1 zD;simp only [Kx] at e;have hld:(l.drop N).length=l.length - N:=List.length_drop;obtain ⟨w1,hr1,ho1,CT⟩:=run_append_fits (P:=J3) w.drew base 91 91 9 i 1 underlying91 hi e.2.1 g 0 cap [] (aL (adk ho) fun _ _=>rfl) A (l.length - N) (cap - N) (bT.flat (l.drop N)) (by rw [bT.dM,hld]; rfl) hsrc yK (by omega);simp only [Li,List.nil_append] at hr1 ho1;have hcl: ∀ ty,(Builtin.clear_ #[91] ty #[s_ (o_ ⟨g,l.length - N,n_⟩) (l.length - (l.length - N)) (cap - (l.length - N))]).run J3 w1= .ok (u_ #[]) (w1.setCells g (l.length - N) (List.replicate (l.length - (l.length - N)) (t_ ⟨#[]⟩))):=fun ty=>
  Lib.run_clear_slice w1 _ _ ty _ underlying91 Tryz.zeroValue9 rfl rfl g (l.length - N) _ _ (by omega) (fun j hj=>(acR ho1 (by omega)).1) (fun j hj=>(acR ho1 (by omega)).2)
 have HE:Hid ((w1.setCells g (l.length - N) (List.replicate (l.length - (l.length - N)) (t_ ⟨#[]⟩))).ownsRow base 9 1 (s_ (o_ ⟨g,0,n_⟩) (l.length - N) cap) (l.length - N) (bT.flat (l.drop N))∧aI w (w1.setCells g (l.length - N) (List.replicate (l.length - (l.length - N)) (t_ ⟨#[]⟩))) [g]):=by
  rw [iL];refine ⟨ac8 ho1 (Ki _),?_⟩;have h5:aI w w1 [g] :=⟨CT.os,CT.tape,CT.output,CT.size,fun k hk hn=>CT.block k hk fun ee=>hn (by simp at ee; simp [ee])⟩
  exact h5.trans (aI.set _ (by simp))
 have HR:=aA hr1;have n1:(N:Int)≤(l.length:Int):=by omega
 have n2:(l.length:Int)≤(cap:Int):=by omega
 have n3:(N:Int)≤(cap:Int):=by omega
 have n4: ¬ (0:Int)=(N:Int):=by omega
 have n5:(0:Int)≤(N:Int):=by omega
 have n6:N≤cap:=by omega
 have n7:l.length≤cap:=hcap.1;have n8:(cap:Int)≤9223372036854775807:=by have:=hcap.2; unfold maxLen at this; omega
 have n9: ¬ 0=N:=by omega
 clear hsrc ho1 CT ho hr1 e hi hcap hld
 go_enter func207,ntmps207
 go_upto_region 5 with fail;refine wp_region_held_drew (S:=fun _=>True) ZcR trivial (fun _=> ?_);refine tt 0 trivial ?_;refine tt 1 trivial ?_;refine tt 2 trivial ?_;refine tt 3 trivial ?_;refine tt 4 trivial ?_;refine tt 5 trivial ?_
 try simp only [pt,sb,s0,s1]
 refine L7 6 (fun Q hQ=> ?_);refine cM _ _ 91 rfl _ _ _ w1 rfl rfl HR.I ?_;refine hQ.out _ _ trivial (fun _=> ?_);clear hQ Q HR
 try simp only [pt,sb,s0,s1]
 refine tt 7 trivial ?_;refine wpAnyH_done ZcR ?_ _;have n10:((l.length - N:Nat):Int)≤(l.length:Int):=by omega
 have n11:(0:Int)≤((l.length - N:Nat):Int):=by omega
 have n12: ¬ cap=l.length - N:=by omega
 go_wp2;go_ret;exact ⟨rfl,HE.I⟩
theorem adJ (a:Option d_) (cap N base:Nat) (l:List ByteArray) (w:w_) (hN:N≤l.length) (hl:l.length≤1000) (ho:w.ownsRow base 9 1 (s_ a l.length cap) l.length (bT.flat l)):
  k_ J3 207 #[s_ a l.length cap,i_ j_ 0,i_ j_ N] w fun e w'=>e=r_ (s_ a (l.length - N) cap)∧w'.ownsRow base 9 1 (s_ a (l.length - N) cap) (l.length - N) (bT.flat (l.drop N))∧aI w w' (blk a):=by
 by_cases h0:N=0
 ·subst h0
  have hc:l.length≤cap∧cap≤maxLen∧(a=n_→l.length=0∧cap=0):=by
   rcases ho.2 with ⟨h1,h2⟩ | ⟨g',cap',cur,h1,h2,h3,h4,h5,h6,h7⟩
   ·simp only [LD] at h1
    exact ⟨by omega,by rw [h1.2.2]; exact Ky _,fun _=>⟨h2,h1.2.2⟩⟩
   ·simp only [LD] at h1
    rw [h1.2.2];exact ⟨h4,h5,fun e=>by rw [e] at h1; cases h1.1⟩
  refine (acW a l.length cap w hc.1 hc.2.1 hc.2.2).mono ?_;rintro e w' ⟨rfl,rfl⟩;exact ⟨by rw [Nat.sub_zero],by rw [Nat.sub_zero,List.drop_zero]; exact ho,aI.refl _ _⟩
 ·rcases ho.2 with ⟨h1,h2⟩ | ⟨g',cap',cur,h1,h2,h3,h4,h5,h6,h7⟩
  ·omega
  ·simp only [LD] at h1
   obtain ⟨rfl,-,rfl⟩:=h1;exact (ac7 g' cap N base l w (by omega) hN hl ho).mono fun e w' h=>⟨h.1,h.2.1,h.2.2.mono fun b hb=>by simpa [blk] using hb⟩
def pF (nx code:Int) (x:ao):ao:=⟨iY nx code x.toaD,x.aY,x.bH⟩
abbrev yA (W w:w_) (base gs:Nat) (z q:af):Prop:=av W w.heap.size z∧W.heap[w.heap.size+1]? =o_ (c_ ar 38)∧ap W base q∧aI w W [gs] ∧B_ base w W
theorem re {n:Nat} {x y:ao} {l:List ao} (hx:l[n]? =o_ x) (hy:y.aY=x.aY):(l.set n y).filterMap aR.bt=l.filterMap aR.bt:=by
 have hn:=(Lj.1 hx).1;have e:l[n] =x:=(Lj.1 hx).2;rw [RJ,if_pos hn]
 conv=>rhs; rw [← Qn n l,List.drop_eq_getElem_cons hn]
 simp only [LW,LH,e];have hk:aR.bt y=aR.bt x:=by show (y.aY).map _=(x.aY).map _; rw [hy]
 rw [hk]
theorem Ad {n:Nat} {q:af} {x:ao} {code:Int} {g:Nat} (hx:q.L8[n]? =o_ x) (h:g∈({ q with L8:=q.L8.set n (fE code x) } :af).Mc):g∈q.Mc:=by
 unfold af.Mc at h ⊢;simp only [re hx (show (fE code x).aY=x.aY from rfl)] at h;exact h
theorem yZ {n:Nat} {q:af} {nx s:Int} {y:ao} {g:Nat} (hx:q.L8[n]? =o_ y) (h:g∈({ q with next:=nx,L8:=q.L8.set n { y with RU:=s } } :af).Mc):g∈q.Mc:=by
 unfold af.Mc at h ⊢;simp only [re hx (show ({ y with RU:=s } :ao).aY=y.aY from rfl)] at h;exact h
theorem vT (q:af) (n base:Nat) (x:ao) (code:Int) (w:w_) (h:ap w base q) (hb:base≤w.heap.size) (hx:q.L8[n]? =o_ x) (hpc:0≤x.pc∧x.pc < x.prog.length) (hl:x.prog.length≤1048576) (hn:0≤q.next∧q.next≤1000000000):
  k_ J3 102 #[a_ q.cells,i_ j_ n,i_ j_ code] w fun e w'=> ∃ q2:af,e=r_ (a_ q2.cells)∧q2= { q with next:=gf q.next x.toaD,L8:=q.L8.set n (pF q.next code x) } ∧ap w' base q2∧B_ base w w'∧aI w w' (blk q.aN):=by
 obtain ⟨gs,ha,-⟩:=cn h.at.1 hx;have hgs:=cf h.L8 (g:=gs) (by rw [ha]; simp [blk]);have hnl:n < q.L8.length:=(Lj.1 hx).1;obtain ⟨afG,afd,ps,pA,pC,ss,afV,afX,es,afA,afq,bs,afR,afK,fs,aga,afN,ts,afr,af4⟩:=q;simp only at ha;subst ha;obtain ⟨C,hC⟩: ∃ C:Array v_,C= #[i_ j_ afG,i_ j_ afd,s_ (o_ ⟨gs,0,n_⟩) ps.length pC,s_ afV ss.length afX,s_ afA es.length afq,s_ afR bs.length afK,s_ aga fs.length afN,s_ afr ts.length af4] :=⟨_,rfl⟩
 obtain ⟨D,hD⟩: ∃ D:af,D=(⟨afG,afd,ps,o_ ⟨gs,0,n_⟩,pC,ss,afV,afX,es,afA,afq,bs,afR,afK,fs,aga,afN,ts,afr,af4⟩:af):=⟨_,rfl⟩
 obtain ⟨A,hA⟩: ∃ A:w_,A=(w.alloc (c_ C 38)).alloc (c_ ar 38):=⟨_,rfl⟩
 have b1:B_ w.heap.size w A:=by rw [hA]; exact dT _ _ _
 have h2:=cZ w (c_ C 38) (c_ ar 38);have HC:Hid (ps[n]? =o_ x∧base≤gs∧gs < w.heap.size∧base≤w.heap.size∧n < ps.length):=⟨hx,hgs.1,hgs.2,hb,hnl⟩
 have PBK:Hid (∀ g∈D.Mc,g < w.heap.size):=fun g hg=>(h.lt g (hD ▸ hg)).2
 have HA:Hid (av A w.heap.size D∧A.heap[w.heap.size+1]? =o_ (c_ ar 38)∧ap A base D∧B_ w.heap.size w A):=by subst hA hD hC; exact ⟨h2.1,h2.2,h.below b1,b1⟩
 subst hA hD hC;have HN:Hid (0≤afd∧afd≤1000000000):=hn;have Mb:=ve _ n base x code _ HA.I.2.2.1 (by have:=HC.I.2.2.2.1; have:=b1.size; omega) hx hpc hl;have j0:(0:Int)≤(n:Int):=by omega
 have j1:(n:Int) < ((ps.set n (fE code x)).length:Int):=by have:n < ps.length:=hnl; rw [LI]; omega
 rw [LI] at j1;clear h hb hx hgs b1 h2 hnl hl hpc hn;unfold af.cells at Mb ⊢;simp only at Mb ⊢
 go_enter func102,ntmps102
 obtain ⟨m0,m1,m2,m3,m4,m5,m6,m7⟩:=HA.I.1.cells;go_wp2_with fail;clear m0 m1 m2 m3 m4 m5 m6 m7;refine Mb.mono ?_;clear Mb;rintro e w1 ⟨rfl,ho1,hb1,hk1⟩;have H1:Hid (yA w1 w base gs (⟨afG,afd,ps,o_ ⟨gs,0,n_⟩,pC,ss,afV,afX,es,afA,afq,bs,afR,afK,fs,aga,afN,ts,afr,af4⟩:af) (⟨afG,afd,(ps.set n (fE code x)),o_ ⟨gs,0,n_⟩,pC,ss,afV,afX,es,afA,afq,bs,afR,afK,fs,aga,afN,ts,afr,af4⟩:af)):=by
  have hc:=HC.I;have hk:aI w w1 [gs] :=(aI.dI HA.I.2.2.2).trans hk1;have l1:=(J2.1 HA.I.2.1).1;exact ⟨(hk1.same _ (by omega) ZdL).trans HA.I.1,(hk1.same _ (by omega) ZdL).trans HA.I.2.1,ho1,hk,(HA.I.2.2.2.mono hc.2.2.2.1).trans hb1⟩
 have PB1:Hid (∀ g∈(⟨afG,afd,(ps.set n (fE code x)),o_ ⟨gs,0,n_⟩,pC,ss,afV,afX,es,afA,afq,bs,afR,afK,fs,aga,afN,ts,afr,af4⟩:af).Mc,g < w.heap.size):=fun g hg=>PBK.I g (Ad HC.I.1 hg)
 clear ho1 hb1 hk1 HA;have H2:Hid (yA (w1.setRow w.heap.size #[i_ j_ afG,i_ j_ afd,s_ (o_ ⟨gs,0,n_⟩) ps.length pC,s_ afV ss.length afX,s_ afA es.length afq,s_ afR bs.length afK,s_ aga fs.length afN,s_ afr ts.length af4]) w base gs (⟨afG,afd,ps,o_ ⟨gs,0,n_⟩,pC,ss,afV,afX,es,afA,afq,bs,afR,afK,fs,aga,afN,ts,afr,af4⟩:af) (⟨afG,afd,(ps.set n (fE code x)),o_ ⟨gs,0,n_⟩,pC,ss,afV,afX,es,afA,afq,bs,afR,afK,fs,aga,afN,ts,afr,af4⟩:af)):=by
  have hc:=HC.I;exact ⟨KU _ _ _ _ _ _ H1.I.1,(KH _ _ _ _ (by omega)).trans H1.I.2.1,H1.I.2.2.1.same fun g hg=>KH _ _ _ _ (by have:=PB1.I g hg; omega),H1.I.2.2.2.1.more (q_ (Kp _ _) (by omega) _),q_ H1.I.2.2.2.2 (by omega) _⟩
 have hx1:(ps.set n (fE code x))[n]? =o_ (fE code x):=by rw [LU HC.I.2.2.2.2]
 have xi:Hid ((ps.set n (fE code x))[n]? =o_ (fE code x)):=hx1;obtain ⟨m0,m1,m2,m3,m4,m5,m6,m7⟩:=H2.I.1.cells;obtain ⟨d3⟩:World.cell? (w1.setRow w.heap.size #[i_ j_ afG,i_ j_ afd,s_ (o_ ⟨gs,0,n_⟩) ps.length pC,s_ afV ss.length afX,s_ afA es.length afq,s_ afR bs.length afK,s_ aga fs.length afN,s_ afr ts.length af4]) ⟨gs,n * 12+3,n_⟩=o_ (i_ j_ (fE code x).Md)∧True:=by
  obtain ⟨g,e,h5⟩:=cn H2.I.2.2.1.at.1 hx1;cases e;exact ⟨h5.2.2.2.1,trivial⟩
 by_cases hlen:x.pc+1=x.prog.length
 ·have e1:((fE code x).Md == 1)=false:=by show ((jT code x.toaD).Md == 1)=false; unfold jT; rw [if_pos hlen]; rfl
  have HE:Hid (gf afd x.toaD=afd∧pF afd code x=(fE code x)):=by show _∧_; unfold gf pF fE iY jT; rw [if_pos hlen,if_pos hlen,if_pos hlen]; exact ⟨rfl,rfl⟩
  clear hlen hx1;go_wp2_with (first | (refine ec 3 10 #[i_ j_ afG,i_ j_ afd,s_ (o_ ⟨gs,0,n_⟩) ps.length pC,s_ afV ss.length afX,s_ afA es.length afq,s_ afR bs.length afK,s_ aga fs.length afN,s_ afr ts.length af4] H1.I.1 ?_) | (refine ec 6 21 #[i_ j_ afG,i_ j_ afd,s_ (o_ ⟨gs,0,n_⟩) ps.length pC,s_ afV ss.length afX,s_ afA es.length afq,s_ afR bs.length afK,s_ aga fs.length afN,s_ afr ts.length af4] H2.I.2.1 ?_));refine gZ results102 H2.I.2.1 ?_;rw [HE.I.1,HE.I.2];refine ⟨_,?_,rfl,H2.I.2.2.1.same fun g hg=>KH _ _ _ _ (by have:=PB1.I g hg; omega),q_ H2.I.2.2.2.2 (by have:=HC.I.2.2.2.1; omega) _,H2.I.2.2.2.1.more (q_ (Kp _ _) (by omega) _)⟩;simp only [LI]
 have e1:((fE code x).Md == 1)=true:=by show ((jT code x.toaD).Md == 1)=true; unfold jT; rw [if_neg hlen]; rfl
 have HE:Hid (gf afd x.toaD=afd+1∧pF afd code x= { (fE code x) with RU:=afd }):=by show _∧_; unfold gf pF fE iY jT; rw [if_neg hlen,if_neg hlen,if_neg hlen]; exact ⟨rfl,rfl⟩
 clear hlen;have Mb:=qG _ n base (fE code x) _ H2.I.2.2.1 (by have:=HC.I.2.2.2.1; have:=H2.I.2.2.2.1.size; omega) hx1 HN.I;unfold af.cells at Mb;simp only [LI] at Mb;clear hx1;go_wp2_with (refine ec 3 10 #[i_ j_ afG,i_ j_ afd,s_ (o_ ⟨gs,0,n_⟩) ps.length pC,s_ afV ss.length afX,s_ afA es.length afq,s_ afR bs.length afK,s_ aga fs.length afN,s_ afr ts.length af4] H1.I.1 ?_);clear m0 m1 m2 m3 m4 m5 m6 m7 d3 e1;refine Mb.mono ?_;clear Mb;rintro e w3 ⟨q3,he,rfl,Bn,hb3,hk3⟩;simp only [LI] at he;subst he;have H3:Hid (yA w3 w base gs (⟨afG,afd,ps,o_ ⟨gs,0,n_⟩,pC,ss,afV,afX,es,afA,afq,bs,afR,afK,fs,aga,afN,ts,afr,af4⟩:af) (⟨afG,(afd+1),((ps.set n (fE code x)).set n ({ (fE code x) with RU:=afd } :ao)),o_ ⟨gs,0,n_⟩,pC,ss,afV,afX,es,afA,afq,bs,afR,afK,fs,aga,afN,ts,afr,af4⟩:af)):=by
  have hc:=HC.I;have l1:=(J2.1 H2.I.2.1).1;exact ⟨(hk3.same _ (by omega) ZdL).trans H2.I.1,(hk3.same _ (by omega) ZdL).trans H2.I.2.1,Bn,H2.I.2.2.2.1.trans hk3,H2.I.2.2.2.2.trans hb3⟩
 have PB3:Hid (∀ g∈(⟨afG,(afd+1),((ps.set n (fE code x)).set n ({ (fE code x) with RU:=afd } :ao)),o_ ⟨gs,0,n_⟩,pC,ss,afV,afX,es,afA,afq,bs,afR,afK,fs,aga,afN,ts,afr,af4⟩:af).Mc,g < w.heap.size):=fun g hg=>PB1.I g (yZ (q:=(⟨afG,afd,(ps.set n (fE code x)),o_ ⟨gs,0,n_⟩,pC,ss,afV,afX,es,afA,afq,bs,afR,afK,fs,aga,afN,ts,afr,af4⟩:af)) xi.I hg)
 clear Bn hb3 hk3 H1 H2;have H4:Hid (yA (w3.setRow w.heap.size #[i_ j_ afG,i_ j_ (afd+1),s_ (o_ ⟨gs,0,n_⟩) ps.length pC,s_ afV ss.length afX,s_ afA es.length afq,s_ afR bs.length afK,s_ aga fs.length afN,s_ afr ts.length af4]) w base gs (⟨afG,(afd+1),ps,o_ ⟨gs,0,n_⟩,pC,ss,afV,afX,es,afA,afq,bs,afR,afK,fs,aga,afN,ts,afr,af4⟩:af) (⟨afG,(afd+1),((ps.set n (fE code x)).set n ({ (fE code x) with RU:=afd } :ao)),o_ ⟨gs,0,n_⟩,pC,ss,afV,afX,es,afA,afq,bs,afR,afK,fs,aga,afN,ts,afr,af4⟩:af)):=by
  have hc:=HC.I;exact ⟨KU _ _ _ _ _ _ H3.I.1,(KH _ _ _ _ (by omega)).trans H3.I.2.1,H3.I.2.2.1.same fun g hg=>KH _ _ _ _ (by have:=PB3.I g hg; omega),H3.I.2.2.2.1.more (q_ (Kp _ _) (by omega) _),q_ H3.I.2.2.2.2 (by omega) _⟩
 obtain ⟨m0,m1,m2,m3,m4,m5,m6,m7⟩:=H4.I.1.cells;go_wp2_with (first | (refine ec 3 20 #[i_ j_ afG,i_ j_ (afd+1),s_ (o_ ⟨gs,0,n_⟩) ps.length pC,s_ afV ss.length afX,s_ afA es.length afq,s_ afR bs.length afK,s_ aga fs.length afN,s_ afr ts.length af4] H3.I.1 ?_) | (refine ec 6 21 #[i_ j_ afG,i_ j_ (afd+1),s_ (o_ ⟨gs,0,n_⟩) ps.length pC,s_ afV ss.length afX,s_ afA es.length afq,s_ afR bs.length afK,s_ aga fs.length afN,s_ afr ts.length af4] H4.I.2.1 ?_));refine gZ results102 H4.I.2.1 ?_;rw [HE.I.1,HE.I.2];refine ⟨_,?_,rfl,?_,q_ H4.I.2.2.2.2 (by have:=HC.I.2.2.2.1; omega) _,H4.I.2.2.2.1.more (q_ (Kp _ _) (by omega) _)⟩
 ·simp only [LI]
 ·have h5:=H4.I.2.2.1.same (w':=(w3.setRow w.heap.size #[i_ j_ afG,i_ j_ (afd+1),s_ (o_ ⟨gs,0,n_⟩) ps.length pC,s_ afV ss.length afX,s_ afA es.length afq,s_ afR bs.length afK,s_ aga fs.length afN,s_ afr ts.length af4]).setRow (w.heap.size+1) #[i_ j_ afG,i_ j_ (afd+1),s_ (o_ ⟨gs,0,n_⟩) ps.length pC,s_ afV ss.length afX,s_ afA es.length afq,s_ afR bs.length afK,s_ aga fs.length afN,s_ afr ts.length af4]) fun g hg=>KH _ _ _ _ (by have:=PB3.I g hg; omega)
  rw [List.set_set] at h5;exact h5
end
theorem dv {o:dN} (h:kc o=true):(1≤o.1∧o.1≤17)∧(¬ o.1=17→1≤o.2.1∧o.2.1≤1000)∧cv o.2.2.1 (-1) 1000=true∧bw o.2.2.2=true∧(¬ o.1=8→ ¬ o.1=10→ ¬ o.1=13→bI o.2.2.2=true):=by
 unfold kc mQ at h
 split at h
 ·simp only [J7,decide_eq_true_eq] at h
  have h1:=bz.1 h.1.1;exact ⟨by omega,fun _=>h1,by rw [h.1.2]; rfl,by rw [empty_eq h.2]; rfl,fun _ _ _=>h.2⟩
 ·split at h
  ·simp only [J7] at h
   have h1:=bz.1 h.1.1;exact ⟨by omega,fun _=>h1,h.1.2,by rw [empty_eq h.2]; rfl,fun _ _ _=>h.2⟩
  ·split at h
   ·simp only [J7] at h
    have h1:=bz.1 h.1.1;exact ⟨by omega,fun _=>h1,h.1.2,h.2,fun e _ _=>by omega⟩
   ·split at h
    ·simp only [J7,decide_eq_true_eq] at h
     have h1:=bz.1 h.1.1;exact ⟨by omega,fun _=>h1,by rw [h.1.2]; rfl,h.2,fun _ e1 e2=>by omega⟩
    ·split at h
     ·simp only [J7,decide_eq_true_eq] at h
      exact ⟨by omega,fun e=>by omega,by rw [h.1.2]; rfl,by rw [empty_eq h.2]; rfl,fun _ _ _=>h.2⟩
     ·cases h
theorem n7 (n:Int):n≤n∧n≤n+7:=by omega
def sS (p q:aE):Prop:=aQ q∧p.next≤q.next∧q.next≤p.next+7
section
variable {p:aE} {id now:Int} {o:dN}
theorem cP {code:Int} {q:aE} (h:aQ q) (hu:afc id q) (hc:cv code 0 3=true) (hn:p.next≤q.next∧q.next≤p.next+7):sS p (bu code id q):=⟨D6 h hu hc,hn⟩
theorem B8 {st:Int} {q:aE} (h:aQ q) (hu:xr id q) (hq:q.next=p.next) (hn:p.next+1≤1000000000) (eu:0≤now∧now≤1000000000) (hm:cv o.2.2.1 (-1) 1000=true)
  (hs:st=5∧bw o.2.2.2=true∨(st=3∨st=4∨st=6∨st=7)∧bI o.2.2.2=true) (hh:hasB q st o.2.1=true):sS p (mX st o now id q):=by
 have h1:=IT (p:=q) (id:=id) (st:=st) (now:=now) (o:=o);exact ⟨Ha h hu (by omega) eu hm hs hh,by omega,by omega⟩
theorem pw {s:bD} (h:aQ p) (hf:cg (·.id) o.2.1 p.aj=o_ s):hasB p 3 o.2.1=true∧0≤s.n∧s.n≤s.max:=by
 refine ⟨ul hf,?_⟩;have h1:=(cK h.aj s (ks hf).1).2;unfold gw at h1;simp only [J7] at h1;exact bz.1 h1.2
theorem ji {b:ci} (h:aQ p) (hf:cg (·.id) o.2.1 p.ae=o_ b):hasB p 5 o.2.1=true∧hasB p 6 o.2.1=true∧(b.Ma.length:Int)≤b.max∧ ∀ t∈b.Ma,bw t=true:=by
 refine ⟨ul hf,ul hf,?_⟩;have h1:=(cK h.ae b (ks hf).1).2;unfold ct at h1;simp only [J7] at h1;exact lv.1 h1.2
theorem nB {q:dS} (h:aQ p) (hf:cg (·.id) o.2.1 p.ai=o_ q):1≤q.max∧(q.Ma.length:Int)≤q.max∧ ∀ t∈q.Ma,bw t=true:=by
 have h1:=(cK h.ai q (ks hf).1).2;unfold dj at h1;simp only [J7] at h1;exact ⟨(bz.1 h1.1.1).1,lv.1 h1.2⟩
theorem sX {b:az} (h:aQ p) (hf:cg (·.id) o.2.1 p.ag=o_ b):hasB p 7 o.2.1=true∧bw b.text=true:=by
 refine ⟨ul hf,?_⟩;have h1:=(cK h.ag b (ks hf).1).2;unfold cU at h1;simp only [J7] at h1;exact h1.1
theorem CO (h:aQ p) (hu:xr id p) (hn:p.next≤999999990) (ho:kc o=true) (hk:o.1=3) (eu:0≤now∧now≤1000000000):sS p (mh o now id p):=by
 obtain ⟨f0,f1,f2,f3,f4⟩:=dv ho;unfold mh
 split
 ·exact Q1
 ·rename_i s hs
  obtain ⟨k1,k2,k3⟩:=pw h hs
  split
  ·exact B8 h hu rfl (by omega) eu f2 (.inr ⟨.inl rfl,f4 (by omega) (by omega) (by omega)⟩) k1
  ·exact ZbS
theorem yH (h:aQ p) (hu:xr id p) (hn:p.next≤999999990):sS p (gJ o id p):=by
 unfold gJ
 split
 ·exact Q1
 ·rename_i s hs
  obtain ⟨k1,k2,k3⟩:=pw h hs
  split
  ·rename_i y hy
   obtain ⟨m1,m2,-⟩:=ft hy;have h3:=mU p.next y;exact cP (i9 h m1 (by omega) (.inl rfl) (by omega)) (hu.up.Mg m1 (by omega) fun _=>rfl) rfl Zdg
  ·split
   ·exact Q1
   ·exact ZbS
theorem zn (h:aQ p) (hu:xr id p) (hn:p.next≤999999990) (ho:kc o=true) (hk:o.1=5∨o.1=6∨o.1=7) (eu:0≤now∧now≤1000000000):sS p (dE o now id p):=by
 obtain ⟨f0,f1,f2,f3,f4⟩:=dv ho;unfold dE
 split
 ·exact Q1
 ·rename_i e he
  split
  ·have h1:=pP (on:=o.2.1) (f:=fun y=>y) (st:=4) (by decide) (.inl rfl) (kw (k:=o.2.1) (b:=true) h) hn
   have h2:(gL o.2.1 true p).next=p.next:=rfl;exact cP h1.1 (afc.ff (p:=gL o.2.1 true p) hu.up (by decide) fun _=>rfl) rfl (by omega)
  ·split
   ·exact cP (kw h) hu.up rfl (n7 p.next)
   ·split
    ·exact Q1
    ·exact B8 h hu rfl (by omega) eu f2 (.inr ⟨.inr (.inl rfl),f4 (by omega) (by omega) (by omega)⟩) (ul he)
theorem Dg (h:aQ p) (hu:xr id p) (hn:p.next≤999999990) (ho:kc o=true) (eu:0≤now∧now≤1000000000):sS p (lc o now id p):=by
 obtain ⟨f0,f1,f2,f3,f4⟩:=dv ho;unfold lc
 split
 ·exact Q1
 ·rename_i b hb
  obtain ⟨k1,k2,k3,k4⟩:=ji h hb
  split
  ·rename_i y hy
   obtain ⟨m1,m2,-⟩:=ft hy;have h3:=mU p.next y;exact cP (i9 h m1 (by omega) (.inr ⟨_,f3,rfl⟩) (by omega)) (hu.up.Mg m1 (by omega) fun _=>rfl) rfl Zdg
  ·split
   ·exact B8 h hu rfl (by omega) eu f2 (.inl ⟨rfl,f3⟩) k1
   ·refine cP (gN h (fun y hy hk=> ?_) fun t ht=> ?_) hu.up rfl (n7 p.next)
    ·rw [only h.ae hb hy hk,Lf]; simp only [Lg,K4]; omega
    ·rcases Kg.1 ht with ht | ht
     ·exact k4 t ht
     ·exact ZbL
theorem Dd (h:aQ p) (hu:xr id p) (hn:p.next≤999999990) (ho:kc o=true) (hk:o.1=9) (eu:0≤now∧now≤1000000000):sS p (ka o now id p):=by
 obtain ⟨f0,f1,f2,f3,f4⟩:=dv ho;unfold ka
 split
 ·exact Q1
 ·rename_i b hb
  obtain ⟨k1,k2,k3,k4⟩:=ji h hb
  split
  ·exact B8 (iQ h jX) hu.got rfl (by omega) eu f2 (.inr ⟨.inr (.inr (.inl rfl)),f4 (by omega) (by omega) (by omega)⟩) k2
  ·rename_i t r hr
   rw [hr] at k3 k4;simp only [Lg] at k3;have hg:aQ (ez t id p):=iQ h (k4 t (by simp));have hg':xr id (ez t id p):=hu.got;have hgb:cg (·.id) o.2.1 (ez t id p).ae=o_ b:=hb
   split
   ·refine cP (gN hg (fun y hy hk=> ?_) fun t ht=>k4 t (by simp [ht])) hg'.up rfl (n7 p.next)
    rw [only hg.ae hgb hy hk]; omega
   ·rename_i y hy
    obtain ⟨m1,m2,-⟩:=ft hy;have h3:=mU p.next y;have hh:bw y.held=true:=by
     have h5:=iF (hg.proc m1).2.1;unfold jY at h5;simp only [J7] at h5;exact h5.1.1.2
    have hb2:aQ (cV o.2.1 (r ++ [y.held]) (ez t id p)):=gN hg (fun z hz hk=>by rw [only hg.ae hgb hz hk,Lf]; simp only [Lg,K4]; omega) fun s hs=>by
     rcases Kg.1 hs with hs | hs
     ·exact k4 s (by simp [hs])
     ·simp only [Kt,Ku,or_false] at hs; rw [hs]; exact hh
    exact cP (i9 hb2 m1 (by omega) (.inl rfl) (by show p.next+1≤_; omega)) (afc.Mg (p:=cV o.2.1 (r ++ [y.held]) (ez t id p)) hg'.up m1 (by omega) fun _=>rfl) rfl Zdg
theorem yv (h:aQ p) (hu:xr id p) (hn:p.next≤999999990) (ho:kc o=true) (hk:o.1=10∨o.1=11∨o.1=12) (eu:0≤now∧now≤1000000000):sS p (dC o now id p):=by
 obtain ⟨f0,f1,f2,f3,f4⟩:=dv ho;unfold dC
 split
 ·exact Q1
 ·rename_i b hb
  obtain ⟨k1,k2⟩:=sX h hb
  split
  ·have h1:=pP (on:=o.2.1) (f:=lG o.2.2.2) (st:=7) (by decide) (.inr ⟨_,f3,rfl⟩) (kA (k:=o.2.1) (b:=true) h f3 (.inl rfl)) hn
   have h2:(ib o.2.1 true o.2.2.2 p).next=p.next:=rfl;exact cP h1.1 (afc.ff (p:=ib o.2.1 true o.2.2.2 p) hu.up (by decide) fun _=>rfl) rfl (by omega)
  ·split
   ·exact cP (kA h jX (.inr oB)) hu.up rfl (n7 p.next)
   ·split
    ·exact cP (iQ h k2) hu.got.up rfl (n7 p.next)
    ·exact B8 (iQ h k2) hu.got rfl (by omega) eu f2 (.inr ⟨.inr (.inr (.inr rfl)),f4 (by omega) (by omega) (by omega)⟩) k1
theorem By (h:aQ p) (hu:xr id p) (ho:kc o=true):sS p (ig o id p):=by
 obtain ⟨f0,f1,f2,f3,f4⟩:=dv ho;unfold ig
 split
 ·exact Q1
 ·rename_i q hq
  obtain ⟨k1,k2,k3⟩:=nB h hq
  split
  ·exact Q1
  ·split
   ·refine cP (jj h (fun y hy hk=> ?_) fun t ht=> ?_) hu.up rfl (n7 p.next)
    ·rw [only h.ai hq hy hk]; exact k1
    ·exact ZbL
   ·split
    ·exact Q1
    ·refine cP (jj h (fun y hy hk=> ?_) fun t ht=> ?_) hu.up rfl (n7 p.next)
     ·rw [only h.ai hq hy hk,Lf]; simp only [Lg,K4]; omega
     ·rcases Kg.1 ht with ht | ht
      ·exact k3 t ht
      ·exact ZbL
theorem zO (h:aQ p) (hu:xr id p):sS p (gC o id p):=by
 unfold gC
 split
 ·exact Q1
 ·rename_i q hq
  obtain ⟨k1,k2,k3⟩:=nB h hq
  split
  ·exact Q1
  ·split
   ·exact cP (iQ h jX) hu.got.up rfl (n7 p.next)
   ·rename_i t r hr
    rw [hr] at k2 k3;simp only [Lg] at k2;have hg:aQ (ez t id p):=iQ h (k3 t (by simp));have hgb:cg (·.id) o.2.1 (ez t id p).ai=o_ q:=hq
    split
    ·refine cP (jj hg (fun y hy hk=> ?_) fun t ht=>k3 t (by simp [ht])) hu.got.up rfl (n7 p.next)
     rw [only hg.ai hgb hy hk]; omega
    ·exact cP hg hu.got.up rfl (n7 p.next)
theorem AO (h:aQ p) (hu:xr id p) (hn:p.next≤999999990):sS p (jU o id p):=by
 have hnx:=bz.1 h.next;unfold jU
 split
 ·exact Q1
 ·rename_i y hy
  split
  ·rename_i h0
   obtain ⟨m1,m2⟩:=ks hy;have hne: ¬ o.2.1=id:=fun e=>by have:=hu.up y m1 (by omega); omega
   refine cP (h.ju (nx:=p.next+1) (f:=fun y=> { y with Md:=1,RU:=p.next }) (fun _=>rfl) ⟨by omega,by omega⟩ fun z hz hi=> ?_) (hu.up.other hne fun _=>rfl) rfl (by show p.next≤p.next+1∧p.next+1≤p.next+7; omega);have e:=only h.L8 hy hz hi;subst e;obtain ⟨-,q1,q2,q3⟩:=h.proc hz;have q4:=iF q1;rw [fG,J7] at q1;have q5:=q1.2;unfold bO at q5;rw [if_pos h0] at q5;simp only [J7,decide_eq_true_eq] at q5;obtain ⟨⟨⟨⟨⟨a1,a2⟩,a3⟩,a4⟩,a5⟩,a6⟩:=q5;have q6:jm z.prog=true:=by
    unfold jY at q4;simp only [J7] at q4;exact q4.1.1.1.2
   refine ⟨?_,?_,rfl,.inr (.inr rfl)⟩
   ·exact Zbr
   ·unfold fF
    rw [Kb];exact Za5
  ·exact Q1
theorem nG (h:aQ p) {k:Int} :aQ (ot k p):=by
 have hnx:=bz.1 h.next;refine h.ju (nx:=p.next) (f:=j7) (fun _=>rfl) ⟨LJ _,hnx.2⟩ fun z hz hi=> ?_
 exact ⟨vQ (iF (h.proc hz).2.1),rfl,rfl,.inr (.inl rfl)⟩
theorem Dr (h:aQ p) (hu:xr id p):sS p (lg o id p):=by
 unfold lg
 split
 ·exact Q1
 ·split
  ·exact Q1
  ·split
   ·exact ⟨nG h,n7 p.next⟩
   ·rename_i hne
    exact cP (nG h) (hu.up.other hne fun _=>rfl) rfl (n7 p.next)
end
theorem fK {P:aE→Prop} {c:Prop} [Decidable c] {a b:aE} (h1:c→P a) (h2: ¬ c→P b):P (if c then a else b):=by
 split
 ·exact h1 ‹_›
 ·exact h2 ‹_›
theorem AW {p:aE} {x:aD} {now:Int} (h:aQ p) (hx:x∈p.L8) (hs:x.Md=1) (hn:p.next≤999999990) (eu:0≤now∧now≤1000000000):kc (opAt x)=true∧sS p (lX now x (opAt x) p):=by
 obtain ⟨-,k1,k2,k3⟩:=h.proc hx;have hnx:=bz.1 h.next;have hop:=iT k1 (by rw [hs]; decide);have hb:=iF k1;have hpl:jm x.prog=true:=by
  unfold jY at hb;simp only [J7] at hb;exact hb.1.1.1.2
 have hlt:x.pc.toNat < x.prog.length:=by omega
 have hoa:opAt x=x.prog[x.pc.toNat] :=by unfold opAt; rw [Kz hlt]; rfl
 have ho:kc (opAt x)=true:=by rw [hoa]; exact yG hpl (Kz hlt)
 refine ⟨ho,?_⟩;have hst:dU x=true∧jJ x=true∧x.Mg=0∧x.on=0∧bI x.held=true:=by
  rw [fG,J7] at k1;have h3:=k1.2;unfold bO at h3;rw [if_neg (by omega),if_pos hs] at h3;simp only [J7,decide_eq_true_eq] at h3;exact ⟨h3.1.1.1.1,h3.1.1.1.2,h3.1.1.2,h3.1.2,h3.2⟩
 have hone: ∀ y∈p.L8,y.id=x.id→y=x:=fun y hy e=>by
  exact K_
 have hup:afc x.id p:=fun y hy e=>by rw [hone y hy e]; exact hs
 obtain ⟨f0,f1,f2,f3,f4⟩:=dv ho;have hl: ¬ (opAt x).1=1→xr x.id p:=fun hk y hy e=>by
  rw [hone y hy e];refine ⟨hs,?_⟩;have h4:=hst.2.1;unfold jJ at h4;rw [if_neg hk] at h4;exact of_decide_eq_true h4
 unfold lX;refine fK (P:=sS p) (fun hk=> ?_) (fun hk1=> ?_)
 ·have h4:=hst.2.1
  unfold jJ at h4;rw [if_pos hk] at h4;simp only [J7,decide_eq_true_eq] at h4;have hN:=f1 (by omega);unfold GY;refine fK (P:=sS p) (fun _=> ?_) (fun hne=> ?_)
  ·exact cP h hup rfl (by omega)
  ·refine ⟨h.ju (nx:=p.next) (f:=fun y=> { y with left:=(if x.left=0 then (opAt x).2.1 else x.left) - 1 }) (fun _=>rfl) ⟨LJ _,hnx.2⟩ fun z hz hi=> ?_,n7 p.next⟩
   rw [hone z hz hi];refine ⟨?_,k2,k3,.inl rfl⟩;rw [fG,J7];refine ⟨hb,?_⟩;unfold bO
   show (if x.Md=0 then _ else if x.Md=1 then dU x && jJ { x with left:=(if x.left=0 then (opAt x).2.1 else x.left) - 1 } && decide (x.Mg=0) && decide (x.on=0) && bI x.held else _)=true
   have h5:jJ { x with left:=(if x.left=0 then (opAt x).2.1 else x.left) - 1 } =true:=by
    unfold jJ
    show (if (opAt x).1=1 then decide (0≤(if x.left=0 then (opAt x).2.1 else x.left) - 1) && decide ((if x.left=0 then (opAt x).2.1 else x.left) - 1 < (opAt x).2.1) else _)=true
    rw [if_pos hk];simp only [J7,decide_eq_true_eq]
    split <;> omega
   rw [if_neg (by omega),if_pos hs,h5,hst.1,hst.2.2.1,hst.2.2.2.1,hst.2.2.2.2]; rfl
 ·have hu:=hl hk1
  refine fK (P:=sS p) (fun hk=> ?_) (fun _=> ?_)
  ·have hN:=f1 (by omega)
   exact ⟨sO h hu (by omega) (.inl ⟨rfl,rfl,oB,eB (by omega) (by omega)⟩),by show p.next≤p.next+1; omega,by show p.next+1≤_; omega⟩
  ·refine fK (P:=sS p) (fun hk=> ?_) (fun _=> ?_)
   ·exact CO h hu hn ho hk eu
   ·refine fK (P:=sS p) (fun hk=> ?_) (fun _=> ?_)
    ·clear hk; exact yH h hu hn
    ·refine fK (P:=sS p) (fun hk=> ?_) (fun _=> ?_)
     ·exact zn h hu hn ho hk eu
     ·refine fK (P:=sS p) (fun hk=> ?_) (fun _=> ?_)
      ·exact Dg h hu hn ho eu
      ·refine fK (P:=sS p) (fun hk=> ?_) (fun _=> ?_)
       ·exact Dd h hu hn ho hk eu
       ·refine fK (P:=sS p) (fun hk=> ?_) (fun _=> ?_)
        ·exact yv h hu hn ho hk eu
        ·refine fK (P:=sS p) (fun hk=> ?_) (fun _=> ?_)
         ·exact By h hu ho
         ·refine fK (P:=sS p) (fun hk=> ?_) (fun _=> ?_)
          ·exact zO h hu
          ·refine fK (P:=sS p) (fun hk=> ?_) (fun _=> ?_)
           ·exact AO h hu hn
           ·refine fK (P:=sS p) (fun hk=> ?_) (fun _=> ?_)
            ·exact Dr h hu
            ·refine ⟨h.ju (nx:=p.next) (f:=fun y=> { y with pc:=0 }) (fun _=>rfl) ⟨LJ _,hnx.2⟩ fun z hz hi=> ?_,n7 p.next⟩
             rw [hone z hz hi];have h5:=hu x hx rfl;have h6:=lK hpl;refine ⟨?_,k2,k3,.inl rfl⟩;rw [fG,J7];exact ⟨hb,mr (x:= { x with pc:=0 }) hpl hs ⟨LJ _,by show (0:Int) < x.prog.length; omega⟩ h5.2 hst.2.2.1 hst.2.2.2.1 hst.2.2.2.2⟩
theorem DA {p:aE} {now:Int} (h:aQ p) (hn:p.next≤999999980) (eu:0≤now∧now≤1000000000):aQ (mS now p)∧p.next≤(mS now p).next∧(mS now p).next≤p.next+13:=by
 obtain ⟨h1,h2,h3⟩:=ru (now:=now) h (by omega);unfold mS
 split
 ·exact ⟨h1,h2,by omega⟩
 ·rename_i x hx
  obtain ⟨m1,m2,-⟩:=ft hx;obtain ⟨-,h4,h5,h6⟩:=AW (now:=now) h1 m1 m2 (by omega) eu;exact ⟨h4,by omega,by omega⟩
end Go.Proofs.YtnlbiglljiopmaaGreatDoor
