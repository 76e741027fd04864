/- What the proof leans on, part 8. -/
import Derived.Test.YtgdmbemagdbmaaaGreatDoorOwnR7
set_option linter.unusedVariables false
set_option maxRecDepth 100000
set_option maxHeartbeats 8000000
open Go.Proofs.Tryz
open Go renaming World->w_,Value->v_,Calls->k_,Addr->d_,TypeId->T_,below_setRow->q_
open Go.Ending renaming returned->r_
open Go.IntKind renaming i64->j_
open Go.Obj renaming cells->c_
open Go.RowKit renaming Below->B_
open Go.Value renaming int->i_,slice->s_,bool->b_,string->t_,agg->a_,pointer->p_,tuple->u_
open Option renaming some->o_,none->n_
open Array renaming getElem?_eq_some_iff->J2
open Bool renaming and_eq_true->J7,eq_iff_iff->Lx,false_eq_true->J5,or_eq_true->Kb
open Function renaming comp_def->Ls
open Go renaming frozen_of_row->Ko,heap_alloc_new->Kj,wp_at_succ->Kd,wp_at_zero->Kc
open Go.ByteArray renaming toList_eq->PQ
open Go.Proofs.Tryz renaming prog->J3
open Go.RowKit.Below renaming refl->Kp
open Go.World renaming cell?_of_block->J1
open Int renaming le_refl->LJ
open List renaming append_assoc->Lm,append_nil->QO,filter_append->QN,filter_cons->LN,find?_cons->LL,find?_some->PS,getElem?_eq_getElem->Kz,getElem?_eq_some_iff->Lj,length_filter_le->Qq,length_map->KG,length_nil->K4,length_set->LI,length_take->Lk,map_congr_left->Lw,map_cons->Lt,map_map->Lv,mem_append->Kg,mem_append_left->Lz,mem_append_right->Ly,mem_cons->Kt,mem_cons_of_mem->LB,mem_cons_self->LA,mem_filter->L2,mem_filterMap->Lq,mem_iff_getElem->LK,mem_map->Lr,mem_of_find?_eq_some->RG,mem_of_getElem?->KA,mem_of_mem_drop->RL,mem_of_mem_take->RK,nodup_append->Kf,nodup_cons->Lp,pairwise_cons->LM,pairwise_map->Qm,set_eq_take_append_cons_drop->RJ,take_of_length_le->KF
open List.Perm renaming refl->RA
open Nat renaming le_refl->Ki,zero_le->Ky
open Option renaming map_eq_some_iff->Kw,map_some->J9
open Option.some renaming inj->KC,injEq->LF
open Prod.mk renaming injEq->Kx

namespace Go.Proofs.YtgdmbemagdbmaaaGreatDoor
section
variable {α:Type} (afM:α→α→Bool)
def qV (r:Option α) (x:α):Option α:=match r with
 | none=>o_ x
 | some b=>if afM x b then o_ x else o_ b
def oa (l:List α):Option α:=l.foldl (qV afM) n_
theorem qy (l:List α) (x:α):oa afM (l ++ [x])=qV afM (oa afM l) x:=by simp [oa]
theorem EO {r:Option α} {x y:α} (h:qV afM r x=o_ y):y=x∨r=o_ y:=by
 unfold qV at h
 exact ZbH
theorem zZ: ∀ (l:List α) (r:Option α) {y:α},l.foldl (qV afM) r=o_ y→y∈l∨r=o_ y
 | [],_,_,h=> .inr h
 | x :: l,r,y,h=>by
  rcases zZ l (qV afM r x) h with h1 | h1
  ·exact .inl (by simp [h1])
  ·rcases EO afM h1 with h2 | h2
   ·exact .inl (by simp [h2])
   ·exact .inr h2
theorem Fg {l:List α} {y:α} (h:oa afM l=o_ y):y∈l:=(zZ afM l n_ h).elim id (fun e=>by cases e)
theorem C8 (r:Option α) (x:α): ∃ y,qV afM r x=o_ y:=by
 unfold qV
 split
 ·exact ⟨_,rfl⟩
 ·split <;> exact ⟨_,rfl⟩
theorem CZ {l:List α} (h:oa afM l=n_):l= [] :=by
 rcases List.eq_nil_or_concat l with e | ⟨l',x,e⟩
 ·exact e
 ·subst e
  rw [List.concat_eq_append,qy] at h;obtain ⟨y,hy⟩:=C8 afM (oa afM l') x;rw [hy] at h;cases h
def eN (f:α→Bool) (l:List α) (k:Nat) (i:Int):Prop:=match oa afM ((l.take k).filter f) with
 | none=>i= -1
 | some x=> ∃ n:Nat,i=n∧n < k∧l[n]? =o_ x
variable {f:α→Bool} {l:List α} {k:Nat} {i:Int} {x:α}
theorem eN.start (f:α→Bool) (l:List α):eN afM f l 0 (-1):=by simp [eN,oa]
theorem qm (hx:l[k]? =o_ x):(l.take (k+1)).filter f=(l.take k).filter f ++ (if f x then [x] else []):=by
 have h:l.take (k+1)=l.take k ++ [x] :=by rw [List.take_add_one,hx]; rfl
 rw [h,QN];by_cases h:f x=true <;> simp [h]
variable {afM}
theorem eN.skip (h:eN afM f l k i) (hx:l[k]? =o_ x) (hf:f x=false):eN afM f l (k+1) i:=by
 unfold eN at h ⊢;rw [qm hx,hf];simp only [J5,if_false,QO]
 exact ZbU
theorem eN.first (h:eN afM f l k i) (hi:i < 0) (hx:l[k]? =o_ x) (hf:f x=true):eN afM f l (k+1) k:=by
 unfold eN at h ⊢;rw [qm hx,hf];simp only [if_true];rw [qy]
 exact ZbE
theorem eN.got (h:eN afM f l k i) (hi: ¬ i < 0): ∃ (n:Nat) (y:α),i=n∧n < k∧l[n]? =o_ y∧oa afM ((l.take k).filter f)=o_ y:=by
 unfold eN at h
 exact ZbL
theorem eN.none' (h:eN afM f l k i) (hi:i < 0):oa afM ((l.take k).filter f)=n_:=by
 unfold eN at h
 split at h
 ·assumption
 ·obtain ⟨n,h1,_⟩:=h
  omega
theorem eN.next {n:Nat} {y:α} (hn:n < k) (hy:l[n]? =o_ y) (he:oa afM ((l.take k).filter f)=o_ y) (hx:l[k]? =o_ x) (hf:f x=true):eN afM f l (k+1) (if afM x y then (k:Int) else (n:Int)):=by
 unfold eN;rw [qm hx,hf];simp only [if_true];rw [qy,he];simp only [qV];by_cases ha:afM x y=true
 ·simp only [ha,if_true]
  exact ⟨k,rfl,by omega,hx⟩
 ·simp only [ha,J5,if_false]
  exact ⟨n,rfl,by omega,hy⟩
end
def og (now:Int) (x:aD):Bool:=decide (2≤x.Md) && cv x.Mg 1 now
def l8 (a b:aD):Bool:=decide (a.Mg < b.Mg)
def lF (now:Int) (l:List aD):List aD:=l.filter (og now)
def lZ (now:Int) (l:List aD):Option aD:=oa l8 (lF now l)
def jM (code:Int) (x:aD):aD:= { x with code:=code,Md:=1,pc:=x.pc+1,left:=0,Mg:=0,on:=0,held:=rM }
def jT (code:Int) (x:aD):aD:=if x.pc+1=x.prog.length then j7 (jM code x) else jM code x
def iY (nx code:Int) (x:aD):aD:=if x.pc+1=x.prog.length then j7 (jM code x) else { jM code x with RU:=nx }
def gf (nx:Int) (x:aD):Int:=if x.pc+1=x.prog.length then nx else nx+1
def mL (x:aD):Int:=if x.Md=2 then 0 else 2
def gu (p:aE) (x:aD):aE:= { p with next:=gf p.next x,L8:=ce x.id (iY p.next (mL x)) p.L8 }
def oO (now:Int):Nat→aE→aE
 | 0,p=>p
 | n+1,p=>match lZ now p.L8 with
  | none=>p
  | some x=>oO now n (gu p x)
def gj (now:Int) (p:aE):aE:=oO now (lF now p.L8).length p
theorem rD (nx code:Int) (x:aD):(iY nx code x).id=x.id∧(iY nx code x).prog=x.prog:=by
 unfold iY
 split <;> exact ⟨rfl,rfl⟩
theorem E7 (now nx code:Int) (x:aD):og now (iY nx code x)=false:=by
 unfold iY og
 split <;> simp [j7,jM]
theorem qB {f:aD→aD} {id:Int} : ∀ {l:List aD},(∀ y∈l,y.id≠id)→ce id f l=l
 | [],_=>rfl
 | y :: r,h=>by
  have h1:ce id f r=r:=qB fun z hz=>h z (LB _ hz)
  simp only [ce,Lt] at h1 ⊢;rw [if_neg (h y (by simp)),h1]
theorem Bg {now:Int} {f:aD→aD} {x:aD} (hf:og now (f x)=false) (hx:og now x=true): ∀ {l:List aD},l.Pairwise (fun x y=>x.id < y.id)→x∈l→(lF now (ce x.id f l)).length+1=(lF now l).length
 | [],_,h=>by cases h
 | y :: r,hr,h=>by
  rw [LM] at hr;by_cases e:y=x
  ·subst e
   have h2:ce y.id f (y :: r)=f y :: r:=by
    exact Zbt
   rw [h2];simp [lF,hf,hx]
  ·have hm:x∈r:=by
    rcases Kt.1 h with h1 | h1
    ·exact absurd h1.symm e
    ·exact h1
   have h4:=Bg hf hx hr.2 hm;have h5: ¬ y.id=x.id:=by have:=hr.1 x hm; omega
   have h6:ce x.id f (y :: r)=y :: ce x.id f r:=by simp [ce,h5]
   rw [h6];unfold lF at h4 ⊢;by_cases hy:og now y=true
   ·simp only [LN,hy,if_true,List.length_cons]; omega
   ·simp only [LN,hy,J5,if_false]; exact h4
theorem rW {f:aD→aD} {id:Int} (hf: ∀ x,(f x).id=x.id) {l:List aD} (h:l.Pairwise (fun x y=>x.id < y.id)):(ce id f l).Pairwise (fun x y=>x.id < y.id):=by
 unfold ce;rw [Qm];refine h.imp fun {a b} hab=> ?_
 have e: ∀ z:aD,(if z.id=id then f z else z).id=z.id:=fun z=>by split <;> simp [hf]
 rw [e,e];exact hab
theorem Gs {f:aD→aD} {id:Int} {l:List aD} {y:aD} (h:y∈ce id f l):y∈l∨ ∃ x∈l,y=f x:=by
 obtain ⟨z,hz,e⟩:=Lr.1 h;by_cases h1:z.id=id
 ·exact .inr ⟨z,hz,by rw [← e,if_pos h1]⟩
 ·exact .inl (by rw [if_neg h1] at e; exact e ▸ hz)
structure af9 (now:Int) (p:aE):Prop where
 kW:p.L8.Pairwise (fun x y=>x.id < y.id)
 op: ∀ x∈p.L8,2≤x.Md→0≤x.pc∧x.pc < x.prog.length
 room:1≤p.next∧p.next+(lF now p.L8).length≤1000000000
 low:p.L8.length≤6
theorem af9.mem {now:Int} {p:aE} {x:aD} (h:lZ now p.L8=o_ x):x∈p.L8∧og now x=true:=by
 have h1:=Fg l8 h;exact L2.1 h1
theorem af9.step {now:Int} {p:aE} {x:aD} (h:af9 now p) (hx:lZ now p.L8=o_ x):af9 now (gu p x)∧(lF now (gu p x).L8).length+1=(lF now p.L8).length:=by
 obtain ⟨hm,hd⟩:=af9.mem hx;have h1:=Bg (E7 now p.next (mL x) x) hd h.kW hm;refine ⟨⟨rW (fun y=>(rD _ _ y).1) h.kW,fun y hy hs=> ?_,?_,?_⟩,h1⟩
 ·rcases Gs hy with h2 | ⟨z,_,rfl⟩
  ·exact h.op y h2 hs
  ·unfold iY at hs
   split at hs <;> simp [j7,jM] at hs
 ·have h2:=h.room
  have h3:(gu p x).next≤p.next+1∧p.next≤(gu p x).next:=by
   show gf p.next x≤_∧_≤gf p.next x
   unfold gf
   split <;> omega
  have h4:(lF now (gu p x).L8).length+1=(lF now p.L8).length:=h1;omega
 ·show (ce _ _ p.L8).length≤6
  simpa [ce] using h.low
theorem Co {now:Int} {p:aE} (h:lZ now p.L8=n_):gj now p=p:=by
 unfold gj;rw [CZ l8 h];rfl
theorem vn {now:Int} {p:aE} {x:aD} (h:af9 now p) (hx:lZ now p.L8=o_ x):gj now p=gj now (gu p x):=by
 have h1:=(h.step hx).2;unfold gj;rw [← h1];simp only [oO,hx]
theorem af9.of {now:Int} {p:aE} (h:aQ p) (hn:p.next≤999999980):af9 now p:=by
 have h1:=(db h.L8).2;refine ⟨h1,fun x hx hs=> ?_,?_,h.dl⟩
 ·have h2:=(cK h.L8 x hx).2
  simp only [cH,J7] at h2;have h3:=h2.1.1.2;unfold bO at h3;have h4:dU x=true:=by
   split at h3
   ·omega
   ·split at h3
    ·omega
    ·exact ZaH
  have h5:=bz.1 h4;omega
 ·have h2:=bz.1 h.next
  have h3:(lF now p.L8).length≤p.L8.length:=Qq _ _;have h4:=h.dl;omega
section
open Go.RowKit Go.Maps
attribute [local go_sem ↓] Kc Kd
theorem xX {z:Int} (h:cv z 1 1000=true):(Lit.int j_ z).wf=true:=by
 have h2:=bz.1 h;have e1:IntKind.min j_≤0:=by decide
 have e2:100000≤IntKind.max j_:=by decide
 exact ZbR
theorem iB {S:aZ} (h:aQ S.pure):S.Fits:=by
 refine ⟨?_,?_,?_,?_,?_,?_,?_,?_,?_,?_,?_,?_⟩
 ·have h5:=h.dl
  have h6:S.pure.L8.length=S.lp.length:=by simp [aZ.pure]
  omega
 ·intro p hp
  obtain ⟨r,hr,rfl⟩:=Lr.1 hp;exact xX (cK h.L8 (r.1.toaD) (Lr.2 ⟨r,hr,rfl⟩)).1
 ·have h5:=h.fx
  have h6:S.pure.aj.length=S.ls.length:=by simp [aZ.pure]
  omega
 ·intro p hp
  obtain ⟨r,hr,rfl⟩:=Lr.1 hp;exact xX (cK h.aj (r.1) (Lr.2 ⟨r,hr,rfl⟩)).1
 ·have h5:=h.cD
  have h6:S.pure.L9.length=S.le.length:=by simp [aZ.pure]
  omega
 ·intro p hp
  obtain ⟨r,hr,rfl⟩:=Lr.1 hp;exact xX (cK h.L9 (r.1) (Lr.2 ⟨r,hr,rfl⟩)).1
 ·have h5:=h.cC
  have h6:S.pure.ag.length=S.lb.length:=by simp [aZ.pure]
  omega
 ·intro p hp
  obtain ⟨r,hr,rfl⟩:=Lr.1 hp;exact xX (cK h.ag (r.1) (Lr.2 ⟨r,hr,rfl⟩)).1
 ·have h5:=h.cb
  have h6:S.pure.ae.length=S.lf.length:=by simp [aZ.pure]
  omega
 ·intro p hp
  obtain ⟨r,hr,rfl⟩:=Lr.1 hp;exact xX (cK h.ae (r.1.toci) (Lr.2 ⟨r,hr,rfl⟩)).1
 ·have h5:=h.dH
  have h6:S.pure.ai.length=S.lq.length:=by simp [aZ.pure]
  omega
 ·intro p hp
  obtain ⟨r,hr,rfl⟩:=Lr.1 hp;exact xX (cK h.ai (r.1.todS) (Lr.2 ⟨r,hr,rfl⟩)).1
theorem NU {S:aZ} {g:Nat} {f:ao→ao} {nx:Int} (h:S.Fits) (hf: ∀ x,(f x).id=x.id):(S.ju g f nx).Fits:=by
 have e:RW (fun x:ao=>x.id) (sU g f S.lp)=RW (fun x:ao=>x.id) S.lp:=Al fun p _ _=>hf p.1
 refine ⟨?_,?_,h.fx,h.adG,h.cD,h.G4,h.cC,h.FP,h.cb,h.DW,h.dH,h.Jz⟩
 ·show (sU g f S.lp).length≤_
  unfold sU;rw [KG];exact h.dl
 ·show ∀ p∈RW (fun x:ao=>x.id) (sU g f S.lp),_
  rw [e];exact h.Jl
theorem wE (o g:Nat) (nx:Int) (w:w_) (h1:w.cell? ⟨o,1,n_⟩=o_ (i_ j_ nx)) (f1:w.frozen? ⟨o,1,n_⟩=false) (h2: ∃ u,w.cell? ⟨g,11,n_⟩=o_ u) (f2:w.frozen? ⟨g,11,n_⟩=false) (hne: ¬ o=g) (n0:0≤nx) (n1:nx≤1000000000):
  k_ J3 71 #[p_ (o_ ⟨o,0,n_⟩),p_ (o_ ⟨g,0,n_⟩)] w fun e w'=>e=r_ (u_ #[])∧w'=(w.setCell ⟨g,11,n_⟩ (i_ j_ nx)).setCell ⟨o,1,n_⟩ (i_ j_ (nx+1)):=by
 obtain ⟨u,h2⟩:=h2;have k1:(w.setCell ⟨g,11,n_⟩ (i_ j_ nx)).cell? ⟨o,1,n_⟩=o_ (i_ j_ nx):=(J1 (aH hne)).trans h1;have k2:(w.setCell ⟨g,11,n_⟩ (i_ j_ nx)).frozen? ⟨o,1,n_⟩=false:=(World.frozen?_of_block (aH hne)).trans f1
 go_enter func71,ntmps71
 go_wp2
 go_end0
 exact ⟨rfl,rfl⟩
def F2 (nx:Int) (y:ao):ao:= { y with Md:=1,RU:=nx }
theorem aI.cell {w:w_} {g i:Nat} {v:v_} :aI w (w.setCell ⟨g,i,n_⟩ v) [g] :=aI.set (off:=i) [v] (by simp)
theorem ajh (o g base:Nat) (S:aZ) (x:ao) (w:w_) (h:cJ w base o S) (hx:(x,g)∈S.lp) (n0:0≤S.q.next) (n1:S.q.next≤1000000000):
  k_ J3 33 #[p_ (o_ ⟨o,0,n_⟩),p_ (o_ ⟨g,0,n_⟩)] w fun e w'=>e=r_ (u_ #[])∧cJ w' base o (S.ju g (F2 S.q.next) (S.q.next+1))∧aI w w' [g,o] :=by
 have hgb:w.heap[g]? =o_ (c_ (aX x) 44):=h.L8.box (x,g) hx;have bR:g∈S.lp.map (·.2):=Lr.2 ⟨(x,g),hx,rfl⟩;have hno: ¬ o=g:=fun e=>by
  exact Zbw
 have CT:=cx (i:=3) (v:=i_ j_ 1) hgb;have c3:w.cell? ⟨g,3,n_⟩=o_ (i_ j_ x.Md):=(bo hgb).2.2.2.1;have z3:w.frozen? ⟨g,3,n_⟩=false:=Ko _ _ _ _ _ hgb;have HC:Hid ((w.setCell ⟨g,3,n_⟩ (i_ j_ 1)).cell? ⟨o,1,n_⟩=o_ (i_ j_ S.q.next)∧(w.setCell ⟨g,3,n_⟩ (i_ j_ 1)).frozen? ⟨o,1,n_⟩=false∧(∃ u,(w.setCell ⟨g,3,n_⟩ (i_ j_ 1)).cell? ⟨g,11,n_⟩=o_ u)∧(w.setCell ⟨g,3,n_⟩ (i_ j_ 1)).frozen? ⟨g,11,n_⟩=false):=⟨(J1 (aH hno)).trans (h.opn.cell 1),(World.frozen?_of_block (aH hno)).trans (Ko _ _ _ _ _ h.opn),⟨i_ j_ x.RU,by simp [World.cell?,CT,aX]⟩,Ko _ _ _ _ _ CT⟩
 have HE:Hid (cJ (((w.setCell ⟨g,3,n_⟩ (i_ j_ 1)).setCell ⟨g,11,n_⟩ (i_ j_ S.q.next)).setCell ⟨o,1,n_⟩ (i_ j_ (S.q.next+1))) base o (S.ju g (F2 S.q.next) (S.q.next+1))∧aI w (((w.setCell ⟨g,3,n_⟩ (i_ j_ 1)).setCell ⟨g,11,n_⟩ (i_ j_ S.q.next)).setCell ⟨o,1,n_⟩ (i_ j_ (S.q.next+1))) [g,o]):=by
  refine ⟨h.ju (fun y=>⟨rfl,rfl,rfl,rfl⟩) (fun p hp hpg=> ?_) bR ?_ fun b hb hb2=>(aH hb2).trans ((aH hb).trans (aH hb)),((aI.cell.trans aI.cell).mono (by simp)).trans (aI.cell.mono (by simp))⟩
  ·have e:=h.L8.one hp hx hpg
   subst e;have h5:=(aH (i:=1) (v:=i_ j_ (S.q.next+1)) (fun e=>hno e.symm:g≠o)).trans (cx (i:=11) (v:=i_ j_ S.q.next) CT);exact h5
  ·have h5:((w.setCell ⟨g,3,n_⟩ (i_ j_ 1)).setCell ⟨g,11,n_⟩ (i_ j_ S.q.next)).heap[o]? =_:=((aH hno).trans (aH hno)).trans h.opn
   exact cx (i:=1) (v:=i_ j_ (S.q.next+1)) h5
 clear hgb bR CT h hx
 go_enter func33,ntmps33
 go_wp2_with fail;refine (wE o g S.q.next _ HC.I.1 HC.I.2.1 HC.I.2.2.1 HC.I.2.2.2 hno n0 n1).mono ?_;rintro e w2 ⟨rfl,rfl⟩;go_wp2
 go_end0
 exact ⟨rfl,HE.I.1,HE.I.2⟩
theorem OD (o g base:Nat) (S:aZ) (x:ao) (w:w_) (h:cJ w base o S) (hx:(x,g)∈S.lp) (n0:0≤S.q.next) (n1:S.q.next≤1000000000):
  k_ J3 33 #[p_ (o_ ⟨o,0,n_⟩),p_ (o_ ⟨g,0,n_⟩)] w fun e w'=>e=r_ (u_ #[])∧cJ w' base o (S.ju g (F2 S.q.next) (S.q.next+1))∧B_ base w w':=
 (ajh o g base S x w h hx n0 n1).mono fun _ _ h5=>⟨h5.1,h5.2.1,h5.2.2.below (Nat.le_of_lt (Nat.lt_of_le_of_lt h.low (J2.1 h.opn).1)) fun b hb=>by simp only [Kt,List.not_mem_nil,or_false] at hb; rcases hb with rfl | rfl <;> first | exact h.low | exact h.L8.low _ (LB _ (Lr.2 ⟨_,hx,rfl⟩))⟩
end
def jP {α:Type} (num:α→Int) (id:Int) (f:α→α) (l:List α):List α:=l.map fun x=>if num x=id then f x else x
def cg {α:Type} (num:α→Int) (id:Int) (l:List α):Option α:=l.find? fun x=>decide (num x=id)
def ie (st on:Int) (x:aD):Bool:=decide (x.Md=st) && decide (x.on=on)
def jl (st on:Int) (l:List aD):Option aD:=jo (l.filter (ie st on))
def bu (code id:Int) (p:aE):aE:= { p with L8:=ce id (jT code) p.L8 }
def lG (t:ByteArray) (x:aD):aD:= { x with got:=t }
def ez (t:ByteArray) (id:Int) (p:aE):aE:= { p with L8:=ce id (lG t) p.L8 }
def gF (f:aD→aD) (p:aE) (x:aD):aE:= { p with next:=gf p.next x,L8:=ce x.id (fun y=>iY p.next 0 (f y)) p.L8 }
def gW (f:aD→aD) (st on:Int):Nat→aE→aE
 | 0,p=>p
 | n+1,p=>match jl st on p.L8 with
  | none=>p
  | some x=>gW f st on n (gF f p x)
def ff (f:aD→aD) (st on:Int) (p:aE):aE:=gW f st on (p.L8.filter (ie st on)).length p
def zb (nx st on:Int) (held:ByteArray) (Mg:Int) (y:aD):aD:= { y with Md:=st,Mg:=Mg,on:=on,held:=held,RU:=nx }
def kC (st on:Int) (held:ByteArray) (Mg id:Int) (p:aE):aE:= { p with next:=p.next+1,L8:=ce id (zb p.next st on held Mg) p.L8 }
def kZ (now m:Int):Int:=if 0≤m then now+m else -1
def mX (st:Int) (o:dN) (now id:Int) (p:aE):aE:=if o.2.2.1=0 then bu 1 id p else kC st o.2.1 o.2.2.2 (kZ now o.2.2.1) id p
def nZ (id d:Int) (p:aE):aE:= { p with aj:=jP (·.id) id (fun y=> { y with n:=y.n+d }) p.aj }
def gL (id:Int) (b:Bool) (p:aE):aE:= { p with L9:=jP (·.id) id (fun y=> { y with up:=b }) p.L9 }
def ib (id:Int) (b:Bool) (t:ByteArray) (p:aE):aE:= { p with ag:=jP (·.id) id (fun y=> { y with shown:=b,text:=t }) p.ag }
def cV (id:Int) (l:List ByteArray) (p:aE):aE:= { p with ae:=jP (·.id) id (fun y=> { y with Ma:=l }) p.ae }
def gU (id:Int) (l:List ByteArray) (p:aE):aE:= { p with ai:=jP (·.id) id (fun y=> { y with Ma:=l }) p.ai }
def mh (o:dN) (now id:Int) (p:aE):aE:=match cg (·.id) o.2.1 p.aj with
 | none=>bu 3 id p
 | some s=>if s.n=0 then mX 3 o now id p else bu 0 id (nZ o.2.1 (-1) p)
def gJ (o:dN) (id:Int) (p:aE):aE:=match cg (·.id) o.2.1 p.aj with
 | none=>bu 3 id p
 | some s=>match jl 3 o.2.1 p.L8 with
  | some y=>bu 0 id (gF (fun y=>y) p y)
  | none=>if s.n=s.max then bu 1 id p else bu 0 id (nZ o.2.1 1 p)
def dE (o:dN) (now id:Int) (p:aE):aE:=match cg (·.id) o.2.1 p.L9 with
 | none=>bu 3 id p
 | some e=>if o.1=5 then bu 0 id (ff (fun y=>y) 4 o.2.1 (gL o.2.1 true p))
  else if o.1=6 then bu 0 id (gL o.2.1 false p)
  else if e.up then bu 0 id p else mX 4 o now id p
def lc (o:dN) (now id:Int) (p:aE):aE:=match cg (·.id) o.2.1 p.ae with
 | none=>bu 3 id p
 | some b=>match jl 6 o.2.1 p.L8 with
  | some y=>bu 0 id (gF (lG o.2.2.2) p y)
  | none=>if (b.Ma.length:Int)=b.max then mX 5 o now id p else bu 0 id (cV o.2.1 (b.Ma ++ [o.2.2.2]) p)
def ka (o:dN) (now id:Int) (p:aE):aE:=match cg (·.id) o.2.1 p.ae with
 | none=>bu 3 id p
 | some b=>match b.Ma with
  | [] =>mX 6 o now id (ez rM id p)
  | t :: r=>match jl 5 o.2.1 (ez t id p).L8 with
   | none=>bu 0 id (cV o.2.1 r (ez t id p))
   | some y=>bu 0 id (gF (fun y=>y) (cV o.2.1 (r ++ [y.held]) (ez t id p)) y)
def dC (o:dN) (now id:Int) (p:aE):aE:=match cg (·.id) o.2.1 p.ag with
 | none=>bu 3 id p
 | some b=>if o.1=10 then bu 0 id (ff (lG o.2.2.2) 7 o.2.1 (ib o.2.1 true o.2.2.2 p))
  else if o.1=11 then bu 0 id (ib o.2.1 false rM p)
  else if b.shown then bu 0 id (ez b.text id p) else mX 7 o now id (ez b.text id p)
def ig (o:dN) (id:Int) (p:aE):aE:=match cg (·.id) o.2.1 p.ai with
 | none=>bu 3 id p
 | some q=>if q.I=false then bu 3 id p
  else if q.Mf=false then bu 0 id (gU o.2.1 [o.2.2.2] p)
  else if (q.Ma.length:Int)=q.max then bu 1 id p
  else bu 0 id (gU o.2.1 (q.Ma ++ [o.2.2.2]) p)
def gC (o:dN) (id:Int) (p:aE):aE:=match cg (·.id) o.2.1 p.ai with
 | none=>bu 3 id p
 | some q=>if q.I then bu 3 id p else match q.Ma with
  | [] =>bu 1 id (ez rM id p)
  | t :: r=>bu 0 id (if q.Mf then gU o.2.1 r (ez t id p) else ez t id p)
def py (id:Int) (p:aE):aE:= { p with next:=p.next+1,L8:=ce id (fun y=> { y with Md:=1,RU:=p.next }) p.L8 }
def ot (id:Int) (p:aE):aE:= { p with L8:=ce id j7 p.L8 }
def jU (o:dN) (id:Int) (p:aE):aE:=match cg (·.id) o.2.1 p.L8 with
 | none=>bu 3 id p
 | some y=>if y.Md=0 then bu 0 id (py o.2.1 p) else bu 1 id p
def lg (o:dN) (id:Int) (p:aE):aE:=match cg (·.id) o.2.1 p.L8 with
 | none=>bu 3 id p
 | some y=>if y.Md=0 then bu 1 id p else if o.2.1=id then ot id p else bu 0 id (ot o.2.1 p)
def GY (x:aD) (o:dN) (p:aE):aE:=
 if (if x.left=0 then o.2.1 else x.left)=1 then bu 0 x.id p
 else { p with L8:=ce x.id (fun y=> { y with left:=(if x.left=0 then o.2.1 else x.left) - 1 }) p.L8 }
def lX (now:Int) (x:aD) (o:dN) (p:aE):aE:=
 if o.1=1 then GY x o p
 else if o.1=2 then kC 2 0 rM (now+o.2.1) x.id p
 else if o.1=3 then mh o now x.id p
 else if o.1=4 then gJ o x.id p
 else if o.1=5∨o.1=6∨o.1=7 then dE o now x.id p
 else if o.1=8 then lc o now x.id p
 else if o.1=9 then ka o now x.id p
 else if o.1=10∨o.1=11∨o.1=12 then dC o now x.id p
 else if o.1=13 then ig o x.id p
 else if o.1=14 then gC o x.id p
 else if o.1=15 then jU o x.id p
 else if o.1=16 then lg o x.id p
 else { p with L8:=ce x.id (fun y=> { y with pc:=0 }) p.L8 }
def mS (now:Int) (p:aE):aE:=match jl 1 0 (gj now p).L8 with
 | none=>gj now p
 | some x=>lX now x (opAt x) (gj now p)
def hZ (p:aE) (now:Int):Option aE:=if bK p && cv now 0 1000000000 && decide (p.next≤999999980) then o_ (mS now p) else n_
section
variable {α:Type} {num:α→Int}
theorem jF {l:List α} {f:α→α} {id:Int} {n:Nat} {y:α} (hr:l.Pairwise (fun x y=>num x < num y)) (hn:l[n]? =o_ y) (hy:num y=id):jP num id f l=l.set n (f y):=by
 induction l generalizing n with
 | nil=>simp at hn
 | cons x r ih=>
  obtain ⟨h1,h2⟩:=LM.1 hr;cases n with
  | zero=>
   simp only [List.getElem?_cons_zero,LF] at hn;subst hn;have e:jP num id f r=r:=by
    unfold jP
    conv=>rhs; rw [← List.map_id r]
    refine Lw fun z hz=> ?_
    rw [if_neg (by have:=h1 z hz; omega)];rfl
   simp only [List.set_cons_zero]
   show (if num x=id then f x else x) :: jP num id f r=_
   rw [if_pos hy,e]
  | succ n=>
   simp only [List.getElem?_cons_succ] at hn;have hlt:=h1 y (KA hn);simp only [List.set_cons_succ]
   show (if num x=id then f x else x) :: jP num id f r=_
   rw [if_neg (by omega),ih h2 hn]
theorem ef (id:Int): ∀ (l:List α) (k:Nat),(place (l.map num) id k= -1∧cg num id l=n_)∨ ∃ n x,place (l.map num) id k=((k+n:Nat):Int)∧l[n]? =o_ x∧num x=id∧cg num id l=o_ x
 | [],k=> .inl ⟨rfl,rfl⟩
 | x :: r,k=>by
  unfold cg;by_cases h:num x=id
  ·refine .inr ⟨0,x,?_,rfl,h,by simp [h]⟩
   simp [place,h]
  ·rcases ef id r (k+1) with ⟨h1,h2⟩ | ⟨n,y,h1,h2,h4,h3⟩
   ·exact .inl ⟨by simp only [Lt,place]; rw [if_neg h]; exact h1,by simp only [LL,h,decide_false]; exact h2⟩
   ·refine .inr ⟨n+1,y,?_,h2,h4,by simp only [LL,h,decide_false]; exact h3⟩
    simp only [Lt,place];rw [if_neg h,h1];omega
theorem ks {id:Int} {l:List α} {x:α} (h:cg num id l=o_ x):x∈l∧num x=id:=by
 have h1:=PS h;exact ⟨RG h,by simpa using h1⟩
end
theorem xw: ∀ (l:List aD) (r:Option aD) {y:aD},l.foldl iy r=o_ y→y∈l∨r=o_ y
 | [],_,_,h=> .inr h
 | x :: l,r,y,h=>by
  rcases xw l (iy r x) h with h1 | h1
  ·exact .inl (by simp [h1])
  ·rcases zp h1 with h2 | h2
   ·exact .inl (by simp [h2])
   ·exact .inr h2
theorem ft {st on:Int} {l:List aD} {x:aD} (h:jl st on l=o_ x):x∈l∧x.Md=st∧x.on=on:=by
 have h1:x∈l.filter (ie st on):=(xw _ n_ h).elim (fun e=>e) (fun e=>by cases e);obtain ⟨h2,h3⟩:=L2.1 h1;unfold ie at h3;simp only [J7,decide_eq_true_eq] at h3;exact ⟨h2,h3⟩
theorem Dt {st on:Int} {l:List aD} (h:jl st on l=n_):l.filter (ie st on)= [] :=by
 unfold jl jo at h;rcases List.eq_nil_or_concat (l.filter (ie st on)) with e | ⟨l',x,e⟩
 ·exact e
 ·rw [e,List.concat_eq_append,List.foldl_append] at h
  simp only [List.foldl_cons,List.foldl_nil] at h;obtain ⟨y,hy⟩:=pN (l'.foldl iy n_) x;rw [hy] at h;cases h
section
open Go.RowKit
section
variable {α:Type} {num:α→Int} {ok:α→Bool}
def bY (num:α→Int) (x:α):List α→List α
 | [] => [x]
 | y :: r=>if num x < num y then x :: y :: r else y :: bY num x r
def cA (num:α→Int) (x:α):List α→List α
 | [] => [x]
 | y :: r=>if num y < num x then y :: cA num x r else x :: y :: r
theorem er (x:α): ∀ l:List α,(bY num x l).length=l.length+1
 | [] =>rfl
 | y :: r=>by
  simp only [bY]
  split
  ·rfl
  ·simp [er x r]
theorem rf (x:α): ∀ l:List α,num x∉l.map num→cA num x l=bY num x l
 | [],_=>rfl
 | y :: r,h=>by
  simp only [Lt,Kt,not_or] at h;simp only [bY,cA,rf x r h.2];by_cases h1:num y < num x
  ·rw [if_pos h1,if_neg (by omega)]
  ·rw [if_neg h1,if_pos (by omega)]
theorem fq {x z:α} : ∀ {l:List α},z∈bY num x l↔z=x∨z∈l
 | [] =>by simp [bY]
 | y :: r=>by
  simp only [bY]
  split
  ·simp
  ·simp only [Kt,fq (l:=r)]
   constructor
   ·exact Q1
   ·exact Q1
theorem js {x z:α} : ∀ {l:List α},z∈cA num x l↔z=x∨z∈l
 | [] =>by simp [cA]
 | y :: r=>by
  simp only [cA]
  split
  ·simp only [Kt,js (l:=r)]
   constructor
   ·exact Q1
   ·exact Q1
  ·simp
theorem eJ (x:α): ∀ l:List α,(cA num x l).length=l.length+1
 | [] =>rfl
 | y :: r=>by
  simp only [cA]
  split
  ·simp [eJ x r]
  ·rfl
theorem jE {ok':α→Bool} : ∀ {l:List α} {last:Int},aw num ok last l=true→(∀ x∈l,ok x=true→ok' x=true)→aw num ok' last l=true
 | [],_,_,_=>rfl
 | x :: r,last,h,hm=>by
  simp only [aw,J7] at h ⊢;exact ⟨⟨h.1.1,hm x (by simp) h.1.2⟩,jE h.2 fun y hy=>hm y Zdi⟩
def jn (num:α→Int) (ok:α→Bool) (x:α) (l:List α):Bool:= !decide (num x∈l.map num) && cv (num x) 1 1000 && ok x
theorem vJ {x:α} : ∀ {l:List α} {last:Int},aw num ok last l=true→last < num x→aw num ok last (bY num x l)=jn num ok x l
 | [],last,_,hl=>by simp [bY,aw,jn,hl]
 | y :: r,last,h,hl=>by
  have h':=h;simp only [aw,J7,decide_eq_true_eq] at h;by_cases h1:num x < num y
  ·have hr:=db h.2
   have hn:num x∉(y :: r).map num:=fun hm=>by
    rcases Kt.1 hm with e | hm
    ·omega
    ·obtain ⟨z,hz,e⟩:=Lr.1 hm
     have:=hr.1 z hz
     omega
   rw [jn,decide_eq_false hn];simp [bY,h1,aw,hl,h.1.1.1,h.1.2,h.2]
  ·simp only [bY,if_neg h1,aw]
   by_cases h2:num y=num x
   ·have hm:num x∈(y :: r).map num:=by simp [h2]
    have h3:aw num ok (num y) (bY num x r)=false:=by
     cases h4:aw num ok (num y) (bY num x r) with
     | false=>rfl
     | true=>
      have:=(db h4).1 x (fq.2 (.inl rfl))
      omega
    rw [jn,decide_eq_true hm,h3];simp
   ·rw [vJ h.2 (by omega)]
    have h5:(num x∈(y :: r).map num)↔num x∈r.map num:=by
     simp only [Lt,Kt];constructor
     ·rintro (e | e)
      ·exact absurd e.symm h2
      ·exact e
     ·exact .inr
    simp only [jn,h5,h.1.1.1,h.1.1.2,h.1.2,decide_true,Bool.true_and]
theorem mw {x:α} {l:List α} (h:aw num ok 0 l=true):aw num ok 0 (bY num x l)=jn num ok x l:=by
 by_cases h0:0 < num x
 ·exact vJ h h0
 ·have h1:cv (num x) 1 1000=false:=by
   cases h2:cv (num x) 1 1000 with
   | false=>rfl
   | true=>have:=bz.1 h2; omega
  cases h4:aw num ok 0 (bY num x l) with
  | false=>simp [jn,h1]
  | true=>
   have:=(db h4).1 x (fq.2 (.inl rfl))
   omega
theorem uw {x:α} : ∀ {l:List α} {last:Int},num x∈l.map num→aw num ok last l=true→aw num ok last (cA num x l)=false
 | [],_,h,_=>by simp at h
 | y :: r,last,h,ht=>by
  simp only [aw,J7,decide_eq_true_eq] at ht;simp only [cA];by_cases h1:num y < num x
  ·rw [if_pos h1]
   have h2:num x∈r.map num:=by
    rcases Kt.1 h with e | e
    ·omega
    ·exact e
   simp [aw,uw h2 ht.2]
  ·rw [if_neg h1]
   have h2: ¬ num x < num y:=fun h3=>by
    rcases Kt.1 h with e | e
    ·omega
    ·obtain ⟨z,hz,e⟩:=Lr.1 e
     have:=(db ht.2).1 z hz
     omega
   simp [aw,h2]
theorem pZ {x:α} {l:List α} (h:aw num ok 0 l=true):aw num ok 0 (cA num x l)=jn num ok x l:=by
 by_cases hm:num x∈l.map num
 ·rw [uw hm h,jn,decide_eq_true hm]
  rfl
 ·rw [rf x l hm]
  exact mw h
end
def cB (p p':aE):Option aE:=if bK p && bK p' then o_ p' else n_
theorem nm {p p':aE} (h:bK p=false):cB p p'=n_:=by simp [cB,h]
theorem ox {p p':aE} (h:bK p'=false):cB p p'=n_:=by simp [cB,h]
theorem mZ {p p':aE} (h:bK p=true) (h':bK p'=true):cB p p'=o_ p':=by simp [cB,h,h']
theorem pq {p p':aE} {y:aD} (h1: ∀ z∈p.aj.map (·.id),z∈p'.aj.map (·.id)) (h2: ∀ z∈p.L9.map (·.id),z∈p'.L9.map (·.id)) (h3: ∀ z∈p.ag.map (·.id),z∈p'.ag.map (·.id)) (h4: ∀ z∈p.ae.map (·.id),z∈p'.ae.map (·.id)) (h:dG p y=true):dG p' y=true:=by
 unfold dG at h ⊢;by_cases hs:3≤y.Md
 ·rw [if_pos hs] at h ⊢
  unfold hasB at h ⊢;by_cases e3:y.Md=3
  ·rw [if_pos e3,decide_eq_true_eq] at h ⊢
   exact h1 _ h
  rw [if_neg e3] at h ⊢;by_cases e4:y.Md=4
  ·rw [if_pos e4,decide_eq_true_eq] at h ⊢
   exact h2 _ h
  rw [if_neg e4] at h ⊢;by_cases e5:y.Md=5∨y.Md=6
  ·rw [if_pos e5,decide_eq_true_eq] at h ⊢
   exact h4 _ h
  rw [if_neg e5] at h ⊢;by_cases e7:y.Md=7
  ·rw [if_pos e7,decide_eq_true_eq] at h ⊢
   exact h3 _ h
  rw [if_neg e7] at h;cases h
 ·rw [if_neg hs]
theorem qU {α:Type} {num:α→Int} {x:α} {l l':List α} (h: ∀ z,z∈l'↔z=x∨z∈l): ∀ z∈l.map num,z∈l'.map num:=fun z hz=>by
 obtain ⟨y,hy,e⟩:=Lr.1 hz;exact Lr.2 ⟨y,(h y).2 (.inr hy),e⟩
end
theorem pT {n:Int} (h1: -2147483648≤n) (h2:n≤2147483647):(Lit.int j_ n).wf=true:=by
 have e1:IntKind.min j_≤ -2147483648:=by decide
 have e2:2147483647≤IntKind.max j_:=by decide
 exact ZbR
section
open Go.RowKit Go.Maps
attribute [local go_sem ↓] Kc Kd
theorem Nt (p:af) (id:Int) (w:w_) (hid:(Lit.int j_ id).wf=true) (hg:p.Good w):
  k_ J3 15 #[a_ p.cells,i_ j_ id] w fun e w'=>gI w (kD p.pure id) e w':=by
 have HB:Hid (p.Good ((w.alloc (c_ p.row 36)).alloc (c_ ar 36))∧B_ w.heap.size w ((w.alloc (c_ p.row 36)).alloc (c_ ar 36))∧((w.alloc (c_ p.row 36)).alloc (c_ ar 36)).heap[w.heap.size+1]? =o_ (c_ ar 36)∧av ((w.alloc (c_ p.row 36)).alloc (c_ ar 36)) w.heap.size p∧(Lit.int j_ id).wf=true):=by
  have b1:B_ w.heap.size w ((w.alloc (c_ p.row 36)).alloc (c_ ar 36)):=((Kp _ _).alloc (Ki _) _).alloc (by simp) _;exact ⟨hg.below b1,b1,heap_alloc2_new _ _ _,(PU (by simp)).trans (Kj _ _),hid⟩
 clear hg hid;obtain ⟨m0,m1,m2,m3,m4,m5,m6,m7⟩:=HB.I.2.2.2.1.cells;unfold af.cells
 go_enter func15,ntmps15
 go_wp2_with fail;generalize (w.alloc (c_ p.row 36)).alloc (c_ ar 36)=W at *;clear m0 m1 m2 m3 m4 m5 m6 m7;refine (iO p W HB.I.1).mono ?_;rintro e w1 ⟨hb1,⟨hno,rfl⟩ | ⟨fm,o,S,rfl,hat,gn⟩⟩
 ·have HZ:Hid (B_ w.heap.size w w1∧w1.heap[w.heap.size+1]? =o_ (c_ ar 36)∧True):=⟨HB.I.2.1.trans (hb1.mono HB.I.2.1.size),(hb1.block _ (J2.1 HB.I.2.2.1).1).trans HB.I.2.2.1,trivial⟩
  have HN:Hid (kD p.pure id=n_):=vO (dL hno);clear hb1 hno;go_wp2_with (refine ec 4 16 ar HZ.I.2.1 ?_);refine mG results15 (b_ false) HZ.I.2.1 ?_;exact Zan
 have HZ:Hid (B_ w.heap.size w w1∧w1.heap[w.heap.size+1]? =o_ (c_ ar 36)∧aQ S.pure∧cJ w1 W.heap.size o S∧S.pure=p.pure∧w.heap.size+1 < W.heap.size∧W.heap.size≤w1.heap.size):=⟨HB.I.2.1.trans (hb1.mono HB.I.2.1.size),(hb1.block _ (J2.1 HB.I.2.2.1).1).trans HB.I.2.2.1,by rw [gn]; exact fm,hat,gn,(J2.1 HB.I.2.2.1).1,hb1.size⟩
 have c3:w1.cell? ⟨o,3,n_⟩=o_ (.map (o_ S.q.bp)):=hat.opn.cell 3;have c1:w1.cell? ⟨o,1,n_⟩=o_ (i_ j_ S.q.next):=hat.opn.cell 1;have hlk:=hat.L8.map.look underlying73 (oD w1) HB.I.2.2.2.2 true;have td:p.pure.L8.find? (fun x=>decide (x.id=id))=(S.lp.find? (fun p=>decide (p.1.id=id))).map (fun p=>p.1.toaD):=by rw [← gn]; exact Fj id S.lp
 have hnx:p.next=S.q.next:=(congrArg aE.next gn).symm;rw [E0] at hlk;simp only [if_true] at hlk;have Jf:Hid (p.next=S.q.next):=hnx;clear hb1 fm hat gn hnx;cases Dc:S.lp.find? (fun p=>decide (p.1.id=id)) with
 | none=>
  rw [Dc] at hlk td;simp only [Option.map_none,qz,Option.isSome_none] at hlk;have HN:Hid (kD p.pure id=n_):=tg td;clear Dc td;exact Zag
 | some r=>
  obtain ⟨x,g⟩:=r;rw [Dc] at hlk td;simp only [J9,qz,dt,Option.isSome_some] at hlk;have hm:(x,g)∈S.lp:=RG Dc;have OG:x.id=id:=by have h7:=PS Dc; simpa using h7
  have HX:Hid ((x,g)∈S.lp∧x.id=id∧p.pure.L8.find? (fun x=>decide (x.id=id))=o_ x.toaD):=⟨hm,OG,td⟩
  have d3:=(bo (HZ.I.2.2.2.1.L8.box (x,g) hm)).2.2.2.1;clear Dc td hm OG;by_cases hst:x.Md=0
  ·by_cases Pp:S.q.next=1000000000
   ·have HN:Hid (kD p.pure id=n_):=sx HX.I.2.2 (by have e:p.pure.next=1000000000:=Jf.I.trans Pp; simp [e])
    have e1:(x.Md != 0)=false:=by simp [hst]
    have e2:(S.q.next == 1000000000)=true:=by simp [Pp]
    clear hst Pp;exact Zag
   have HN:Hid (kD p.pure id=o_ { p.pure with next:=p.next+1,L8:=ce id (fun y:aD=> { y with Md:=1,RU:=p.next }) p.pure.L8 }):=tT Zc0 HX.I.2.2 (by have e:x.toaD.Md=0:=hst; have e2: ¬ p.pure.next=1000000000:=fun h=>Pp (Jf.I.symm.trans h); simp [e,e2]);have e1:(x.Md != 0)=false:=by simp [hst]
   have e2:(S.q.next == 1000000000)=false:=by simp [Pp]
   clear hst Pp;go_wp2_with fail;clear c1 c3 d3 e1 e2 hlk;have hnb:0≤S.q.next∧S.q.next≤1000000000:=by have h6:=bz.1 HZ.I.2.2.1.next; have h7:S.pure.next=S.q.next:=rfl; omega
   refine (OD o g W.heap.size S x w1 HZ.I.2.2.2.1 HX.I.1 hnb.1 hnb.2).mono ?_;rintro e w2 ⟨rfl,g8,hb2⟩;have hlt:=HZ.I.2.2.2.2.2.1;have H2:Hid (cJ w2 W.heap.size o (S.ju g (F2 S.q.next) (S.q.next+1))∧B_ w.heap.size w w2∧w2.heap[w.heap.size+1]? =o_ (c_ ar 36)∧W.heap.size≤w2.heap.size):=⟨g8,HZ.I.1.trans (hb2.mono (by omega)),(hb2.block _ hlt).trans HZ.I.2.1,by have:=hb2.size; have:=HZ.I.2.2.2.2.2.2; omega⟩
   have HF:Hid ((S.ju g (F2 S.q.next) (S.q.next+1)).Fits∧(S.ju g (F2 S.q.next) (S.q.next+1)).pure= { p.pure with next:=p.next+1,L8:=ce id (fun y:aD=> { y with Md:=1,RU:=p.next }) p.pure.L8 }):=by
    refine ⟨NU (iB HZ.I.2.2.1) fun _=>rfl,?_⟩;rw [aZ.NW (f':=fun y:aD=> { y with Md:=1,RU:=S.q.next }) HZ.I.2.2.1 (fun q hq e=>HZ.I.2.2.2.1.L8.one hq HX.I.1 e) HX.I.1 (fun _=>rfl),HX.I.2.1,HZ.I.2.2.2.2.1,Jf.I]
   clear g8 hb2 hnb;go_wp2_with fail;refine (jR o W.heap.size _ w2 H2.I.1 HF.I.1).mono ?_;rintro e w3 ⟨r,rfl,Bn,wu,hb3⟩;have H3:Hid (ap w3 W.heap.size r∧B_ w.heap.size w w3∧w3.heap[w.heap.size+1]? =o_ (c_ ar 36)∧r.pure= { p.pure with next:=p.next+1,L8:=ce id (fun y:aD=> { y with Md:=1,RU:=p.next }) p.pure.L8 }):=⟨Bn,H2.I.2.1.trans (hb3.mono H2.I.2.1.size),(hb3.block _ (J2.1 H2.I.2.2.1).1).trans H2.I.2.2.1,wu.trans HF.I.2⟩
   clear Bn wu hb3;go_wp2_with (refine ec 4 48 (af.cells r) H3.I.2.2.1 ?_);refine mG results15 (b_ true) H3.I.2.2.1 ?_;rw [HN.I];exact ⟨r,rfl,(H3.I.1.lower (by omega)).same fun b hb=>setRow_other _ _ _ _ (by have:=(H3.I.1.lt b hb).1; omega),H3.I.2.2.2,q_ H3.I.2.1 (by omega) _⟩
  ·have HN:Hid (kD p.pure id=n_):=sx HX.I.2.2 (by have e: ¬ x.toaD.Md=0:=hst; simp [e])
   have e1:(x.Md != 0)=true:=by simp [hst]
   clear hst;exact Zag
theorem NI (g:Nat) (x:ao) (w:w_) (h:w.heap[g]? =o_ (c_ (aX x) 44)):k_ J3 147 #[p_ (o_ ⟨g,0,n_⟩)] w fun e w'=>e=r_ (u_ #[])∧w'=w.drew.setRow g #[i_ j_ x.id,i_ j_ x.RX,s_ x.aY x.prog.length x.bH,i_ j_ 0,i_ j_ 0,i_ j_ 0,i_ j_ 0,i_ j_ 0,t_ ⟨#[]⟩,t_ x.got,i_ j_ x.code,i_ j_ 0] :=by
 have H:Hid (_):=h;obtain ⟨d0,d1,d2,d3,d4,d5,d6,d7,d8,d9,tH,tS⟩:=bo h;clear h d3 d4 d5 d6 d7 d8 tS
 go_enter func147,ntmps147
 go_wp2_with fail;refine eD (fun w'=>w'=w.drew) 23 ZcI rfl ?_
 iterate 23 (refine ly 24 (v:= ?_) (o_ _) rfl rfl ZcI (fun _ _ _ h=>h) (bV ZcI ?_) ?_; rotate_left; (intro w0 hS0; subst hS0; go_simp; try with_reducible rfl); simp only [pt,sb,s0,s1])
 refine fL rfl ZcI ZcI ZcI ?_;intro w1 cm;subst cm;refine qd _ _ _ rfl g _ _ #[i_ j_ x.id,i_ j_ x.RX,s_ x.aY x.prog.length x.bH,i_ j_ 0,i_ j_ 0,i_ j_ 0,i_ j_ 0,i_ j_ 0,t_ ⟨#[]⟩,t_ x.got,i_ j_ x.code,i_ j_ 0] rfl rfl H.I ZcI rfl ZcI ?_
 go_end0
 exact ⟨rfl,rfl⟩
def Qz (a b:aD):Bool:=if a.Mg=b.Mg then decide (a.id < b.id) else decide (a.Mg < b.Mg)
def RY (a b:ao × Nat):Bool:=Qz a.1.toaD b.1.toaD
def Qx (now:Int) (l:List (ao × Nat)):List (ao × Nat):=l.filter fun p=>og now p.1.toaD
theorem RZ {now:Int} {x:aD} :og now x=true↔2≤x.Md∧1≤x.Mg∧x.Mg≤now:=by
 unfold og;rw [J7,decide_eq_true_eq,bz]
theorem R2 (now:Int) (l:List (ao × Nat)) (p:ao × Nat):Qx now (l ++ [p])=Qx now l ++ (if og now p.1.toaD=true then [p] else []):=by
 unfold Qx;rw [QN];by_cases h:og now p.1.toaD=true <;> simp [h]
theorem Sn {α:Type} (afM:α→α→Bool) {l:List α} {k:Nat} (h:0 < k) (hk:k≤l.length): ∃ y,oa afM (l.take k)=o_ y∧y∈l:=by
 cases hb:oa afM (l.take k) with
 | none=>
  have h1:=congrArg List.length (CZ afM hb);rw [Lk,K4] at h1;omega
 | some y=>exact ⟨y,rfl,RK (Fg afM hb)⟩
theorem Sq {α β:Type} {afM:β→β→Bool} (f:α→β) (l:List α):oa afM (l.map f)=(oa (fun x y=>afM (f x) (f y)) l).map f:=by
 have key: ∀ (l:List α) (r:Option α),(l.map f).foldl (qV afM) (r.map f)=(l.foldl (qV fun x y=>afM (f x) (f y)) r).map f:=by
  intro l
  induction l with
  | nil=>intro r; rfl
  | cons x l ih=>
   intro r;simp only [List.foldl_cons,Lt,← ih]
   congr 1
   cases r with
   | none=>rfl
   | some b=>
    simp only [qV,J9]
    split <;> rfl
 exact key l n_
theorem fold_congr {α:Type} {afM ah':α→α→Bool} : ∀ (l l0:List α) (r:Option α),(∀ b,r=o_ b→b∈l0)→(∀ b∈l0,∀ x∈l,afM x b=ah' x b)→l.Pairwise (fun b x=>afM x b=ah' x b)→l.foldl (qV afM) r=l.foldl (qV ah') r
 | [],_,_,_,_,_=>rfl
 | x :: l,l0,r,hr,h1,h2=>by
  rw [LM] at h2;have e:qV afM r x=qV ah' r x:=by
   cases r with
   | none=>rfl
   | some b=>simp only [qV,h1 b (hr b rfl) x (by simp)]
  simp only [List.foldl_cons,e];refine fold_congr l (x :: l0) _ (fun b hb=> ?_) (fun b hb y hy=> ?_) h2.2
  ·rcases EO ah' hb with h3 | h3
   ·simp [h3]
   ·exact LB _ (hr b h3)
  ·rcases Kt.1 hb with rfl | hb
   ·exact h2.1 y hy
   ·exact h1 b hb y Zdi
theorem Sy {now:Int} {lp:List (ao × Nat)} (h:(lp.map fun p=>p.1.toaD).Pairwise (fun x y=>x.id < y.id)):(oa RY (Qx now lp)).map (fun p=>p.1.toaD)=lZ now (lp.map fun p=>p.1.toaD):=by
 have e1:lF now (lp.map fun p=>p.1.toaD)=(Qx now lp).map fun p=>p.1.toaD:=by
  unfold lF Qx;rw [List.filter_map];rfl
 unfold lZ;rw [e1];have e2:oa l8 ((Qx now lp).map fun p=>p.1.toaD)=oa Qz ((Qx now lp).map fun p=>p.1.toaD):=by
  refine fold_congr _ [] n_ (fun b hb=>by cases hb) (fun b hb=>by cases hb) ?_;have h2:((Qx now lp).map fun p=>p.1.toaD).Pairwise (fun x y=>x.id < y.id):=by
   rw [← e1];exact h.sublist List.filter_sublist
  refine h2.imp fun {b x} lW=> ?_
  unfold l8 Qz;by_cases hw:x.Mg=b.Mg
  ·rw [if_pos hw,decide_eq_false (by omega),decide_eq_false (by omega)]
  ·rw [if_neg hw]
 rw [e2,Sq];rfl
theorem R9 (A B:Nat) (a b:ao) (w:w_) (ha:w.heap[A]? =o_ (c_ (aX a) 44)) (hb:w.heap[B]? =o_ (c_ (aX b) 44)):
  k_ J3 86 #[p_ (o_ ⟨A,0,n_⟩),p_ (o_ ⟨B,0,n_⟩)] w fun e w'=>e=r_ (b_ (Qz a.toaD b.toaD))∧B_ w.heap.size w w':=by
 obtain ⟨a0,-,-,-,-,-,a6,-⟩:=bo ha;obtain ⟨b0,-,-,-,-,-,b6,-⟩:=bo hb;clear ha hb
 go_enter func86,ntmps86
 by_cases hp:a.Mg=b.Mg
 ·have e1:(a.Mg != b.Mg)=false:=by simp [hp]
  by_cases hs:a.id < b.id
  ·have ds:decide (a.id < b.id)=true:=decide_eq_true hs
   have HV:Hid (Qz a.toaD b.toaD=true):=by show Qz _ _=_; unfold Qz; rw [if_pos hp]; exact ds
   exact ab
  ·have ds:decide (a.id < b.id)=false:=decide_eq_false hs
   have HV:Hid (Qz a.toaD b.toaD=false):=by show Qz _ _=_; unfold Qz; rw [if_pos hp]; exact ds
   exact ab
 ·have e1:(a.Mg != b.Mg)=true:=by simp [hp]
  by_cases hs:a.Mg < b.Mg
  ·have ds:decide (a.Mg < b.Mg)=true:=decide_eq_true hs
   have HV:Hid (Qz a.toaD b.toaD=true):=by show Qz _ _=_; unfold Qz; rw [if_neg hp]; exact ds
   exact ab
  ·have ds:decide (a.Mg < b.Mg)=false:=decide_eq_false hs
   have HV:Hid (Qz a.toaD b.toaD=false):=by show Qz _ _=_; unfold Qz; rw [if_neg hp]; exact ds
   exact ab
theorem Sd (a:Option d_) (l:List (ao × Nat)) (cap:Nat) (w:w_) (hl:l.length≤1048576) (hr:Row w a (l.map fun p=>dt p.2)) (hb: ∀ p∈l,w.heap[p.2]? =o_ (c_ (aX p.1) 44)):
  k_ J3 84 #[s_ a l.length cap,.func (.func 86) #[] #[]] w fun e w'=>e=r_ (u_ #[qz ((oa RY l).map (·.2)),b_ (decide (0 < l.length))])∧B_ w.heap.size w w':=by
 have H:Hid (Row w a (l.map fun p=>dt p.2)∧ ∀ p∈l,w.heap[p.2]? =o_ (c_ (aX p.1) 44)):=⟨hr,hb⟩
 clear hr hb
 go_enter func84,ntmps84
 go_wp2_with fail
 go_loopw [6,11] (fun b i wr=> ∃ (k:Nat) (r:Option (ao × Nat)),k≤l.length∧i=i_ j_ k∧b=qz (r.map (·.2))∧Hid (r=oa RY (l.take k)∧B_ w.heap.size w wr)) (fun _ i _=>l.length - (intOf i).toNat)
 case atStart=>exact ⟨0,n_,Ky _,rfl,rfl,⟨by simp [oa],Kp _ _⟩⟩
 case round=>
  obtain ⟨k,r,hk,rfl,rfl,HA⟩:=hrel;by_cases hlt:k < l.length
  ·have i0:(0:Int)≤(k:Int):=by omega
   have i1:(k:Int) < (l.length:Int):=by omega
   obtain ⟨p,hp⟩: ∃ p,l[k]? =o_ p:=⟨_,Kz hlt⟩
   obtain ⟨g,ha,hc⟩:=(H.I.1.below HA.I.2) k (dt p.2) Zdk;subst ha;unfold dt at hc;have HP:Hid (l[k]? =o_ p∧p∈l):=⟨hp,KA hp⟩
   clear hp;by_cases hk0:k=0
   ·have e0:((k:Int) == 0)=true:=by simp [hk0]
    have HS:Hid (o_ p=oa RY (l.take (k+1))):=by show _=_; rw [cj HP.I.1,qy,hk0]; rfl
    exact Zbc
   ·have e0:((k:Int) == 0)=false:=by simp [hk0]
    obtain ⟨y,hy,hym⟩:=Sn RY (l:=l) (by omega:0 < k) hk;have hry:r=o_ y:=HA.I.1.trans hy;subst hry;have HQ:Hid (oa RY (l.take k)=o_ y∧y∈l):=⟨hy,hym⟩
    clear hk0 hy hym;simp only [qz,dt,J9];go_wp2_with fail;refine (R9 p.2 y.2 p.1 y.1 wr ((HA.I.2.block _ (J2.1 (H.I.2 p HP.I.2)).1).trans (H.I.2 p HP.I.2)) ((HA.I.2.block _ (J2.1 (H.I.2 y HQ.I.2)).1).trans (H.I.2 y HQ.I.2))).mono ?_;rintro e w4 ⟨rfl,hb4⟩;have HB4:Hid (B_ w.heap.size w w4):=HA.I.2.trans (hb4.mono HA.I.2.size);clear hb4;cases FT:Qz p.1.toaD y.1.toaD with
    | true=>
     have HS:Hid (o_ p=oa RY (l.take (k+1))):=by show _=_; rw [cj HP.I.1,qy,HQ.I.1]; simp [qV,RY,FT]
     exact Zbd
    | false=>
     have HS:Hid (o_ y=oa RY (l.take (k+1))):=by show _=_; rw [cj HP.I.1,qy,HQ.I.1]; simp [qV,RY,FT]
     exact Zbe
  ·have i1: ¬ (k:Int) < (l.length:Int):=by omega
   have HE:Hid (r=oa RY l):=by have h5:=HA.I.1; rwa [KF (by omega)] at h5
   go_wp2;go_ret2;refine ⟨?_,HA.I.2⟩;rw [HE.I];simp
theorem Sz (o:Nat) (q:ol) (lp:List (ao × Nat)) (now:Int) (base:Nat) (w:w_) (hop:fa w o q) (hsh:Shelf aX (fun x:ao=>x.id) 44 w base q.bp lp) (hl:lp.length≤1048576) (hwf: ∀ p∈RW (fun x:ao=>x.id) lp,(Lit.int j_ p.1).wf=true):
  k_ J3 85 #[p_ (o_ ⟨o,0,n_⟩),i_ j_ now] w fun e w'=>(∃ a cap,e=r_ (s_ a (Qx now lp).length cap)∧Row w' a ((Qx now lp).map fun p=>dt p.2))∧B_ w.heap.size w w':=by
 obtain ⟨i0,hi,e0⟩:=Kw.1 sQ;simp only [Kx] at e0;have HI:Hid (Tryz.prog.info? 71=o_ i0∧i0.zero=o_ (p_ n_)∧i0.size=1∧i0.bytes=8):=⟨hi,e0⟩
 have H:Hid (Shelf aX (fun x:ao=>x.id) 44 w base q.bp lp∧ ∀ p∈RW (fun x:ao=>x.id) lp,(Lit.int j_ p.1).wf=true):=⟨hsh,hwf⟩
 have c2:w.cell? ⟨o,2,n_⟩=o_ (i_ j_ 6):=hop.cell 2;have c3:w.cell? ⟨o,3,n_⟩=o_ (.map (o_ q.bp)):=hop.cell 3;have HK:Hid ((RW (fun x:ao=>x.id) lp).length=lp.length):=bZ lp;clear hop hsh hwf hi e0
 go_enter func85,ntmps85
 go_wp2_with fail;refine (mq 6 q.bp (RW (fun x:ao=>x.id) lp) w H.I.1.map ZcU H.I.2).mono ?_;rintro e w2 ⟨a,cap,rfl,hown,hb2⟩;obtain ⟨a',cap',hv,hrow⟩:=cr hown;cases hv;have HR:Hid (Row w2 a ((RW (fun x:ao=>x.id) lp).map fun p=>dt p.2)):=hrow;have HO:Hid (Shelf aX (fun x:ao=>x.id) 44 w2 base q.bp lp∧B_ w.heap.size w w2):=⟨H.I.1.below hb2,hb2⟩
 rw [HK.I];clear hown hrow hb2 c2 c3;go_wp2_with fail
 go_loopw [5,14] (fun l i wr=> ∃ (k n:Nat),k≤lp.length∧n≤k∧i=i_ j_ k∧ ∃ a' cap',l=s_ a' n cap'∧Hid (n=(Qx now (lp.take k)).length∧wr.ownsRow w2.heap.size 71 1 (s_ a' n cap') n ((Qx now (lp.take k)).map fun p=>dt p.2)∧B_ w2.heap.size w2 wr)) (fun _ i _=>lp.length - (intOf i).toNat)
 case atStart=>exact ⟨0,0,Ky _,Ki _,rfl,n_,0,rfl,⟨rfl,World.ownsRow_nil _ _ _ _,Kp _ _⟩⟩
 case round=>
  obtain ⟨k,n,hk,hn,rfl,a',cap',rfl,HA⟩:=hrel;by_cases hlt:k < lp.length
  ·have qE:(0:Int)≤(k:Int):=by omega
   have i1:(k:Int) < (lp.length:Int):=by omega
   obtain ⟨p,hp⟩: ∃ p,lp[k]? =o_ p:=⟨_,Kz hlt⟩
   obtain ⟨g,ha,hc⟩:=(HR.I.below HA.I.2.2) k (dt p.2) ZcY;subst ha;unfold dt at hc;have HP:Hid (lp[k]? =o_ p):=hp;have lW:wr.heap[p.2]? =o_ (c_ (aX p.1) 44):=(HO.I.1.below HA.I.2.2).box p (KA hp);obtain ⟨-,-,-,s3,-,-,s6,-⟩:=bo lW;have kT:=HA.I.2.2.size;clear hp lW;by_cases h1:2≤p.1.Md;rotate_left
   ·skip
    exact te
   by_cases h2:1≤p.1.Mg;rotate_left
   ·skip
    exact te
   by_cases h3:p.1.Mg≤now;rotate_left
   ·skip
    exact te
   have SC:Hid ((Qx now (lp.take (k+1)))=(Qx now (lp.take k)) ++ [p]):=by show _=_; rw [cj HP.I,R2,if_pos (by rw [RZ]; exact ⟨h1,h2,h3⟩)]
   go_wp2_with (at_builtin; refine wpList_append_own_at _ rfl _ _ 169 rfl w2.heap.size 71 i0 (p_ n_) 1 8 underlying169 HI.I.1 HI.I.2.1 HI.I.2.2.1 HI.I.2.2.2 rfl (by decide) (s_ a' n cap') n ((Qx now (lp.take k)).map fun p=>dt p.2) rfl (HA.I.2.1.alloc _) ⟨wr.heap.size,0,n_⟩ 1 1 [p_ (o_ ⟨p.2,0,n_⟩)] (by rfl) rfl (World.news_of_block (cs:= #[p_ (o_ ⟨p.2,0,n_⟩)]) (t:=71) (fr:=(0,0)) (Kj wr _)) ZcT ZcL (by omega) ZcJ ?_; intro v' w5 hown' hgrow hnil jV; obtain ⟨a5,im,rfl,-⟩:=cr hown'; have HN:Hid (n+1=(Qx now (lp.take (k+1))).length∧w5.ownsRow w2.heap.size 71 1 (s_ a5 (n+1) im) (n+1) ((Qx now (lp.take (k+1))).map fun p=>dt p.2)∧B_ w2.heap.size w2 w5):=⟨by rw [SC.I,List.length_append,← HA.I.1]; rfl,by rw [SC.I,List.map_append]; exact hown',(HA.I.2.2.alloc kT _).grown hgrow ZcJ (fun q hq=>(HA.I.2.1.lt q hq).1)⟩; clear hown' hgrow hnil jV);exact Zam
  ·have i1: ¬ (k:Int) < (lp.length:Int):=by omega
   have HE:Hid (n=(Qx now lp).length∧Row wr a' ((Qx now lp).map fun p=>dt p.2)):=by
    have h5:=HA.I;rw [KF (by omega)] at h5;exact Zbh
   exact Zbp
end
theorem sr {α:Type} {num:α→Int} {ok:α→Bool} : ∀ {l:List α} {last:Int},(∀ x∈l,cv (num x) 1 1000=true∧ok x=true)→(∀ x∈l,last < num x)→l.Pairwise (fun x y=>num x < num y)→aw num ok last l=true
 | [],_,_,_,_=>rfl
 | x :: r,last,h1,h2,h3=>by
  obtain ⟨h4,h5⟩:=LM.1 h3;simp only [aw,J7,decide_eq_true_eq];exact ⟨⟨⟨(h1 x (by simp)).1,h2 x (by simp)⟩,(h1 x (by simp)).2⟩,sr (fun y hy=>h1 y Zdi) h4 h5⟩
theorem nj {α:Type} {num:α→Int} {ok:α→Bool} {l:List α} {last id:Int} {f:α→α} (h:aw num ok last l=true) (hf: ∀ x,num (f x)=num x) (ho: ∀ x∈l,num x=id→ok (f x)=true):aw num ok last (jP num id f l)=true:=by
 obtain ⟨h1,h2⟩:=db h;have h3:=cK h;have e: ∀ z:α,num (if num z=id then f z else z)=num z:=fun z=>by split <;> simp [hf]
 refine sr (fun y hy=> ?_) (fun y hy=> ?_) ?_
 ·obtain ⟨z,hz,rfl⟩:=Lr.1 hy
  refine ⟨by rw [e]; exact (h3 z hz).1,?_⟩
  split
  ·exact ho z hz ‹_›
  ·exact (h3 z hz).2
 ·obtain ⟨z,hz,rfl⟩:=Lr.1 hy
  rw [e]; exact h1 z hz
 ·unfold jP
  rw [Qm];exact h2.imp fun {a b} hab=>by rw [e,e]; exact hab
theorem vN {α:Type} {num:α→Int} {id:Int} {f:α→α} (hf: ∀ x,num (f x)=num x) (l:List α):(jP num id f l).map num=l.map num:=by
 unfold jP;rw [Lv];refine Lw fun z _=> ?_
 simp only [Ls]
 split <;> simp [hf]
section
variable {p:aE}
theorem aQ.proc (h:aQ p) {x:aD} (hx:x∈p.L8):cv x.id 1 1000=true∧cH x=true∧fF p.next x=true∧dG p x=true:=by
 obtain ⟨h1,h2⟩:=cK h.L8 x hx;simp only [J7] at h2;exact ⟨h1,h2.1.1,h2.1.2,h2.2⟩
theorem aQ.kW (h:aQ p):p.L8.Pairwise (fun x y=>x.id < y.id):=(db h.L8).2
theorem aQ.ju {id nx:Int} {f:aD→aD} (h:aQ p) (hid: ∀ x,(f x).id=x.id) (hn:p.next≤nx∧nx≤1000000000)
  (hx: ∀ x∈p.L8,x.id=id→cH (f x)=true∧fF nx (f x)=true∧dG p (f x)=true∧((f x).RU=x.RU∨(f x).RU=0∨(f x).RU=p.next)):aQ { p with next:=nx,L8:=ce id f p.L8 } :=by
 have hnx:=bz.1 h.next;have e: ∀ z:aD,(if z.id=id then f z else z).id=z.id:=fun z=>by split <;> simp [hid]
 refine ⟨h.id,(show cv nx 1 1000000000=true from eB (by omega) hn.2),by simpa [ce] using h.dl,h.fx,h.cD,h.cC,h.cb,h.dH,?_,h.aj,h.L9,h.ag,h.ae,h.ai,?_⟩
 ·obtain ⟨h1,h2⟩:=db h.L8
  refine sr (fun y hy=> ?_) (fun y hy=> ?_) ?_
  ·obtain ⟨z,hz,rfl⟩:=Lr.1 hy
   refine ⟨by rw [e]; exact (h.proc hz).1,?_⟩;simp only [J7]
   split
   ·rename_i hi
    obtain ⟨k1,k2,k3,-⟩:=hx z hz hi;exact ⟨⟨k1,k2⟩,k3⟩
   ·obtain ⟨-,k1,k2,k3⟩:=h.proc hz
    refine ⟨⟨k1,?_⟩,k3⟩;unfold fF at k2 ⊢;simp only [Kb,decide_eq_true_eq] at k2 ⊢;rcases k2 with k2 | k2
    ·exact .inl k2
    ·have:=bz.1 k2; exact .inr (eB (by omega) (by show _≤nx - 1; omega))
  ·obtain ⟨z,hz,rfl⟩:=Lr.1 hy
   rw [e]; exact h1 z hz
  ·show (ce id f p.L8).Pairwise _
   exact rW hid h2
 ·have hs: ∀ z∈p.L8,z.RU < p.next∧0≤z.RU:=fun z hz=>by
   obtain ⟨-,k1,k2,-⟩:=h.proc hz;by_cases h0:z.Md=0
   ·have:=kx k1 h0; omega
   ·unfold fF at k2
    simp only [Kb,decide_eq_true_eq,h0,false_or] at k2
    have:=bz.1 k2; omega
  have ha:=h.apart;unfold rb at ha ⊢
  show ((ce id f p.L8).map (·.RU)).Pairwise _
  unfold ce;rw [Lv,Qm];rw [Qm] at ha;refine List.Pairwise.imp_of_mem (fun {a b} ham wU hab=> ?_) (ha.and h.kW);obtain ⟨h1,h2⟩:=hab;have sa:=hs a ham;have sb:=hs b wU;simp only [Ls];by_cases ea:a.id=id
  ·rw [if_pos ea,if_neg (by omega)]
   obtain ⟨-,-,-,k⟩:=hx a ham ea;rintro ⟨u,v⟩;rcases k with k | k | k
   ·rw [k] at u; exact h1 ⟨u,v⟩
   ·omega
   ·omega
  ·rw [if_neg ea]
   by_cases eb:b.id=id
   ·rw [if_pos eb]
    obtain ⟨-,-,-,k⟩:=hx b wU eb;rintro ⟨u,v⟩;rcases k with k | k | k
    ·rw [k] at u v; exact h1 ⟨u,v⟩
    ·omega
    ·omega
   ·rw [if_neg eb]; exact h1
theorem aQ.GD {l:List bD} (h:aQ p) (hi:l.map (·.id)=p.aj.map (·.id)) (hr:aw (·.id) gw 0 l=true):aQ { p with aj:=l } :=by
 have hw:dG { p with aj:=l } =dG p:=by funext x; simp only [dG,hasB,hi]
 have hl:l.length=p.aj.length:=by simpa using congrArg List.length hi
 exact ⟨h.id,h.next,h.dl,by show l.length≤5; rw [hl]; exact h.fx,h.cD,h.cC,h.cb,h.dH,by rw [hw]; exact h.L8,hr,h.L9,h.ag,h.ae,h.ai,h.apart⟩
theorem aQ.Cz {l:List aB} (h:aQ p) (hi:l.map (·.id)=p.L9.map (·.id)) (hr:aw (·.id) ey 0 l=true):aQ { p with L9:=l } :=by
 have hw:dG { p with L9:=l } =dG p:=by funext x; simp only [dG,hasB,hi]
 have hl:l.length=p.L9.length:=by simpa using congrArg List.length hi
 exact ⟨h.id,h.next,h.dl,h.fx,by show l.length≤5; rw [hl]; exact h.cD,h.cC,h.cb,h.dH,by rw [hw]; exact h.L8,h.aj,hr,h.ag,h.ae,h.ai,h.apart⟩
theorem aQ.C5 {l:List az} (h:aQ p) (hi:l.map (·.id)=p.ag.map (·.id)) (hr:aw (·.id) cU 0 l=true):aQ { p with ag:=l } :=by
 have hw:dG { p with ag:=l } =dG p:=by funext x; simp only [dG,hasB,hi]
 have hl:l.length=p.ag.length:=by simpa using congrArg List.length hi
 exact ⟨h.id,h.next,h.dl,h.fx,h.cD,by show l.length≤5; rw [hl]; exact h.cC,h.cb,h.dH,by rw [hw]; exact h.L8,h.aj,h.L9,hr,h.ae,h.ai,h.apart⟩
theorem aQ.Cb {l:List ci} (h:aQ p) (hi:l.map (·.id)=p.ae.map (·.id)) (hr:aw (·.id) ct 0 l=true):aQ { p with ae:=l } :=by
 have hw:dG { p with ae:=l } =dG p:=by funext x; simp only [dG,hasB,hi]
 have hl:l.length=p.ae.length:=by simpa using congrArg List.length hi
 exact ⟨h.id,h.next,h.dl,h.fx,h.cD,h.cC,by show l.length≤5; rw [hl]; exact h.cb,h.dH,by rw [hw]; exact h.L8,h.aj,h.L9,h.ag,hr,h.ai,h.apart⟩
theorem aQ.Es {l:List dS} (h:aQ p) (hi:l.map (·.id)=p.ai.map (·.id)) (hr:aw (·.id) dj 0 l=true):aQ { p with ai:=l } :=by
 have hw:dG { p with ai:=l } =dG p:=by funext x; simp only [dG,hasB]
 have hl:l.length=p.ai.length:=by simpa using congrArg List.length hi
 exact ⟨h.id,h.next,h.dl,h.fx,h.cD,h.cC,h.cb,by show l.length≤5; rw [hl]; exact h.dH,by rw [hw]; exact h.L8,h.aj,h.L9,h.ag,h.ae,hr,h.apart⟩
end
def jY (x:aD):Bool:=cv x.RX 1 50 && jm x.prog && bw x.held && bw x.got && cv x.code 0 3
theorem fG (x:aD):cH x=(jY x && bO x):=rfl
theorem jX:bw rM=true:=by decide
theorem oB:bI rM=true:=by simp [bI,rM,PQ]
theorem iT {x:aD} (h:cH x=true) (h0: ¬ x.Md=0):0≤x.pc∧x.pc < x.prog.length:=by
 rw [fG,J7] at h;have h3:=h.2;unfold bO at h3;have h4:dU x=true:=by
  rw [if_neg h0] at h3
  split at h3
  ·simp only [J7] at h3; exact h3.1.1.1.1
  ·exact ZaH
 have h5:=bz.1 h4;omega
theorem yG {l:List dN} (h:jm l=true) {i:Nat} {o:dN} (ho:l[i]? =o_ o):kc o=true:=by
 unfold jm nq at h;have h1:=(of_decide_eq_true h).2.2 i (Lj.1 ho).1;unfold j8 Cd Cg Ea Ce at h1;rw [ho] at h1;exact h1
theorem lK {l:List dN} (h:jm l=true):1≤l.length∧l.length≤20:=by
 unfold jm nq at h;have h1:=of_decide_eq_true h;exact ⟨h1.1,h1.2.1⟩
theorem mr {x:aD} (hp:jm x.prog=true) (hs:x.Md=1) (hc:0≤x.pc∧x.pc < x.prog.length) (hl:x.left=0) (hw:x.Mg=0) (ho:x.on=0) (hh:bI x.held=true):bO x=true:=by
 unfold bO;rw [if_neg (by omega),if_pos hs,hw,ho,hh];have h1:dU x=true:=eB hc.1 (by omega);have h2:jJ x=true:=by
  unfold jJ;rw [hl]
  split
  ·rename_i hk
   unfold opAt at hk ⊢;have h3:x.pc.toNat < x.prog.length:=by omega
   rw [Kz h3] at hk ⊢;simp only [Option.getD_some] at hk ⊢;have h4:=yG hp (Kz h3);unfold kc mQ at h4;rw [hk] at h4;have h5:cv (x.prog[x.pc.toNat]).2.1 1 1000=true:=by simp at h4; exact h4.1.1
   have:=bz.1 h5
   simp only [J7,decide_eq_true_eq];omega
  ·rfl
 rw [h1,h2]; rfl
theorem vQ {x:aD} (h:jY x=true):cH (j7 x)=true:=by
 rw [fG,J7];constructor
 ·unfold jY at h ⊢
  simp only [J7] at h ⊢;exact ⟨⟨⟨h.1.1.1,jX⟩,h.1.2⟩,h.2⟩
 ·unfold bO j7
  simp [oB]
theorem vF {x:aD} {code s:Int} (h:jY x=true) (hc:cv code 0 3=true) (h0:0≤x.pc) (h1:x.pc+1 < x.prog.length):cH { jM code x with RU:=s } =true:=by
 rw [fG,J7];unfold jY at h ⊢;simp only [J7] at h ⊢;refine ⟨⟨⟨⟨h.1.1.1,jX⟩,h.1.2⟩,hc⟩,mr (x:= { jM code x with RU:=s }) h.1.1.1.2 rfl ⟨by show 0≤x.pc+1; omega,h1⟩ rfl rfl rfl oB⟩
section
open Go.RowKit
abbrev newP (id RX:Int) (l:List dN):aD:=⟨id,RX,l,0,0,0,0,0,⟨#[]⟩,⟨#[]⟩,0,0⟩
theorem xJ {α:Type} {num:α→Int} {R:α→α→Prop} {x:α} : ∀ {l:List α},(∀ y∈l,R x y)→(∀ y∈l,R y x)→l.Pairwise R→(bY num x l).Pairwise R
 | [],_,_,_=>by simp [bY]
 | y :: r,h1,h2,h=>by
  simp only [bY]
  split
  ·exact LM.2 ⟨h1,h⟩
  ·rw [LM] at h
   refine LM.2 ⟨fun z hz=> ?_,xJ (fun z hz=>h1 z (by simp [hz])) (fun z hz=>h2 z (by simp [hz])) h.2⟩;rcases fq.1 hz with rfl | hz
   ·exact h2 y (by simp)
   ·exact h.1 z hz
theorem El {id RX:Int} {l:List dN} {ps:List aD} (h:rb ps):rb (bY (·.id) (newP id RX l) ps):=by
 unfold rb at h ⊢;rw [Qm] at h ⊢;exact xJ (fun y _ e=>by have h1:(0:Int)=y.RU:=e.1; have h2:0 < y.RU:=e.2; omega) (fun y _ e=>absurd (show (0:Int) < 0 from e.2) (by decide)) h
theorem S8 {p:aE} {id RX:Int} {l:List dN} (h:aQ p):bK ({ p with L8:=bY (·.id) (newP id RX l) p.L8 } :aE)=(jn (·.id) cH (newP id RX l) p.L8 && decide (p.L8.length < 6)):=by
 have e0:jn (·.id) (fun x=>cH x && fF p.next x && dG p x) (newP id RX l) p.L8=jn (·.id) cH (newP id RX l) p.L8:=by
  have e1:fF p.next (newP id RX l)=true:=by simp [fF]
  have e2:dG p (newP id RX l)=true:=by simp [dG]
  simp only [jn,e1,e2,Bool.and_true]
 rw [Lx,ch,J7,decide_eq_true_eq,← e0,← mw h.L8];constructor
 ·intro h2
  have h3:(bY (·.id) (newP id RX l) p.L8).length≤6:=h2.dl;rw [er] at h3;exact ⟨h2.L8,by omega⟩
 ·intro h2
  have h3:=h2.2;exact ⟨h.id,h.next,(by show (bY (·.id) (newP id RX l) p.L8).length≤6; rw [er]; omega),h.fx,h.cD,h.cC,h.cb,h.dH,h2.1,h.aj,h.L9,h.ag,h.ae,h.ai,El h.apart⟩
section
variable {p:aE} {id RX:Int} {l:List dN}
end

end
section
open Go.RowKit Go.Maps
theorem dY {A B B':List Nat} {g:Nat} (h:B'.Perm (g :: B)):(A ++ B').Perm (g :: (A ++ B)):=(List.Perm.append_left A h).trans List.perm_middle
theorem lM {α:Type} {num:α→Int} (x:α) (b g:Nat) (l:List (α × Nat)):(b :: (fc num (x,g) l).map (·.2)).Perm (g :: (b :: l.map (·.2))):=
 have h:((fc num (x,g) l).map (·.2)).Perm (g :: l.map (·.2)):=(lC (num:=num) (x,g) l).map (·.2)
 (List.Perm.cons b h).trans (List.Perm.swap g b _)
theorem m9 {α β:Type} {num:α→Int} {je:β→Int} (f:α→β) (hf: ∀ y,je (f y)=num y) (x:α) (g:Nat): ∀ l:List (α × Nat),(fc num (x,g) l).map (fun p=>f p.1)=bY je (f x) (l.map (fun p=>f p.1))
 | [] =>rfl
 | y :: r=>by
  simp only [fc,bY,Lt,hf]
  split
  ·simp
  ·simp [m9 f hf x g r]
theorem AG {α:Type} {N:gd α} {num:α→Int} (x:α) (g:Nat) (l:List (α × Nat)):(kids N (fc num (x,g) l)).Perm (kids N ((x,g) :: l)):=(lC (num:=num) (x,g) l).filterMap _
theorem oP {α β:Type} {num:α→Int} {je:β→Int} (f:α→β) (hf: ∀ y,je (f y)=num y) (ok:β→Bool) (x:α) (n:Nat) (l:List (α × Nat)):iI n (RW num l) (num x) (ok (f x))=(jn je ok (f x) (l.map (fun p=>f p.1)) && decide ((l.map (fun p=>f p.1)).length < n)):=by
 have e1:(RW num l).map (·.1)=(l.map (fun p=>f p.1)).map je:=by
  simp only [RW,Lv];exact Lw fun p _=>(hf p.1).symm
 have e2:decide (((RW num l).length:Int) < (n:Int))=decide ((l.map (fun p=>f p.1)).length < n):=by
  rw [bZ,KG];exact decide_eq_decide.2 (by omega)
 unfold iI jn;rw [ry,e1,e2,hf];cases decide ((l.map (fun p=>f p.1)).length < n) <;> simp
theorem uq {α:Type} {num:α→Int} {ok:α→Bool} {x:α} {l:List α} {n:Nat} (h:(jn num ok x l && decide (l.length < n))=true):num x∉l.map num:=by
 simp only [jn,J7,Bool.not_eq_true',decide_eq_false_iff_not] at h;exact h.1.1.1
theorem cJ.lt {w:w_} {base o:Nat} {S:aZ} (h:cJ w base o S): ∀ c∈o :: (S.boxes ++ S.kids),c < w.heap.size:=fun c hc=>by
 simp only [aZ.boxes,aZ.kids,Kt,Kg] at hc;rcases hc with rfl | ((hc | hc | hc | hc | hc | hc) | hc | hc | hc)
 ·exact (J2.1 h.opn).1
 ·exact h.L8.lt c (Kt.2 hc)
 ·exact h.aj.lt c (Kt.2 hc)
 ·exact h.L9.lt c (Kt.2 hc)
 ·exact h.ag.lt c (Kt.2 hc)
 ·exact h.ae.lt c (Kt.2 hc)
 ·exact h.ai.lt c (Kt.2 hc)
 ·obtain ⟨r,hr,hk⟩:=Lq.1 hc
  exact ((h.eI r hr).lt hk).2
 ·obtain ⟨r,hr,hk⟩:=Lq.1 hc
  exact ((h.eE r hr).lt hk).2
 ·obtain ⟨r,hr,hk⟩:=Lq.1 hc
  exact ((h.eR r hr).lt hk).2
def ld (w:w_) (a:Option d_) (xs:List v_):Prop:= ∀ j u,xs[j]? =o_ u→ ∃ ad,a=o_ ad∧w.cell? (ad.add j)=o_ u
theorem ld.nil {w:w_} {a:Option d_} :ld w a [] :=fun j u hu=>by cases hu
theorem ld.none {w:w_} {xs:List v_} (h:ld w n_ xs):xs= [] :=by
 cases xs with
 | nil=>rfl
 | cons u r=>
  obtain ⟨ad,e,_⟩:=h 0 u rfl;cases e
theorem jD {P:Program} (w:w_) (base:Nat) (t ty e:T_) (i:TypeInfo) (z:v_) (size bytes:Nat) (ht:P.underlying t=o_ (.slice e)) (hi:P.info? e=o_ i) (hz:i.zero=o_ z)
  (hsize:i.size=size) (hby:i.bytes=bytes) (hzs:z.cells.size=size) (hsz:0 < size) (a0:Option d_) (n0 c0:Nat) (ys:List v_) (ho:w.ownsRow base e size (s_ a0 n0 c0) n0 ys)
  (a:Option d_) (n cap:Nat) (xs:List v_) (h:ld w a xs) (hl:xs.length=n * size) (h1: ∀ u∈xs,u.oneCell'=true) (h63:n0+n≤4000000) (hb:bytes≤1000) (lY:base≤w.heap.size):
  ∃ a' cap' w',(Builtin.append_ #[t,t] ty #[s_ a0 n0 c0,s_ a n cap]).run P w= .ok (s_ a' (n0+n) cap') w'∧w'.ownsRow base e size (s_ a' (n0+n) cap') (n0+n) (ys ++ xs)∧w.grownBy w' (Value.slice a0 n0 c0).ownBlock∧ ∀ g∈blk a',g∈blk a0∨g=w.heap.size:=by
 cases a with
 | none=>
  have hx:=h.none;subst hx;have hn:n=0:=by
   cases n with
   | zero=>rfl
   | succ n=>simp only [K4,Nat.succ_mul] at hl; omega
  subst hn;refine ⟨a0,c0,w,?_,by simpa using ho,⟨rfl,rfl,rfl,Ki _,fun _ _ _=>rfl⟩,fun g hg=> .inl hg⟩;have hc:n0≤c0:=by
   obtain ⟨-,⟨e1,e2⟩ | ⟨g,c,cur,e1,-,-,h5,-⟩⟩:=ho
   ·cases e1; exact Ki _
   ·cases e1; exact h5
  cases a0 <;> simp [Builtin.append_,run_underlying ht,sizeOf,typeInfo,hi,Builtin.lenOf,Builtin.firstCells,storeCells,hc]
 | some ad=>
  have hnews: ∀ j u,xs[j]? =o_ u→w.cell? (ad.add j)=o_ u:=fun j u hu=>by
   obtain ⟨ad',e',hc⟩:=h j u hu;cases e';exact hc
  obtain ⟨v',w',hr,ho',hgr,-,hbl⟩:=run_append_own_at (P:=P) w base t ty e i z size bytes ht hi hz hsize hby hzs hsz (s_ a0 n0 c0) n0 ys ho ad n cap xs hl hnews h1 ZcL (by have:=Nat.mul_le_mul h63 hb; omega) lY;obtain ⟨a',cap',rfl,-⟩:=cr ho';refine ⟨a',cap',w',hr,ho',hgr,fun g hg=> ?_⟩;rw [fZ] at hg ⊢;cases a' with
  | none=>cases hg
  | some ad'=>
   simp only [J9,LF] at hg;subst hg;rcases hbl with hbl | hbl
   ·refine .inl ?_
    cases a0 with
    | none=>cases hbl
    | some ad0=>simpa [Value.ownBlock] using hbl.symm
   ·exact .inr Zdx
theorem Hj (g m j:Nat):(⟨g,m,n_⟩:d_).add j=⟨g,m+j,n_⟩:=by unfold Addr.add; split <;> simp_all
theorem FH {α:Type} {K:Kind α} {w:w_} {a:Option d_} {l:List α} (k:Nat) (h:Row w a (K.flat l)):ld w (a.map (·.add (k * K.n))) (K.flat (l.drop k)):=fun j u hu=>by
 by_cases hk:k≤l.length
 ·have e:K.flat l=K.flat (l.take k) ++ K.flat (l.drop k):=by rw [← K.dc,List.take_append_drop]
  have hl:(K.flat (l.take k)).length=k * K.n:=by rw [K.dM,Lk,Nat.min_eq_left hk]
  have hu2:(K.flat l)[k * K.n+j]? =o_ u:=by
   rw [e,List.getElem?_append_right (by omega),hl,Nat.add_sub_cancel_left];exact hu
  obtain ⟨g,rfl,hc⟩:=h _ u hu2;exact ⟨⟨g,k * K.n,n_⟩,by rw [J9,qZ],by rw [Hj]; exact hc⟩
 ·rw [List.drop_eq_nil_of_le (by omega)] at hu
  cases hu
theorem nV {w:w_} {base size n c:Nat} {e:T_} {a:Option d_} {xs:List v_} (h:w.ownsRow base e size (s_ a n c) n xs):n≤c:=by
 obtain ⟨-,⟨e1,e2⟩ | ⟨g,c',cur,e1,-,-,h5,-⟩⟩:=h
 ·cases e1; exact Ki _
 ·cases e1; exact h5
theorem jO {w:w_} {g:Nat} {cs:Array v_} {t:T_} {aaO:Nat × Nat} (h:w.heap[g]? =o_ (c_ cs t aaO)):ld w (o_ ⟨g,0,n_⟩) cs.toList:=fun j u hu=>⟨_,rfl,by rw [qZ]; simp only [World.cell?,h]; simpa using hu⟩
theorem ja {w:w_} {o i:Nat} {v:v_} :(w.setCell ⟨o,i,n_⟩ v).heap.size=w.heap.size:=fH [v]
theorem qK {α:Type} {K:Kind α} {w:w_} {a:Option d_} {l:List α} {k c:Nat} (hk:l.length≤c) (h:Row w a (K.flat l)):ld w (if c=k then a else Option.map (fun x=>x.add (k * K.n)) a) (K.flat (l.drop k)):=by
 split
 ·rw [List.drop_eq_nil_of_le (by omega)]
  exact ld.nil
 ·exact FH k h
end
section
open Go.RowKit
theorem vE {p:aE} {x:ci} (h:aQ p):bK ({ p with ae:=bY (·.id) x p.ae } :aE)=(jn (·.id) ct x p.ae && decide (p.ae.length < 5)):=by
 rw [Lx,ch,J7,decide_eq_true_eq,← mw h.ae];constructor
 ·intro h2
  have h3:(bY (·.id) x p.ae).length≤5:=h2.cb;rw [er] at h3;exact ⟨h2.ae,by omega⟩
 ·intro h2
  have h3:=h2.2;refine ⟨h.id,h.next,h.dl,h.fx,h.cD,h.cC,(by show (bY (·.id) x p.ae).length≤5; rw [er]; omega),h.dH,jE h.L8 ?_,h.aj,h.L9,h.ag,h2.1,h.ai,h.apart⟩;exact fun y _ hy=>by
    simp only [J7] at hy ⊢;exact ⟨hy.1,pq (p:=p) (fun _ hz=>hz) (fun _ hz=>hz) (fun _ hz=>hz) (qU fun _=>fq) hy.2⟩
theorem Ed {p:aE} {x:bD} (h:aQ p):bK ({ p with aj:=cA (·.id) x p.aj } :aE)=(jn (·.id) gw x p.aj && decide (p.aj.length < 5)):=by
 rw [Lx,ch,J7,decide_eq_true_eq,← pZ h.aj];constructor
 ·intro h2
  have h3:(cA (·.id) x p.aj).length≤5:=h2.fx;rw [eJ] at h3;exact ⟨h2.aj,by omega⟩
 ·intro h2
  have h3:=h2.2;refine ⟨h.id,h.next,h.dl,(by show (cA (·.id) x p.aj).length≤5; rw [eJ]; omega),h.cD,h.cC,h.cb,h.dH,jE h.L8 ?_,h2.1,h.L9,h.ag,h.ae,h.ai,h.apart⟩;exact fun y _ hy=>by
    simp only [J7] at hy ⊢;exact ⟨hy.1,pq (p:=p) (qU fun _=>js) (fun _ hz=>hz) (fun _ hz=>hz) (fun _ hz=>hz) hy.2⟩



end
section
variable {p:aE} {x:aD}
theorem iF (h:cH x=true):jY x=true:=by rw [fG,J7] at h; exact h.1
theorem vm {code:Int} (h:cH x=true) (h0: ¬ x.Md=0) (hc:cv code 0 3=true):cH (jT code x)=true:=by
 obtain ⟨h1,h2⟩:=iT h h0;unfold jT
 split
 ·refine vQ ?_
  have h3:=iF h;unfold jY at h3 ⊢;simp only [J7] at h3 ⊢;exact ⟨⟨⟨h3.1.1.1,jX⟩,h3.1.2⟩,hc⟩
 ·have:=vF (s:=x.RU) (iF h) hc h1 (by omega)
  exact this
theorem AR {code nx:Int} (h:cH x=true) (h0: ¬ x.Md=0) (hc:cv code 0 3=true):cH (iY nx code x)=true:=by
 obtain ⟨h1,h2⟩:=iT h h0;unfold iY
 split
 ·have:=vm (code:=code) h h0 hc
  unfold jT at this;rw [if_pos ‹_›] at this;exact this
 ·exact vF (iF h) hc h1 (by omega)
theorem zF {code id:Int} (h:aQ p) (h0: ∀ x∈p.L8,x.id=id→ ¬ x.Md=0) (hc:cv code 0 3=true):aQ (bu code id p):=by
 have hn:=bz.1 h.next;refine h.ju (nx:=p.next) (f:=jT code) (fun x=>by unfold jT; split <;> rfl) ⟨LJ _,hn.2⟩ fun x hx hi=> ?_
 obtain ⟨-,k1,k2,-⟩:=h.proc hx;have k0:=h0 x hx hi;refine ⟨vm k1 k0 hc,?_,?_,?_⟩
 ·unfold fF at k2 ⊢
  simp only [Kb,decide_eq_true_eq,k0,false_or] at k2 ⊢;unfold jT
  split
  ·exact .inl rfl
  ·exact .inr k2
 ·unfold dG
  rw [if_neg];unfold jT
  split <;> simp [j7,jM]
 ·unfold jT
  split
  ·exact .inr (.inl rfl)
  ·exact .inl rfl
theorem lO {code:Int} {f:aD→aD} (h:aQ p) (hx:x∈p.L8) (h0: ¬ x.Md=0) (hc:cv code 0 3=true) (hf: ∀ y,(f y).id=y.id∧(f y).pc=y.pc∧(f y).prog=y.prog∧(f y).Md=y.Md) (hr:cH (f x)=true) (hn:p.next+1≤1000000000):
  aQ { p with next:=gf p.next x,L8:=ce x.id (fun y=>iY p.next code (f y)) p.L8 } :=by
 have hnx:=bz.1 h.next;have hw:gf p.next x=if (f x).pc+1=(f x).prog.length then p.next else p.next+1:=by unfold gf; rw [(hf x).2.1,(hf x).2.2.1]
 refine h.ju (f:=fun y=>iY p.next code (f y)) (fun y=>by rw [(rD _ _ _).1,(hf y).1]) ?_ fun y hy hi=> ?_
 ·rw [hw]; split <;> omega
 ·have e:y=x:=by
   have h5:=h.kW;rw [List.pairwise_iff_getElem] at h5;obtain ⟨i,hi1,rfl⟩:=LK.1 hy;obtain ⟨j,DS,rfl⟩:=LK.1 hx;rcases Nat.lt_trichotomy i j with hlt | heq | hgt
   ·have:=h5 i j hi1 DS hlt; omega
   ·subst heq; rfl
   ·have:=h5 j i DS hi1 hgt; omega
  subst e;have hs: ¬ (f y).Md=0:=by rw [(hf y).2.2.2]; exact h0
  refine ⟨AR hr hs hc,?_,?_,?_⟩
  ·unfold fF
   rw [hw];simp only [Kb,decide_eq_true_eq];unfold iY
   split
   ·exact .inl rfl
   ·exact .inr (eB (by show 1≤p.next; omega) (by show p.next≤_; omega))
  ·unfold dG
   rw [if_neg];unfold iY
   split <;> simp [j7,jM]
  ·unfold iY
   split
   ·exact .inr (.inl rfl)
   ·exact .inr (.inr rfl)
theorem mU (nx:Int) (x:aD):nx≤gf nx x∧gf nx x≤nx+1:=by unfold gf; split <;> omega
theorem vd {now:Int} (h:aQ p) (hx:lZ now p.L8=o_ x) (hn:p.next+1≤1000000000):aQ (gu p x):=by
 obtain ⟨hm,hd⟩:=af9.mem hx;unfold og at hd;simp only [J7,decide_eq_true_eq] at hd;exact lO (f:=fun y=>y) h hm (by omega) (by unfold mL; split <;> rfl) (fun _=>⟨rfl,rfl,rfl,rfl⟩) (h.proc hm).2.1 hn
theorem qI {now:Int} : ∀ (n:Nat) (p:aE),aQ p→p.next+n≤1000000000→aQ (oO now n p)∧p.next≤(oO now n p).next∧(oO now n p).next≤p.next+n
 | 0,p,h,_=>⟨h,by simp [oO]⟩
 | n+1,p,h,hn=>by
  unfold oO
  split
  ·exact ⟨h,by omega,by omega⟩
  ·rename_i x hx
   have h1:=vd h hx (by omega);have h2:(gu p x).next=gf p.next x:=rfl;have h3:=mU p.next x;obtain ⟨h4,h5,h6⟩:=qI n (gu p x) h1 (by omega);exact ⟨h4,by omega,by omega⟩
theorem ru {now:Int} (h:aQ p) (hn:p.next≤999999990):aQ (gj now p)∧p.next≤(gj now p).next∧(gj now p).next≤p.next+6:=by
 have h1:(lF now p.L8).length≤p.L8.length:=Qq _ _;have h2:=h.dl;obtain ⟨h3,h4,h5⟩:=qI (now:=now) (lF now p.L8).length p h (by omega);exact ⟨h3,h4,by unfold gj; omega⟩
theorem iQ {t:ByteArray} {id:Int} (h:aQ p) (ht:bw t=true):aQ (ez t id p):=by
 have hn:=bz.1 h.next;refine h.ju (nx:=p.next) (f:=lG t) (fun _=>rfl) ⟨LJ _,hn.2⟩ fun x hx _=> ?_
 obtain ⟨-,k1,k2,k3⟩:=h.proc hx;refine ⟨?_,k2,k3,.inl rfl⟩;exact Zbb
theorem i9 {f:aD→aD} (h:aQ p) (hx:x∈p.L8) (h0: ¬ x.Md=0) (hf:f=(fun y=>y)∨ ∃ t,bw t=true∧f=lG t) (hn:p.next+1≤1000000000):aQ (gF f p x):=by
 rcases hf with rfl | ⟨t,ht,rfl⟩
 ·exact lO h hx h0 rfl (fun _=>⟨rfl,rfl,rfl,rfl⟩) (h.proc hx).2.1 hn
 ·refine lO (f:=lG t) h hx h0 rfl (fun _=>⟨rfl,rfl,rfl,rfl⟩) ?_ hn
  have k1:=(h.proc hx).2.1;exact Zbb
theorem oU {f:aD→aD} {st on:Int} (hst: ¬ st=0) (hf:f=(fun y=>y)∨ ∃ t,bw t=true∧f=lG t): ∀ (n:Nat) (p:aE),aQ p→p.next+n≤1000000000→aQ (gW f st on n p)∧p.next≤(gW f st on n p).next∧(gW f st on n p).next≤p.next+n
 | 0,p,h,_=>⟨h,by simp [gW]⟩
 | n+1,p,h,hn=>by
  unfold gW
  split
  ·exact ⟨h,by omega,by omega⟩
  ·rename_i x hx
   obtain ⟨m1,m2,-⟩:=ft hx;have h1:=i9 (f:=f) h m1 (by omega) hf (by omega);have h2:(gF f p x).next=gf p.next x:=rfl;have h3:=mU p.next x;obtain ⟨h4,h5,h6⟩:=oU hst hf n (gF f p x) h1 (by omega);exact ⟨h4,by omega,by omega⟩
theorem pP {f:aD→aD} {st on:Int} (hst: ¬ st=0) (hf:f=(fun y=>y)∨ ∃ t,bw t=true∧f=lG t) (h:aQ p) (hn:p.next≤999999990):aQ (ff f st on p)∧p.next≤(ff f st on p).next∧(ff f st on p).next≤p.next+6:=by
 have h1:(p.L8.filter (ie st on)).length≤p.L8.length:=Qq _ _;have h2:=h.dl;obtain ⟨h3,h4,h5⟩:=oU (on:=on) hst hf (p.L8.filter (ie st on)).length p h (by omega);exact ⟨h3,h4,by unfold ff; omega⟩
end
section
open Go.RowKit Go.Maps
theorem cJ.drew {w:w_} {base o:Nat} {S:aZ} (h:cJ w base o S):cJ w.drew base o S:=
 ⟨h.opn,h.L8.same fun _ _=>rfl,h.aj.same fun _ _=>rfl,h.L9.same fun _ _=>rfl,h.ag.same fun _ _=>rfl,h.ae.same fun _ _=>rfl,h.ai.same fun _ _=>rfl,fun p hp=>(h.eI p hp).same fun _ _=>rfl,fun p hp=>(h.eE p hp).same fun _ _=>rfl,fun p hp=>(h.eR p hp).same fun _ _=>rfl,h.nodup,h.low⟩
structure yr (w:w_) (base:Nat) (q q2:af) (W:w_):Prop where
 own:ap W base q2
 kept:aI w W q.Mc
 far: ∀ g∈q2.Mc,g∈q.Mc∨w.heap.size≤g
theorem rn {α:Type} {K:Kind α} {T:T_} {w:w_} {base cap n gs j:Nat} {a:Option d_} {l:List α} {x y:α} {v:v_} (h:w.ownsRow base T K.n (s_ a l.length cap) l.length (K.flat l)) (hx:l[n]? =o_ x) (ha:a=o_ ⟨gs,0,n_⟩) (hj:j < K.n) (hv:K.vals y=(K.vals x).set j v):
  (w.setCell ⟨gs,n * K.n+j,n_⟩ v).ownsRow base T K.n (s_ a l.length cap) l.length (K.flat (l.set n y))∧aI w (w.setCell ⟨gs,n * K.n+j,n_⟩ v) (blk a)∧(∃ u,w.cell? ⟨gs,n * K.n+j,n_⟩=o_ u)∧w.frozen? ⟨gs,n * K.n+j,n_⟩=false:=by
 have hn:n < l.length:=(Lj.1 hx).1;obtain ⟨g,hg,hrow⟩:=bl.fX (K:=K) h (by omega);rw [ha] at hg;cases hg;have h7:=hrow.cell hx (r:=j) hj;have hsp:=kL hx;have hset:l.set n y=l.take n ++ y :: l.drop (n+1):=by rw [RJ,if_pos hn]
 have hl:(l.take n).length=n:=by rw [Lk]; omega
 rw [hsp] at hrow;have h5:=bl.part (K:=K) (x:=x) (y:=y) (j:=j) (vs:= [v]) hrow ZcJ (fun r hr=>by simp at hr; subst hr; rw [Nat.add_zero,hv,List.getElem?_set_self (by rw [K.len]; exact hj)]; rfl) (fun r hr hn=>by rw [hv,List.getElem?_set_ne (by simp at hn; omega)]);rw [hl,← hset] at h5;have h6:=h5.owns;rw [LI] at h6;rw [ha];exact ⟨h6,aI.set (vs:= [v]) (by simp [blk]),⟨_,h7.1.trans (Kz (by rw [K.len]; exact hj))⟩,h7.2⟩
theorem uX {P1 P2:List Nat} {a b:Option Nat} (h:(P1 ++ (a.toList ++ P2)).Nodup) (hb: ∀ g,b=o_ g→g∉P1∧g∉P2):(P1 ++ (b.toList ++ P2)).Nodup:=by
 obtain ⟨h1,h2,h3⟩:=Kf.1 h;obtain ⟨-,h5,-⟩:=Kf.1 h2;refine Kf.2 ⟨h1,Kf.2 ⟨by cases b <;> simp,h5,fun x hx y hy e=> ?_⟩,fun x hx y hy e=> ?_⟩
 ·cases b with
  | none=>simp at hx
  | some g=>simp at hx; subst hx; exact (hb x rfl).2 (e ▸ hy)
 ·rcases Kg.1 hy with hy | hy
  ·cases b with
   | none=>simp at hy
   | some g=>simp at hy; subst hy; exact (hb y rfl).1 (e ▸ hx)
  ·exact h3 x hx y (Ly _ hy) e
theorem ou (w:w_) (base:Nat) (a0:Option d_) (c0:Nat) (l0:List ByteArray) (ho:w.ownsRow base 9 1 (s_ a0 l0.length c0) l0.length (bT.flat l0)) (a:Option d_) (l:List ByteArray) (cap:Nat) (h:ld w a (bT.flat l)) (hl:l0.length+l.length≤4000000) (lY:base≤w.heap.size):
  ∃ a' cap' w',(Builtin.append_ #[112,112] 112 #[s_ a0 l0.length c0,s_ a l.length cap]).run J3 w= .ok (s_ a' (l0.length+l.length) cap') w'∧w'.ownsRow base 9 1 (s_ a' (l0.length+l.length) cap') (l0.length+l.length) (bT.flat (l0 ++ l))∧w.grownBy w' (Value.slice a0 l0.length c0).ownBlock∧ ∀ g∈blk a',g∈blk a0∨g=w.heap.size:=by
 obtain ⟨i,hi,e⟩:=Kw.1 zD;simp only [Kx] at e;rw [bT.dc];exact jD w base _ _ 9 i _ 1 16 underlying112 hi e.1 e.2.1 e.2.2 rfl (by decide) a0 l0.length c0 _ ho a l.length cap _ h (bT.dM l) yK hl (by decide) lY
theorem IN (w:w_) (s:ByteArray):(w.alloc (c_ #[t_ s] 9)).ownsRow w.heap.size 9 1 (s_ (o_ ⟨w.heap.size,0,n_⟩) [s].length 1) [s].length (bT.flat [s]):=
 ⟨rfl,.inr ⟨w.heap.size,1,#[t_ s],rfl,Ki _,Kj _ _,Ki _,by decide,rfl,rfl⟩⟩
theorem vg {w:w_} {a:Option d_} {l:List ByteArray} {c:Nat} (hk:l.length≤c) (h:Row w a (bT.flat l)):ld w (if c=1 then a else Option.map (fun x:d_=>⟨x.block,x.off+1,n_⟩) a) (bT.flat (l.drop 1)):=by
 have h1:=qK (K:=bT) (k:=1) hk h;have e:(fun x:d_=>x.add (1 * bT.n))=(fun x:d_=>⟨x.block,x.off+1,n_⟩):=by funext x; rfl
 rw [e] at h1;exact h1
theorem aI.grown {w w5 w7:w_} {a:Option d_} {n c:Nat} (hb:B_ w.heap.size w w5) (hg:w5.grownBy w7 (Value.slice a n c).ownBlock):aI w w7 (blk a):=
 ⟨hg.os.trans hb.os,hg.tape.trans hb.tape,hg.output.trans hb.output,Nat.le_trans hb.size hg.size,fun g h1 h2=>(hg.block g (Nat.lt_of_lt_of_le h1 hb.size) fun e=>h2 (di e.symm)).trans (hb.block g h1)⟩
section
variable {w W:w_} {base n gs:Nat} {q:af}
theorem pg {x:aM} {l:List ByteArray} {a:Option d_} {c:Nat} (h:ap w base q) (hb:aI w W (blk x.ak)) (hx:q.ai[n]? =o_ x) (ha:q.aK=o_ ⟨gs,0,n_⟩) (ho:W.ownsRow base 9 1 (s_ a l.length c) l.length (bT.flat l)) (hf: ∀ g∈blk a,g∈blk x.ak∨w.heap.size≤g):
  yr w base q ({ q with ai:=q.ai.set n { x with Ma:=l,ak:=a,aq:=c } } :af) (W.setCell ⟨gs,n * 5+4,n_⟩ (s_ a l.length c))∧(∃ u,W.cell? ⟨gs,n * 5+4,n_⟩=o_ u)∧W.frozen? ⟨gs,n * 5+4,n_⟩=false:=by
 have hn:n < q.ai.length:=(Lj.1 hx).1;have hset:q.ai.set n { x with Ma:=l,ak:=a,aq:=c } =q.ai.take n ++ { x with Ma:=l,ak:=a,aq:=c } :: q.ai.drop (n+1):=by rw [RJ,if_pos hn]
 have hk: ∀ (z:aM) (A B:List aM),(A ++ z :: B).filterMap aU.bt=A.filterMap aU.bt ++ ((aU.bt z).toList ++ B.filterMap aU.bt):=fun z A B=>by
  rw [List.filterMap_append,List.filterMap_cons];cases aU.bt z <;> simp
 have h6:q.ai.filterMap aU.bt=(q.ai.take n).filterMap aU.bt ++ ((aU.bt x).toList ++ (q.ai.drop (n+1)).filterMap aU.bt):=(congrArg (List.filterMap aU.bt) (kL hx)).trans (hk _ _ _);obtain ⟨P1,uZ⟩: ∃ P1,P1=blk q.aN ++ (q.L8.filterMap aR.bt ++ (blk q.bc ++ (blk q.ay ++ (blk q.ax ++ (blk q.am ++ (q.ae.filterMap aC.bt ++ blk q.aK)))))) ++ (q.ai.take n).filterMap aU.bt:=⟨_,rfl⟩
 obtain ⟨P2,IQ⟩: ∃ P2,P2=(q.ai.drop (n+1)).filterMap aU.bt:=⟨_,rfl⟩
 have e1:q.Mc=P1 ++ ((aU.bt x).toList ++ P2):=by rw [uZ,IQ]; simp only [af.Mc,h6,Lm]
 have e2:({ q with ai:=q.ai.set n { x with Ma:=l,ak:=a,aq:=c } } :af).Mc=P1 ++ ((a.map (·.block)).toList ++ P2):=by
  rw [uZ,IQ];simp only [af.Mc,hset,hk,Lm];rfl
 have hkx: ∀ g,g∈blk x.ak↔g∈(aU.bt x).toList:=fun g=>Iff.rfl
 have Dl:=h.nodup;rw [e1] at Dl;have hP: ∀ g,g∈P1∨g∈P2→g∉blk x.ak:=fun g hg hm=>by
  exact ZaN
 have hin: ∀ g,g∈P1∨g∈P2→g∈q.Mc:=fun g hg=>by
  rw [e1];rcases hg with hg | hg
  ·exact Lz _ hg
  ·exact Ly _ (Ly _ hg)
 have hgl:gs∈blk q.aK:=by rw [ha]; simp [blk]
 have hgP:gs∈P1:=by rw [uZ]; simp [hgl]
 have hsW: ∀ g,g∈P1∨g∈P2→W.heap[g]? =w.heap[g]? :=fun g hg=>hb.same g (h.lt g (hin g hg)).2 (hP g hg)
 have hrow:=aL h.ai fun g hg=>hsW g (.inl ZcV)
 obtain ⟨h1,h2,h3⟩:=rn (K:=bX) (y:= { x with Ma:=l,ak:=a,aq:=c }) (v:=s_ a l.length c) hrow hx ha (show 4 < 5 by decide) rfl;refine ⟨?_,h3⟩;have hnd:({ q with ai:=q.ai.set n { x with Ma:=l,ak:=a,aq:=c } } :af).Mc.Nodup:=by
  exact Zad
 have hs: ∀ g,g≠gs→(W.setCell ⟨gs,n * 5+4,n_⟩ (s_ a l.length c)).heap[g]? =W.heap[g]? :=fun g hg=>aH hg
 have hsp:q.Mc=(blk q.aN ++ (q.L8.filterMap aR.bt ++ (blk q.bc ++ (blk q.ay ++ (blk q.ax ++ (blk q.am ++ q.ae.filterMap aC.bt)))))) ++ (blk q.aK ++ (q.ai.filterMap aU.bt)):=by simp [af.Mc,Lm]
 have nw: ∀ g,(g∈(blk q.aN ++ (q.L8.filterMap aR.bt ++ (blk q.bc ++ (blk q.ay ++ (blk q.ax ++ (blk q.am ++ q.ae.filterMap aC.bt))))))∨g∈(q.ai.filterMap aU.bt))→g≠gs:=fun g hg he=>by
  exact ZaD
 have hall: ∀ g,g∈P1∨g∈P2→g≠gs→(W.setCell ⟨gs,n * 5+4,n_⟩ (s_ a l.length c)).heap[g]? =w.heap[g]? :=fun g hg hne=>(hs g hne).trans (hsW g hg)
 refine ⟨⟨aL h.L8 fun g hg=>hall g (.inl ZcV) (nw g (.inl Zdd)),aL h.aj fun g hg=>hall g (.inl ZcV) (nw g (.inl Zdd)),aL h.L9 fun g hg=>hall g (.inl ZcV) (nw g (.inl Zdd)),aL h.ag fun g hg=>hall g (.inl ZcV) (nw g (.inl Zdd)),aL h.ae fun g hg=>hall g (.inl ZcV) (nw g (.inl Zdd)),(by show (W.setCell _ _).ownsRow _ _ _ (s_ _ (List.set _ _ _).length _) (List.set _ _ _).length _; rw [LI]; exact h1),fun z hz=>(h.eI z hz).same fun g hg=>hall g (.inl Zdw) (nw g (.inl ZdG)),?_,?_,hnd⟩,⟨hb.os,hb.tape,hb.output,by rw [ja]; exact hb.size,fun g hg hm=>(hs g fun e=>hm (e ▸ hin gs (.inl hgP))).trans (hb.same g hg fun hx=>hm ZdC)⟩,fun g hg=> ?_⟩
 ·intro z hz
  exact (h.eE z hz).same fun g hg=>hall g (.inl (by rw [uZ]; simp only [Kg]; exact .inl (.inr (.inr (.inr (.inr (.inr (.inr (.inl (dP.2 ⟨z,hz,hg⟩)))))))))) (nw g (.inl (by simp only [Kg]; exact .inr (.inr (.inr (.inr (.inr (.inr (dP.2 ⟨z,hz,hg⟩)))))))))
 ·intro z hz
  rw [hset] at hz;rcases Kg.1 hz with hz | hz
  ·exact (h.eR z (RK hz)).same fun g hg=>hall g (.inl (by rw [uZ]; exact Ly _ (dP.2 ⟨z,hz,hg⟩))) (nw g (.inr (by exact dP.2 ⟨z,RK hz,hg⟩)))
  ·rcases Kt.1 hz with rfl | hz
   ·exact Zak
   ·exact (h.eR z (RL hz)).same fun g hg=>hall g (.inr (by rw [IQ]; exact dP.2 ⟨z,hz,hg⟩)) (nw g (.inr (by exact dP.2 ⟨z,RL hz,hg⟩)))
 ·exact Zaj
end
end
section
open Go.RowKit Go.Maps
attribute [local go_sem ↓] Kc Kd

end
section
open Go.RowKit Go.Maps



theorem cJ.S9 {w w':w_} {base o:Nat} {S:aZ} {x:ao} {e:Ending} (h:cJ w base o S) (hb:base≤w.heap.size) (hm:aR.cO w base x) (hk: ∀ c,aR.bt x=o_ c→c∉o :: (S.boxes ++ S.kids)) (hl:dD w S.q.bp (RW (fun x:ao=>x.id) S.lp) true x.id (aX x) 44 e w'):
  ∃ g,cJ w' base o { S with lp:=fc (fun x:ao=>x.id) (x,g) S.lp } ∧B_ base w w':=by
 obtain ⟨g,hg,hsh,hgr⟩:=h.L8.lay hb hl;have hn:=h.nodup;obtain ⟨hno,hn2⟩:=Lp.1 hn;obtain ⟨hnb,hnk,yD⟩:=Kf.1 hn2;have I3:=hnb;unfold aZ.boxes at hnb;obtain ⟨-,r0,d0⟩:=Kf.1 hnb;clear r0;have hs: ∀ c∈o :: (S.boxes ++ S.kids),c≠S.q.bp→w'.heap[c]? =w.heap[c]? :=fun c hc hne=>hgr.block c (h.lt c hc) (fun e=>hne (KC e))
 have wU:S.q.bp∈S.boxes:=by unfold aZ.boxes; exact (Lz _ (LA ..))
 have iH: ∀ c∈S.kids,w'.heap[c]? =w.heap[c]? :=fun c hc=>hs c (LB _ (Ly _ hc)) (fun e=>yD _ wU c hc e.symm)
 refine ⟨g,⟨(hs o (LA ..) (fun e=>hno (e ▸ Lz _ wU))).trans h.opn,hsh,h.aj.same (fun c hc=>hs c (LB _ (Lz _ (by unfold aZ.boxes; exact (Ly _ (Lz _ hc))))) (fun e=>d0 _ (LA ..) c (Lz _ hc) e.symm)),h.L9.same (fun c hc=>hs c (LB _ (Lz _ Zde)) (fun e=>d0 _ (LA ..) c (Ly _ (Lz _ hc)) e.symm)),h.ag.same (fun c hc=>hs c (LB _ (Lz _ Zda)) (fun e=>d0 _ (LA ..) c (Ly _ (Ly _ (Lz _ hc))) e.symm)),h.ae.same (fun c hc=>hs c (LB _ (Lz _ ZdB)) (fun e=>d0 _ (LA ..) c (Ly _ (Ly _ (Ly _ (Lz _ hc)))) e.symm)),h.ai.same (fun c hc=>hs c (LB _ (Lz _ Zc6)) (fun e=>d0 _ (LA ..) c (Ly _ (Ly _ (Ly _ (Ly _ hc)))) e.symm)),fun r hr=>(Kt.1 ((lC (num:=(fun x:ao=>x.id)) (x,g) S.lp).mem_iff.1 hr)).elim (fun e=>e ▸ hm.same fun c hc=>hgr.block c (hm.lt hc).2 (fun e2=>hk c hc (KC e2 ▸ LB _ (Lz _ wU)))) (fun hr=>(h.eI r hr).same fun c hc=>iH c Zdc),fun r hr=>(h.eE r hr).same fun c hc=>iH c Zc8,fun r hr=>(h.eR r hr).same fun c hc=>iH c Zc9,?_,h.low⟩,(Kp _ _).grown hgr hb fun c e=>(KC e) ▸ h.L8.low _ (LA ..)⟩;have hp1:({ S with lp:=fc (fun x:ao=>x.id) (x,g) S.lp } :aZ).boxes.Perm (g :: S.boxes):=by unfold aZ.boxes; exact ((lM (num:=(fun x:ao=>x.id)) x S.q.bp g S.lp).append_right _)
 have hlt:=h.lt;have hp2:(o :: (({ S with lp:=fc (fun x:ao=>x.id) (x,g) S.lp } :aZ).boxes ++ ({ S with lp:=fc (fun x:ao=>x.id) (x,g) S.lp } :aZ).kids)).Perm (g :: (o :: (S.boxes ++ ({ S with lp:=(x,g) :: S.lp } :aZ).kids))):=(List.Perm.cons o (hp1.append (by unfold aZ.kids; exact ((AG (N:=aR) (num:=(fun x:ao=>x.id)) x g S.lp).append_right _)))).trans (List.Perm.swap g o _);refine hp2.nodup_iff.2 ?_;cases hkx:aR.bt x with
 | none=>
  have e1:({ S with lp:=(x,g) :: S.lp } :aZ).kids=S.kids:=by simp [aZ.kids,kids,hkx]
  rw [e1];exact Lp.2 ⟨fun hm=>by have:=hlt g hm; omega,hn⟩
 | some c=>
  have wu:(({ S with lp:=(x,g) :: S.lp } :aZ).kids).Perm (c :: S.kids):=by
   have e1:kids aR ((x,g) :: S.lp)=c :: kids aR S.lp:=by simp [kids,hkx]
   unfold aZ.kids
   show (kids aR ((x,g) :: S.lp) ++ (kids aC S.lf ++ kids aU S.lq)).Perm _
   rw [e1];exact RA _
  have hp4:(o :: (S.boxes ++ ({ S with lp:=(x,g) :: S.lp } :aZ).kids)).Perm (c :: (o :: (S.boxes ++ S.kids))):=(List.Perm.cons o (dY wu)).trans (List.Perm.swap c o _);exact Zax
theorem cJ.laySem {w w':w_} {base o:Nat} {S:aZ} {x:bD} {e:Ending} (h:cJ w base o S) (hb:base≤w.heap.size) (hl:dD w S.q.bs (RW (fun x:bD=>x.id) S.ls) true x.id (eH x) 59 e w'):
  ∃ g,cJ w' base o { S with ls:=fc (fun x:bD=>x.id) (x,g) S.ls } ∧B_ base w w':=by
 obtain ⟨g,hg,hsh,hgr⟩:=h.aj.lay hb hl;have hn:=h.nodup;obtain ⟨hno,hn2⟩:=Lp.1 hn;obtain ⟨hnb,hnk,yD⟩:=Kf.1 hn2;have I3:=hnb;unfold aZ.boxes at hnb;obtain ⟨-,r0,d0⟩:=Kf.1 hnb;obtain ⟨-,r1,d1⟩:=Kf.1 r0;clear r1;have hs: ∀ c∈o :: (S.boxes ++ S.kids),c≠S.q.bs→w'.heap[c]? =w.heap[c]? :=fun c hc hne=>hgr.block c (h.lt c hc) (fun e=>hne (KC e))
 have wU:S.q.bs∈S.boxes:=by unfold aZ.boxes; exact (Ly _ (Lz _ (LA ..)))
 have iH: ∀ c∈S.kids,w'.heap[c]? =w.heap[c]? :=fun c hc=>hs c (LB _ (Ly _ hc)) (fun e=>yD _ wU c hc e.symm)
 refine ⟨g,⟨(hs o (LA ..) (fun e=>hno (e ▸ Lz _ wU))).trans h.opn,h.L8.same (fun c hc=>hs c (LB _ (Lz _ (by unfold aZ.boxes; exact (Lz _ hc)))) (d0 c hc _ (Lz _ (LA ..)))),hsh,h.L9.same (fun c hc=>hs c (LB _ (Lz _ Zde)) (fun e=>d1 _ (LA ..) c (Lz _ hc) e.symm)),h.ag.same (fun c hc=>hs c (LB _ (Lz _ Zda)) (fun e=>d1 _ (LA ..) c (Ly _ (Lz _ hc)) e.symm)),h.ae.same (fun c hc=>hs c (LB _ (Lz _ ZdB)) (fun e=>d1 _ (LA ..) c (Ly _ (Ly _ (Lz _ hc))) e.symm)),h.ai.same (fun c hc=>hs c (LB _ (Lz _ Zc6)) (fun e=>d1 _ (LA ..) c (Ly _ (Ly _ (Ly _ hc))) e.symm)),fun r hr=>(h.eI r hr).same fun c hc=>iH c Zdc,fun r hr=>(h.eE r hr).same fun c hc=>iH c Zc8,fun r hr=>(h.eR r hr).same fun c hc=>iH c Zc9,?_,h.low⟩,(Kp _ _).grown hgr hb fun c e=>(KC e) ▸ h.aj.low _ (LA ..)⟩;have hp1:({ S with ls:=fc (fun x:bD=>x.id) (x,g) S.ls } :aZ).boxes.Perm (g :: S.boxes):=by unfold aZ.boxes; exact (dY ((lM (num:=(fun x:bD=>x.id)) x S.q.bs g S.ls).append_right _))
 have hlt:=h.lt;have hp2:(o :: (({ S with ls:=fc (fun x:bD=>x.id) (x,g) S.ls } :aZ).boxes ++ S.kids)).Perm (g :: (o :: (S.boxes ++ S.kids))):=(List.Perm.cons o (hp1.append_right _)).trans (List.Perm.swap g o _);exact hp2.nodup_iff.2 (Lp.2 ⟨fun hm=>by have:=hlt g hm; omega,hn⟩)
theorem cJ.EZ {w w':w_} {base o:Nat} {S:aZ} {x:au} {e:Ending} (h:cJ w base o S) (hb:base≤w.heap.size) (hm:aC.cO w base x) (hk: ∀ c,aC.bt x=o_ c→c∉o :: (S.boxes ++ S.kids)) (hl:dD w S.q.bf (RW (fun x:au=>x.id) S.lf) true x.id (bQ x) 114 e w'):
  ∃ g,cJ w' base o { S with lf:=fc (fun x:au=>x.id) (x,g) S.lf } ∧B_ base w w':=by
 obtain ⟨g,hg,hsh,hgr⟩:=h.ae.lay hb hl;have hn:=h.nodup;obtain ⟨hno,hn2⟩:=Lp.1 hn;obtain ⟨hnb,hnk,yD⟩:=Kf.1 hn2;have I3:=hnb;unfold aZ.boxes at hnb;obtain ⟨-,r0,d0⟩:=Kf.1 hnb;obtain ⟨-,r1,d1⟩:=Kf.1 r0;obtain ⟨-,r2,d2⟩:=Kf.1 r1;obtain ⟨-,r3,d3⟩:=Kf.1 r2;obtain ⟨-,r4,d4⟩:=Kf.1 r3;clear r4;have hs: ∀ c∈o :: (S.boxes ++ S.kids),c≠S.q.bf→w'.heap[c]? =w.heap[c]? :=fun c hc hne=>hgr.block c (h.lt c hc) (fun e=>hne (KC e))
 have wU:S.q.bf∈S.boxes:=by unfold aZ.boxes; exact (Ly _ (Ly _ (Ly _ (Ly _ (Lz _ (LA ..))))))
 have iH: ∀ c∈S.kids,w'.heap[c]? =w.heap[c]? :=fun c hc=>hs c (LB _ (Ly _ hc)) (fun e=>yD _ wU c hc e.symm)
 refine ⟨g,⟨(hs o (LA ..) (fun e=>hno (e ▸ Lz _ wU))).trans h.opn,h.L8.same (fun c hc=>hs c (LB _ (Lz _ (by unfold aZ.boxes; exact (Lz _ hc)))) (d0 c hc _ (Ly _ (Ly _ (Ly _ (Lz _ (LA ..))))))),h.aj.same (fun c hc=>hs c (LB _ (Lz _ (by unfold aZ.boxes; exact (Ly _ (Lz _ hc))))) (d1 c hc _ (Ly _ (Ly _ (Lz _ (LA ..)))))),h.L9.same (fun c hc=>hs c (LB _ (Lz _ Zde)) (d2 c hc _ (Ly _ (Lz _ (LA ..))))),h.ag.same (fun c hc=>hs c (LB _ (Lz _ Zda)) (d3 c hc _ (Lz _ (LA ..)))),hsh,h.ai.same (fun c hc=>hs c (LB _ (Lz _ Zc6)) (fun e=>d4 _ (LA ..) c hc e.symm)),fun r hr=>(h.eI r hr).same fun c hc=>iH c Zdc,fun r hr=>(Kt.1 ((lC (num:=(fun x:au=>x.id)) (x,g) S.lf).mem_iff.1 hr)).elim (fun e=>e ▸ hm.same fun c hc=>hgr.block c (hm.lt hc).2 (fun e2=>hk c hc (KC e2 ▸ LB _ (Lz _ wU)))) (fun hr=>(h.eE r hr).same fun c hc=>iH c Zc8),fun r hr=>(h.eR r hr).same fun c hc=>iH c Zc9,?_,h.low⟩,(Kp _ _).grown hgr hb fun c e=>(KC e) ▸ h.ae.low _ (LA ..)⟩;have hp1:({ S with lf:=fc (fun x:au=>x.id) (x,g) S.lf } :aZ).boxes.Perm (g :: S.boxes):=by unfold aZ.boxes; exact (dY (dY (dY (dY ((lM (num:=(fun x:au=>x.id)) x S.q.bf g S.lf).append_right _)))))
 have hlt:=h.lt;have hp2:(o :: (({ S with lf:=fc (fun x:au=>x.id) (x,g) S.lf } :aZ).boxes ++ ({ S with lf:=fc (fun x:au=>x.id) (x,g) S.lf } :aZ).kids)).Perm (g :: (o :: (S.boxes ++ ({ S with lf:=(x,g) :: S.lf } :aZ).kids))):=(List.Perm.cons o (hp1.append (by unfold aZ.kids; exact (List.Perm.append_left _ ((AG (N:=aC) (num:=(fun x:au=>x.id)) x g S.lf).append_right _))))).trans (List.Perm.swap g o _);refine hp2.nodup_iff.2 ?_;cases hkx:aC.bt x with
 | none=>
  have e1:({ S with lf:=(x,g) :: S.lf } :aZ).kids=S.kids:=by simp [aZ.kids,kids,hkx]
  rw [e1];exact Lp.2 ⟨fun hm=>by have:=hlt g hm; omega,hn⟩
 | some c=>
  have wu:(({ S with lf:=(x,g) :: S.lf } :aZ).kids).Perm (c :: S.kids):=by
   have e1:kids aC ((x,g) :: S.lf)=c :: kids aC S.lf:=by simp [kids,hkx]
   unfold aZ.kids
   show (kids aR S.lp ++ (kids aC ((x,g) :: S.lf) ++ kids aU S.lq)).Perm _
   rw [e1];exact dY (RA _)
  have hp4:(o :: (S.boxes ++ ({ S with lf:=(x,g) :: S.lf } :aZ).kids)).Perm (c :: (o :: (S.boxes ++ S.kids))):=(List.Perm.cons o (dY wu)).trans (List.Perm.swap c o _);exact Zax
end
end Go.Proofs.YtgdmbemagdbmaaaGreatDoor
