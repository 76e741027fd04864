/- What the proof leans on, part 10. -/
import Derived.Test.YtnlbiglljiopmaaGreatDoorOwnT9
set_option linter.unusedVariables false
set_option maxRecDepth 100000
set_option maxHeartbeats 8000000
open Go.Proofs.Tryz
open Go renaming World->w_,Value->v_,Calls->k_,Addr->d_,below_setRow->q_
open Go.Ending renaming returned->r_
open Go.IntKind renaming i64->j_
open Go.Obj renaming cells->c_
open Go.RowKit renaming Below->B_
open Go.Value renaming int->i_,slice->s_,bool->b_,string->t_,agg->a_,pointer->p_,tuple->u_
open Option renaming some->o_,none->n_
open Array renaming getElem?_eq_some_iff->J2
open Bool renaming and_eq_true->J7,and_false->PP
open Function renaming comp_def->Ls
open Go renaming frozen_of_row->Ko,heap_alloc_new->Kj,setRow_heap->KU,setRow_other->KH,wp_at_succ->Kd,wp_at_zero->Kc
open Go.IntKind renaming wrap_i64->K8
open Go.Proofs.Tryz renaming prog->J3
open Go.RowKit.Below renaming refl->Kp
open List renaming append_assoc->Lm,filter_cons->LN,getElem?_eq_getElem->Kz,getElem?_eq_some_iff->Lj,getElem?_map->Kk,getElem?_set_self->LU,length_cons->Lg,map_congr_left->Lw,map_cons->Lt,map_map->Lv,map_set->PN,mem_append->Kg,mem_append_left->Lz,mem_append_right->Ly,mem_cons->Kt,mem_cons_of_mem->LB,mem_filterMap->Lq,mem_iff_getElem->LK,mem_map->Lr,mem_of_getElem?->KA,mem_of_mem_drop->RL,mem_of_mem_take->RK,nodup_append->Kf,nodup_cons->Lp,not_mem_nil->Ku,pairwise_iff_getElem->P8,take_length->LQ
open Nat renaming add_zero->PT,le_refl->Ki,le_trans->LG,lt_trichotomy->P9,zero_add->Li,zero_le->Ky
open Option renaming map_eq_some_iff->Kw
open Option.some renaming inj->KC

namespace Go.Proofs.YtnlbiglljiopmaaGreatDoor
section
open Go.RowKit Go.Maps
attribute [local go_sem ↓] Kc Kd
theorem cJ.SA {w w':w_} {base o g:Nat} {S:aZ} {f:ao→ao} {nx:Int} (h:cJ w base o S) (hf: ∀ x,(f x).id=x.id∧(f x).prog=x.prog∧(f x).aY=x.aY∧(f x).bH=x.bH)
  (hc: ∀ p∈S.lp,p.2=g→w'.heap[g]? =o_ (c_ (aX (f p.1)) 100)) (hg:g∈S.lp.map (·.2)) (ho:fa w' o { S.q with next:=nx }) (hs: ∀ b∈S.boxes ++ S.kids,b≠g→b≠o→w'.heap[b]? =w.heap[b]?):cJ w' base o (S.ju g f nx):=by
 have iH: ∀ x,aR.bt (f x)=aR.bt x:=fun x=>by show (f x).aY.map (·.block)=x.aY.map (·.block); rw [(hf x).2.2.1]
 have hn:=h.nodup;have hno:=(Lp.1 hn).1;have yD:=(Kf.1 (Lp.1 hn).2)
 have jQ:=yD.1;unfold aZ.boxes at jQ;have hin: ∀ b,b∈S.boxes∨b∈S.kids→b≠o:=fun b hb e=>hno (by rw [← e]; exact Kg.2 hb)
 have hp:=Kf.1 jQ;have l9:g∈S.q.bp :: S.lp.map (·.2):=LB _ hg;have hgr: ∀ b,b∈((S.q.bs :: S.ls.map (·.2)) ++ ((S.q.be :: S.le.map (·.2)) ++ ((S.q.bb :: S.lb.map (·.2)) ++ ((S.q.bf :: S.lf.map (·.2)) ++ (S.q.bq :: S.lq.map (·.2))))))→b≠g:=fun b hb e=>hp.2.2 g l9 b hb e.symm
 have EI: ∀ b∈S.kids,b≠g:=fun b hb e=>yD.2.2 g (by unfold aZ.boxes; exact Lz _ l9) b hb e.symm
 have hbp:S.q.bp≠g:=fun e=>by
  have:=(Lp.1 hp.1).1
  rw [e] at this;exact this hg
 have lW: ∀ b,b∈(S.q.bp :: S.lp.map (·.2))→b≠o:=fun b hb=>hin b (.inl (by unfold aZ.boxes; exact Lz _ hb))
 have hbr: ∀ b,b∈((S.q.bs :: S.ls.map (·.2)) ++ ((S.q.be :: S.le.map (·.2)) ++ ((S.q.bb :: S.lb.map (·.2)) ++ ((S.q.bf :: S.lf.map (·.2)) ++ (S.q.bq :: S.lq.map (·.2))))))→w'.heap[b]? =w.heap[b]? :=fun b hb=>hs b (Lz _ ZdG) (hgr b hb) (hin b (.inl ZdG))
 have hkk: ∀ b∈S.kids,w'.heap[b]? =w.heap[b]? :=fun b hb=>hs b (Ly _ hb) (EI b hb) (hin b (.inr hb))
 have hmem: ∀ (b:Nat),(b∈kids aR S.lp∨b∈kids aC S.lf∨b∈kids aU S.lq)→b∈S.kids:=fun b hb=>by simp only [aZ.kids,Kg]; exact hb
 refine ⟨ho,h.L8.sU (fun p _ _=>(hf p.1).1) hc (hs _ (Lz _ (by unfold aZ.boxes; exact Lz _ (by simp))) hbp (lW _ (by simp))) (fun b hb hne=>hs b (Lz _ (by unfold aZ.boxes; exact Lz _ (LB _ hb))) hne (lW b (LB _ hb))),h.aj.same fun b hb=>hbr b (Lz _ hb),h.L9.same fun b hb=>hbr b (Ly _ (Lz _ hb)),h.ag.same fun b hb=>hbr b (Ly _ (Ly _ (Lz _ hb))),h.ae.same fun b hb=>hbr b (Ly _ (Ly _ (Ly _ (Lz _ hb)))),h.ai.same fun b hb=>hbr b (Ly _ (Ly _ (Ly _ (Ly _ hb)))),fun p hp'=> ?_,fun p hp'=>(h.eE p hp').same fun b hb=>hkk b (hmem b (.inr (.inl (Lq.2 ⟨p,hp',hb⟩)))),fun p hp'=>(h.eR p hp').same fun b hb=>hkk b (hmem b (.inr (.inr (Lq.2 ⟨p,hp',hb⟩)))),?_,h.low⟩
 ·exact Tu
 ·exact Za2
theorem aZ.Sb {S:aZ} {g:Nat} {x:ao} {f:ao→ao} {f':aD→aD} {nx:Int} (Sw:S.pure.L8.Pairwise (fun x y=>x.id < y.id)) (hn: ∀ p∈S.lp,p.2=g→p=(x,g)) (hx:(x,g)∈S.lp) (hf: ∀ y,(f y).toaD=f' y.toaD):
  (S.ju g f nx).pure= { S.pure with next:=nx,L8:=ce x.id f' S.pure.L8 } :=by
 have key:(sU g f S.lp).map (·.1.toaD)=ce x.id f' (S.lp.map (·.1.toaD)):=by
  unfold sU ce;rw [Lv,Lv];refine Lw fun p hp=> ?_
  simp only [Ls];by_cases hg:p.2=g
  ·have hpx:=hn p hp hg
   subst hpx;rw [if_pos rfl,if_pos rfl];exact hf x
  ·rw [if_neg hg]
   have hne: ¬ p.1.toaD.id=x.id:=fun e=>by
    have h5:S.pure.L8.Pairwise (fun a b=>a.id < b.id):=Sw;have h6:(S.lp.map (·.1.toaD)).Pairwise (fun a b=>a.id < b.id):=h5;rw [List.pairwise_map] at h6;obtain ⟨i,hi⟩:=List.mem_iff_getElem?.1 hp;obtain ⟨j,hj⟩:=List.mem_iff_getElem?.1 hx;obtain ⟨hi1,rfl⟩:=Lj.1 hi;obtain ⟨DS,hj2⟩:=Lj.1 hj;rw [P8] at h6;have OG:(S.lp[j]).1.id=x.id:=by rw [hj2]
    rcases P9 i j with hlt | heq | hgt
    ·have h7:(S.lp[i]).1.id < (S.lp[j]).1.id:=h6 i j hi1 DS hlt
     have h8:(S.lp[i]).1.id=x.id:=e;omega
    ·subst heq; exact hg (by rw [hj2])
    ·have h7:(S.lp[j]).1.id < (S.lp[i]).1.id:=h6 j i DS hi1 hgt
     have h8:(S.lp[i]).1.id=x.id:=e;omega
   rw [if_neg hne]
 show ({ S.pure with next:=nx,L8:=(sU g f S.lp).map (·.1.toaD) } :aE)=_
 rw [key];rfl
theorem aI.row {w:w_} {g:Nat} {cs:Array v_} :aI w (w.drew.setRow g cs) [g] :=by
 have h:=q_ (g:=g) (Kp 0 w).drew (Ky _) cs;exact ⟨h.os,h.tape,h.output,h.size,fun b _ hn=>KH _ _ _ _ (by simpa using hn)⟩
theorem Sj (g:Nat) (x:ao) (code:Int) (w:w_) (h:w.heap[g]? =o_ (c_ (aX x) 100)) (hpc:0≤x.pc∧x.pc < x.prog.length) (hl:x.prog.length≤1048576):
  k_ J3 132 #[p_ (o_ ⟨g,0,n_⟩),i_ j_ code] w fun e w'=>e=r_ (u_ #[])∧w'.heap[g]? =o_ (c_ (aX (fE code x)) 100)∧aI w w' [g] :=by
 have h1:(w.setCell ⟨g,10,n_⟩ (i_ j_ code)).heap[g]? =o_ (c_ (aX ({ x with code:=code } :ao)) 100):=cx (i:=10) (v:=i_ j_ code) h;have h2:((w.setCell ⟨g,10,n_⟩ (i_ j_ code)).setCell ⟨g,4,n_⟩ (i_ j_ (x.pc+1))).heap[g]? =o_ (c_ (aX ({ x with code:=code,pc:=x.pc+1 } :ao)) 100):=cx (i:=4) (v:=i_ j_ (x.pc+1)) h1;have qF:w.cell? ⟨g,10,n_⟩=o_ (i_ j_ x.code):=(bo h).2.2.2.2.2.2.2.2.2.2.1;have f10:w.frozen? ⟨g,10,n_⟩=false:=Ko _ _ _ _ _ h;have c4:(w.setCell ⟨g,10,n_⟩ (i_ j_ code)).cell? ⟨g,4,n_⟩=o_ (i_ j_ x.pc):=(bo h1).2.2.2.2.1;have f4:(w.setCell ⟨g,10,n_⟩ (i_ j_ code)).frozen? ⟨g,4,n_⟩=false:=Ko _ _ _ _ _ h1;obtain ⟨r0,r1,r2,r3,r4,r5,r6,r7,r8,r9,Ju,Jq⟩:=bo h2;have H2:Hid (((w.setCell ⟨g,10,n_⟩ (i_ j_ code)).setCell ⟨g,4,n_⟩ (i_ j_ (x.pc+1))).heap[g]? =o_ (c_ (aX ({ x with code:=code,pc:=x.pc+1 } :ao)) 100)∧aI w ((w.setCell ⟨g,10,n_⟩ (i_ j_ code)).setCell ⟨g,4,n_⟩ (i_ j_ (x.pc+1))) [g]):=⟨h2,aI.cell.trans aI.cell⟩
 have Mb:=kn ({ x with code:=code,pc:=x.pc+1 } :ao) ((w.setCell ⟨g,10,n_⟩ (i_ j_ code)).setCell ⟨g,4,n_⟩ (i_ j_ (x.pc+1))) hl;obtain ⟨n0,n1⟩:=hpc;have n2:x.pc≤1048576:=by omega
 have hv:dU ({ x with code:=code,pc:=x.pc+1 } :ao).toaD=decide (¬ x.pc+1=x.prog.length):=by
  show cv (x.pc+1) 0 ((x.prog.length:Int) - 1)=_
  by_cases e:x.pc+1=x.prog.length
  ·rw [decide_eq_false (by simpa using e)]
   cases h5:cv (x.pc+1) 0 ((x.prog.length:Int) - 1) with
   | false=>rfl
   | true=>have:=bz.1 h5; omega
  ·rw [decide_eq_true e]
   exact bz.2 (by omega)
 rw [hv] at Mb;simp only [aX] at Mb;clear hv h h1 h2 hl n1
 go_enter func132,ntmps132
 go_wp2_with fail;clear qF f10 c4 f4 r0 r1 r2 r3 r4 r5 r6 r7 r8 r9 Ju Jq;refine Mb.mono ?_;clear Mb;rintro e w3 ⟨rfl,hb3⟩;have H3:Hid (w3.heap[g]? =o_ (c_ (aX ({ x with code:=code,pc:=x.pc+1 } :ao)) 100)∧aI w w3 [g]):=⟨(hb3.block _ (J2.1 H2.I.1).1).trans H2.I.1,H2.I.2.trans (aI.dI hb3)⟩
 clear hb3 H2;by_cases hlen:x.pc+1=x.prog.length
 ·have afx:Hid (fE code x=(⟨j7 (jM code x.toaD),x.aY,x.bH⟩:ao)):=by show fE code x=_; unfold fE jT; rw [if_pos hlen]
  have e1:decide (¬ x.pc+1=x.prog.length)=false:=decide_eq_false (by simpa using hlen);rw [e1];clear hlen e1;go_wp2_with fail;refine (NI g ({ x with code:=code,pc:=x.pc+1 } :ao) w3 H3.I.1).mono ?_;rintro e w4 ⟨rfl,rfl⟩;go_wp2;refine bodyPost_ret (results_none results132 _ _ _) rfl ?_;rw [afx.I];exact ⟨rfl,KU _ _ _ _ _ _ H3.I.1,H3.I.2.trans aI.row⟩
 have afx:Hid (fE code x=(⟨jM code x.toaD,x.aY,x.bH⟩:ao)):=by show fE code x=_; unfold fE jT; rw [if_neg hlen]
 have e1:decide (¬ x.pc+1=x.prog.length)=true:=decide_eq_true hlen;rw [e1];clear hlen e1;have c3:=(bo H3.I.1).2.2.2.1;have f3:w3.frozen? ⟨g,3,n_⟩=false:=Ko _ _ _ _ _ H3.I.1;have k3:(w3.setCell ⟨g,3,n_⟩ (i_ j_ 1)).heap[g]? =o_ (c_ (aX ({ x with code:=code,pc:=x.pc+1,Md:=1 } :ao)) 100):=cx (i:=3) (v:=i_ j_ 1) H3.I.1;have c5:=(bo k3).2.2.2.2.2.1;have f5:(w3.setCell ⟨g,3,n_⟩ (i_ j_ 1)).frozen? ⟨g,5,n_⟩=false:=Ko _ _ _ _ _ k3;have k5:((w3.setCell ⟨g,3,n_⟩ (i_ j_ 1)).setCell ⟨g,5,n_⟩ (i_ j_ 0)).heap[g]? =o_ (c_ (aX ({ x with code:=code,pc:=x.pc+1,Md:=1,left:=0 } :ao)) 100):=cx (i:=5) (v:=i_ j_ 0) k3;have c6:=(bo k5).2.2.2.2.2.2.1;have f6:((w3.setCell ⟨g,3,n_⟩ (i_ j_ 1)).setCell ⟨g,5,n_⟩ (i_ j_ 0)).frozen? ⟨g,6,n_⟩=false:=Ko _ _ _ _ _ k5;have k6:(((w3.setCell ⟨g,3,n_⟩ (i_ j_ 1)).setCell ⟨g,5,n_⟩ (i_ j_ 0)).setCell ⟨g,6,n_⟩ (i_ j_ 0)).heap[g]? =o_ (c_ (aX ({ x with code:=code,pc:=x.pc+1,Md:=1,left:=0,Mg:=0 } :ao)) 100):=cx (i:=6) (v:=i_ j_ 0) k5;have c7:=(bo k6).2.2.2.2.2.2.2.1;have f7:(((w3.setCell ⟨g,3,n_⟩ (i_ j_ 1)).setCell ⟨g,5,n_⟩ (i_ j_ 0)).setCell ⟨g,6,n_⟩ (i_ j_ 0)).frozen? ⟨g,7,n_⟩=false:=Ko _ _ _ _ _ k6;have k7:((((w3.setCell ⟨g,3,n_⟩ (i_ j_ 1)).setCell ⟨g,5,n_⟩ (i_ j_ 0)).setCell ⟨g,6,n_⟩ (i_ j_ 0)).setCell ⟨g,7,n_⟩ (i_ j_ 0)).heap[g]? =o_ (c_ (aX ({ x with code:=code,pc:=x.pc+1,Md:=1,left:=0,Mg:=0,on:=0 } :ao)) 100):=cx (i:=7) (v:=i_ j_ 0) k6;have c8:=(bo k7).2.2.2.2.2.2.2.2.1;have f8:((((w3.setCell ⟨g,3,n_⟩ (i_ j_ 1)).setCell ⟨g,5,n_⟩ (i_ j_ 0)).setCell ⟨g,6,n_⟩ (i_ j_ 0)).setCell ⟨g,7,n_⟩ (i_ j_ 0)).frozen? ⟨g,8,n_⟩=false:=Ko _ _ _ _ _ k7;have k8:(((((w3.setCell ⟨g,3,n_⟩ (i_ j_ 1)).setCell ⟨g,5,n_⟩ (i_ j_ 0)).setCell ⟨g,6,n_⟩ (i_ j_ 0)).setCell ⟨g,7,n_⟩ (i_ j_ 0)).setCell ⟨g,8,n_⟩ (t_ ⟨#[]⟩)).heap[g]? =o_ (c_ (aX ({ x with code:=code,pc:=x.pc+1,Md:=1,left:=0,Mg:=0,on:=0,held:=rM } :ao)) 100):=cx (i:=8) (v:=t_ ⟨#[]⟩) k7;have HF:Hid ((((((w3.setCell ⟨g,3,n_⟩ (i_ j_ 1)).setCell ⟨g,5,n_⟩ (i_ j_ 0)).setCell ⟨g,6,n_⟩ (i_ j_ 0)).setCell ⟨g,7,n_⟩ (i_ j_ 0)).setCell ⟨g,8,n_⟩ (t_ ⟨#[]⟩)).heap[g]? =o_ (c_ (aX (⟨jM code x.toaD,x.aY,x.bH⟩:ao)) 100)∧aI w (((((w3.setCell ⟨g,3,n_⟩ (i_ j_ 1)).setCell ⟨g,5,n_⟩ (i_ j_ 0)).setCell ⟨g,6,n_⟩ (i_ j_ 0)).setCell ⟨g,7,n_⟩ (i_ j_ 0)).setCell ⟨g,8,n_⟩ (t_ ⟨#[]⟩)) [g]):=⟨k8,(((((H3.I.2.trans aI.cell).trans aI.cell).trans aI.cell).trans aI.cell).trans aI.cell)⟩
 clear k3 k5 k6 k7 k8;go_wp2
 go_end0
 rw [afx.I];exact ⟨rfl,HF.I.1,HF.I.2⟩
theorem ahO (o g base:Nat) (S:aZ) (x:ao) (code:Int) (w:w_) (h:cJ w base o S) (lY:base≤w.heap.size) (hx:(x,g)∈S.lp) (n0:0≤S.q.next) (n1:S.q.next≤1000000000) (hpc:0≤x.pc∧x.pc < x.prog.length) (hl:x.prog.length≤1048576):
  k_ J3 125 #[p_ (o_ ⟨o,0,n_⟩),p_ (o_ ⟨g,0,n_⟩),i_ j_ code] w fun e w'=>e=r_ (u_ #[])∧cJ w' base o (S.ju g (pF S.q.next code) (gf S.q.next x.toaD))∧aI w w' [g,o] :=by
 have hgb:w.heap[g]? =o_ (c_ (aX x) 100):=h.L8.box (x,g) hx;have bR:g∈S.lp.map (·.2):=Lr.2 ⟨(x,g),hx,rfl⟩;have hno: ¬ o=g:=fun e=>by
  exact ZbE
 have hgl:base≤g:=h.L8.low g (LB _ bR);have HC:Hid (cJ w base o S∧(x,g)∈S.lp∧g∈S.lp.map (·.2)∧base≤g∧base≤w.heap.size∧ ¬ o=g∧o < w.heap.size):=⟨h,hx,bR,hgl,lY,hno,(J2.1 h.opn).1⟩
 have Mb:=Sj g x code w hgb hpc hl;clear hgb bR hgl h hx lY hpc hl
 go_enter func125,ntmps125
 go_wp2_with fail;refine Mb.mono ?_;clear Mb;rintro e w1 ⟨rfl,CT,hk1⟩;have H1:Hid (w1.heap[g]? =o_ (c_ (aX (fE code x)) 100)∧aI w w1 [g] ∧fa w1 o S.q):=⟨CT,hk1,(hk1.same o HC.I.2.2.2.2.2.2 (by simpa using HC.I.2.2.2.2.2.1)).trans HC.I.1.opn⟩
 have s3:=(bo CT).2.2.2.1;clear CT hk1;by_cases hlen:x.pc+1=x.prog.length
 ·have e1:((fE code x).Md == 1)=false:=by show ((jT code x.toaD).Md == 1)=false; unfold jT; rw [if_pos hlen]; rfl
  have HE:Hid (gf S.q.next x.toaD=S.q.next∧pF S.q.next code x=fE code x):=by show _∧_; unfold gf pF fE iY jT; rw [if_pos hlen,if_pos hlen,if_pos hlen]; exact ⟨rfl,rfl⟩
  clear hlen;go_wp2
  go_end0
  have hlt: ∀ b∈S.boxes ++ S.kids,b < w.heap.size:=fun b hb=>HC.I.1.lt b (LB _ hb)
  exact ⟨rfl,HC.I.1.SA (fun y=>⟨(rD _ _ _).1,(rD _ _ _).2,rfl,rfl⟩) (fun p hp hpg=>by have e:=HC.I.1.L8.one hp HC.I.2.1 hpg; subst e; rw [HE.I.2]; exact H1.I.1) HC.I.2.2.1 (by rw [HE.I.1]; exact H1.I.2.2) (fun b hb h5 h6=>H1.I.2.1.same b (hlt b hb) (by simpa using h5)),H1.I.2.1.mono (by simp)⟩
 have e1:((fE code x).Md == 1)=true:=by show ((jT code x.toaD).Md == 1)=true; unfold jT; rw [if_neg hlen]; rfl
 have HE:Hid (gf S.q.next x.toaD=S.q.next+1∧pF S.q.next code x= { fE code x with RU:=S.q.next }):=by show _∧_; unfold gf pF fE iY jT; rw [if_neg hlen,if_neg hlen,if_neg hlen]; exact ⟨rfl,rfl⟩
 clear hlen;have Mb:=wE o g S.q.next w1 (H1.I.2.2.cell 1) (Ko _ _ _ _ _ H1.I.2.2) ⟨_,(bo H1.I.1).2.2.2.2.2.2.2.2.2.2.2⟩ (Ko _ _ _ _ _ H1.I.1) hno n0 n1;go_wp2_with fail;refine Mb.mono ?_;clear Mb s3 e1;rintro e w2 ⟨rfl,rfl⟩;have HF:Hid (cJ ((w1.setCell ⟨g,11,n_⟩ (i_ j_ S.q.next)).setCell ⟨o,1,n_⟩ (i_ j_ (S.q.next+1))) base o (S.ju g (pF S.q.next code) (gf S.q.next x.toaD))∧aI w ((w1.setCell ⟨g,11,n_⟩ (i_ j_ S.q.next)).setCell ⟨o,1,n_⟩ (i_ j_ (S.q.next+1))) [g,o]):=by
  have hlt: ∀ b∈S.boxes ++ S.kids,b < w.heap.size:=fun b hb=>HC.I.1.lt b (LB _ hb)
  have hg3:((w1.setCell ⟨g,11,n_⟩ (i_ j_ S.q.next)).setCell ⟨o,1,n_⟩ (i_ j_ (S.q.next+1))).heap[g]? =o_ (c_ (aX ({ fE code x with RU:=S.q.next } :ao)) 100):=(aH (fun e=>HC.I.2.2.2.2.2.1 e.symm:g≠o)).trans (cx (i:=11) (v:=i_ j_ S.q.next) H1.I.1);have Bn:fa ((w1.setCell ⟨g,11,n_⟩ (i_ j_ S.q.next)).setCell ⟨o,1,n_⟩ (i_ j_ (S.q.next+1))) o { S.q with next:=S.q.next+1 } :=by
   have h5:(w1.setCell ⟨g,11,n_⟩ (i_ j_ S.q.next)).heap[o]? =_:=(aH HC.I.2.2.2.2.2.1).trans H1.I.2.2;exact cx (i:=1) (v:=i_ j_ (S.q.next+1)) h5
  exact ⟨HC.I.1.SA (fun y=>⟨(rD _ _ _).1,(rD _ _ _).2,rfl,rfl⟩) (fun p hp hpg=>by have e:=HC.I.1.L8.one hp HC.I.2.1 hpg; subst e; rw [HE.I.2]; exact hg3) HC.I.2.2.1 (by rw [HE.I.1]; exact Bn) (fun b hb h5 h6=>(aH h6).trans ((aH h5).trans (H1.I.2.1.same b (hlt b hb) (by simpa using h5)))),((H1.I.2.1.trans aI.cell).mono (by simp)).trans (aI.cell.mono (by simp))⟩
 go_wp2
 go_end0
 exact ⟨rfl,HF.I.1,HF.I.2⟩
end
section
open Go.RowKit
def jH (w:w_) (base:Nat) (q:af) (f:aE) (e:Ending) (w':w_):Prop:= ∃ q2:af,e=r_ (a_ q2.cells)∧q2.pure=f∧yr w base q q2 w'
structure Fr (w:w_) (M base:Nat) (q0 z q:af) (W:w_):Prop where
 box:av W w.heap.size z
 own:ap W base q
 kept:aI w W q0.Mc
 far: ∀ g∈q.Mc,g∈q0.Mc∨M≤g
 lo: ∀ g∈q0.Mc,base≤g∧g < w.heap.size
 sz:w.heap.size < M∧M≤W.heap.size∧base≤w.heap.size
section
variable {w W W2:w_} {M base:Nat} {q0 z q q2:af}
theorem Fr.yO (h:Fr w M base q0 z q W) {X:Nat} (h1:w.heap.size≤X) (h2:X < M):X∉q.Mc:=fun hm=>by
 rcases h.far X hm with h3 | h3
 ·have:=(h.lo X h3).2; omega
 ·omega
theorem Fr.start (h:ap w base q) (hb:base≤w.heap.size) (hx:av W w.heap.size q) (hw:B_ w.heap.size w W) (hM:w.heap.size < M∧M≤W.heap.size):Fr w M base q q q W:=
 ⟨hx,h.below hw,aI.dI hw,fun _ hg=> .inl hg,h.lt,hM.1,hM.2,hb⟩
theorem Fr.call (h:Fr w M base q0 z q W) (ht:yr W base q q2 W2):Fr w M base q0 z q2 W2∧ ∀ X,w.heap.size≤X→X < M→W2.heap[X]? =W.heap[X]? :=by
 have hk: ∀ X,w.heap.size≤X→X < M→W2.heap[X]? =W.heap[X]? :=fun X h1 h2=>ht.kept.same X (by have:=h.sz; omega) (h.yO h1 h2)
 refine ⟨⟨(hk _ (Ki _) h.sz.1).trans h.box,ht.own,⟨ht.kept.os.trans h.kept.os,ht.kept.tape.trans h.kept.tape,ht.kept.output.trans h.kept.output,LG h.kept.size ht.kept.size,fun g h1 h2=>(ht.kept.same g (by have:=h.kept.size; omega) fun hm=> ?_).trans (h.kept.same g h1 h2)⟩,fun g hg=> ?_,h.lo,h.sz.1,LG h.sz.2.1 ht.kept.size,h.sz.2.2⟩,hk⟩
 ·rcases h.far g hm with h3 | h3
  ·exact h2 h3
  ·have:=h.sz; omega
 ·rcases ht.far g hg with h3 | h3
  ·exact h.far g h3
  ·exact .inr (by have:=h.sz; omega)
theorem Fr.reads (h:Fr w M base q0 z q W) (hb:B_ W.heap.size W W2):Fr w M base q0 z q W2∧ ∀ X,X < M→W2.heap[X]? =W.heap[X]? :=
 ⟨⟨h.box.below hb,h.own.below hb,⟨hb.os.trans h.kept.os,hb.tape.trans h.kept.tape,hb.output.trans h.kept.output,LG h.kept.size hb.size,fun g h1 h2=>(hb.block g (by have:=h.kept.size; omega)).trans (h.kept.same g h1 h2)⟩,h.far,h.lo,h.sz.1,LG h.sz.2.1 hb.size,h.sz.2.2⟩,fun X hX=>hb.block X (by have:=h.sz; omega)⟩
theorem Fr.other (h:Fr w M base q0 z q W) {X:Nat} (h1:w.heap.size≤X) (h2:X < M) (cs:Array v_) (hz:av (W.setRow X cs) w.heap.size q2):Fr w M base q0 q2 q (W.setRow X cs):=
 ⟨hz,h.own.same fun g hg=>KH _ _ _ _ fun e=>h.yO h1 h2 (e ▸ hg),⟨h.kept.os,h.kept.tape,h.kept.output,by simpa using h.kept.size,fun g h3 h4=>(KH _ _ _ _ (by omega)).trans (h.kept.same g h3 h4)⟩,h.far,h.lo,h.sz.1,by simpa using h.sz.2.1,h.sz.2.2⟩
theorem Fr.put (h:Fr w M base q0 z q W):Fr w M base q0 q q (W.setRow w.heap.size q.cells):=h.other (Ki _) h.sz.1 _ (KU _ _ _ _ _ _ h.box)
theorem Fr.mK (h:Fr w M base q0 z q W) {X:Nat} (h1:w.heap.size < X) (h2:X < M) (cs:Array v_):yr w base q0 q (W.setRow X cs):=by
 have h3:=h.other (q2:=z) (Nat.le_of_lt h1) h2 cs ((KH _ _ _ _ (by omega)).trans h.box);exact ⟨h3.own,h3.kept,fun g hg=>(h3.far g hg).imp_right fun h4=>by have:=h.sz; omega⟩
end
end
def agL (now:Int) (p:aE):Nat→Option aE
 | 0=>o_ p
 | n+1=>(agL now p n).bind fun q=>hZ q (now+n)
def agc (p:aE) (now n:Int):Option aE:=if bK p && cv n 0 200 then agL now p n.toNat else n_
section
variable {now:Int} {p q:aE} {i n:Nat}
theorem ah6 (h:agL now p i=n_) (hn:i≤n):agL now p n=n_:=by
 induction n with
 | zero=>
  obtain rfl:i=0:=by omega
  exact h
 | succ n ih=>
  rcases Nat.lt_or_ge n i with h5 | h5
  ·obtain rfl:i=n+1:=by omega
   exact h
  ·show (agL now p n).bind _=n_
   rw [ih h5];rfl
structure agI (now:Int) (p:aE) (i:Nat) (q:aE):Prop where
 is:agL now p i=o_ q
 right:aQ q
 akr:i=0∨0≤now+i∧now+i≤1000000001
theorem agI.start (h:aQ p):agI now p 0 p:=⟨rfl,h,.inl rfl⟩
theorem agI.no (h:agI now p i q) (hb:(cv (now+i) 0 1000000000 && decide (q.next≤999999980))=false) (hn:i < n):agL now p n=n_:=by
 refine ah6 (i:=i+1) ?_ hn
 show (agL now p i).bind _=n_
 rw [h.is]
 show hZ q (now+i)=n_
 unfold hZ;rw [Bool.and_assoc,hb,PP];rfl
theorem agI.next (h:agI now p i q) (hb:(cv (now+i) 0 1000000000 && decide (q.next≤999999980))=true):agI now p (i+1) (mS (now+i) q):=by
 have hb':=hb;rw [J7,decide_eq_true_eq] at hb';have h1:=bz.1 hb'.1;refine ⟨?_,(DA h.right hb'.2 h1).1,.inr (by omega)⟩
 show (agL now p i).bind _=_
 rw [h.is]
 show hZ q (now+i)=_
 unfold hZ;rw [Bool.and_assoc,hb,(ch q).2 h.right];rfl
theorem ai5:agc p now 1=hZ p now:=by
 unfold agc;cases hp:bK p with
 | true=>
  show hZ p (now+(0:Nat))=_
  rw [show now+((0:Nat):Int)=now by omega]
 | false=>
  unfold hZ;rw [hp];rfl
end
section
open Go.RowKit Go.Maps
attribute [local go_sem ↓] Kc Kd
structure DZ (now:Int) (base:Nat) (w:w_) (q0:af) (k:Nat) (q:af) (wr:w_):Prop where
 box:av wr w.heap.size q
 mK:wr.heap[w.heap.size+1]? =o_ (c_ ar 38)
 own:ap wr base q
 cd:B_ base w wr
 wk:af9 now q.pure
 same:gj now q.pure=gj now q0.pure
 cnt:(lF now q.pure.L8).length=k
 short: ∀ x∈q.L8,x.prog.length≤1048576
 low: ∀ g∈q.Mc,g < w.heap.size
theorem un {q:af} {gs:Nat} (h:q.aN=o_ ⟨gs,0,n_⟩):gs∈q.Mc:=by
 unfold af.Mc;rw [h];simp [blk]
theorem Eb {now:Int} {q:af} {n:Nat} {y:ao} {code:Int} (hw:af9 now q.pure) (hy:q.L8[n]? =o_ y) (hp:q.pure.L8[n]? =o_ y.toaD) (hc:mL y.toaD=code) (hs: ∀ x∈q.L8,x.prog.length≤1048576):
  ({ q with next:=gf q.next y.toaD,L8:=q.L8.set n (pF q.next code y) } :af).pure=gu q.pure y.toaD∧({ q with next:=gf q.next y.toaD,L8:=q.L8.set n (pF q.next code y) } :af).Mc=q.Mc∧(∀ x∈({ q with next:=gf q.next y.toaD,L8:=q.L8.set n (pF q.next code y) } :af).L8,x.prog.length≤1048576):=by
 refine ⟨?_,?_,fun x hx=> ?_⟩
 ·unfold gu
  rw [rp hw.kW hp rfl,hc]
  show ({ q.pure with next:=gf q.next y.toaD,L8:=(q.L8.set n (pF q.next code y)).map (·.toaD) } :aE)=_
  rw [PN];rfl
 ·unfold af.Mc
  simp only [re hy (show (pF q.next code y).aY=y.aY from rfl)]
 ·rcases List.mem_or_eq_of_mem_set hx with h5 | h5
  ·exact hs x h5
  ·rw [h5]
   show (iY q.next code y.toaD).prog.length≤_
   rw [(rD _ _ _).2];exact hs y (KA hy)
theorem ti (q0:af) (now:Int) (base:Nat) (w:w_) (h:ap w base q0) (hb:base≤w.heap.size) (hk:af9 now q0.pure) (hs: ∀ x∈q0.L8,x.prog.length≤1048576):
  k_ J3 58 #[a_ q0.cells,i_ j_ now] w fun e w'=> ∃ q:af,e=r_ (a_ q.cells)∧q.pure=gj now q0.pure∧ap w' base q∧B_ base w w':=by
 have b1:B_ w.heap.size w ((w.alloc (c_ q0.cells 38)).alloc (c_ ar 38)):=dT _ _ _;have HB:Hid (DZ now base w q0 (lF now q0.pure.L8).length q0 ((w.alloc (c_ q0.cells 38)).alloc (c_ ar 38))∧base≤w.heap.size):=⟨⟨(cZ _ _ _).1,(cZ _ _ _).2,h.below b1,b1.mono hb,hk,rfl,rfl,hs,fun g hg=>(h.lt g hg).2⟩,hb⟩
 clear h hb hk hs b1;unfold af.cells at *
 go_enter func58,ntmps58
 go_wp2_with fail;generalize (w.alloc (c_ #[i_ j_ q0.id,i_ j_ q0.next,s_ q0.aN q0.L8.length q0.aW,s_ q0.bc q0.aj.length q0.bF,s_ q0.ay q0.L9.length q0.aO,s_ q0.ax q0.ag.length q0.aP,s_ q0.am q0.ae.length q0.aG,s_ q0.aK q0.ai.length q0.aV] 38)).alloc (c_ ar 38)=W at *
 go_loopg [] (lF now q0.pure.L8).length (fun k wr=> ∃ q:af,Hid (DZ now base w q0 k q wr))
 case atStart=>exact ⟨q0,HB.I.1⟩
 case round=>
  obtain ⟨q,HO⟩:=hrel
  rename w_=>W1
  have hql:q.L8.length≤6:=by have h5:=HO.I.wk.low; simpa [af.pure] using h5
  go_wp2_with fail
  go_loopw [5,6] (fun b i wr=> ∃ (k:Nat) (z:Int),k≤q.L8.length∧i=i_ j_ k∧b=i_ j_ z∧Hid (eN l8 (og now) q.pure.L8 k z∧B_ W1.heap.size W1 wr)) (fun _ i _=>q.L8.length - (Go.RowKit.intOf i).toNat)
  case atStart=>exact ⟨0,-1,Ky _,rfl,rfl,⟨eN.start _ _ _,Kp _ _⟩⟩
  case round=>
   obtain ⟨k,z,hk,rfl,rfl,HA⟩:=hrel;have HW:Hid (av wr w.heap.size q∧ap wr base q):=⟨HO.I.box.below HA.I.2,HO.I.own.below HA.I.2⟩
   obtain ⟨m0,m1,m2,m3,m4,m5,m6,m7⟩:=HW.I.1.cells;by_cases hlt:k < q.L8.length
   ·have i0:(0:Int)≤(k:Int):=by omega
    have i1:(k:Int) < (q.L8.length:Int):=by omega
    clear m0 m1 m3 m4 m5 m6 m7;obtain ⟨x,hx⟩: ∃ x,q.L8[k]? =o_ x:=⟨_,Kz hlt⟩
    have HX:Hid (q.L8[k]? =o_ x∧q.pure.L8[k]? =o_ x.toaD):=⟨hx,by show (q.L8.map (·.toaD))[k]? =_; rw [Kk,hx]; rfl⟩
    obtain ⟨gs,ha,hat⟩:=cn HW.I.2.at.1 hx;have HG:Hid (q.aN=o_ ⟨gs,0,n_⟩):=ha;rw [ha] at m2;obtain ⟨d0,d1,d2,d3,d4,d5,d6,d7,d8,d9,tH,tS⟩:=hat;clear hx ha;have hgl:w.heap.size < wr.heap.size:=(J2.1 HW.I.1).1;have HN:Hid (av (wr.alloc (c_ x.row 100)) w.heap.size q∧ap (wr.alloc (c_ x.row 100)) base q∧jx (wr.alloc (c_ x.row 100)) wr.heap.size x∧B_ W1.heap.size W1 (wr.alloc (c_ x.row 100))):=⟨HW.I.1.below ((Kp _ _).alloc (Ki _) _),HW.I.2.below ((Kp _ _).alloc (Ki _) _),Kj _ _,HA.I.2.alloc HA.I.2.size _⟩
    go_wp2_with fail;generalize wr.alloc (c_ x.row 100)=W5 at *;generalize wr.heap.size=X at *;clear d0 d1 d2 d3 d4 d5 d6 d7 d8 d9 tH tS m2 hgl;obtain ⟨-,-,m2,-⟩:=HN.I.1.cells;rw [HG.I] at m2;obtain ⟨-,-,-,b3,-,-,b6,-⟩:=HN.I.2.2.1.cells;by_cases hs:2≤x.Md;rotate_left
    ·have d1:decide (2≤x.Md)=false:=decide_eq_false hs
     have HY:Hid (eN l8 (og now) q.pure.L8 (k+1) z):=HA.I.1.skip HX.I.2 (by show (decide (2≤x.Md) && _)=false; rw [d1]; rfl);clear hs;refine aT (fun w'=>(w'.cell? ⟨w.heap.size,2,n_⟩=o_ (s_ (o_ ⟨gs,0,n_⟩) q.L8.length q.aW)∧w'.cell? ⟨X,3,n_⟩=o_ (i_ j_ x.Md)∧w'.cell? ⟨X,6,n_⟩=o_ (i_ j_ x.Mg))∧Hid (B_ W5.heap.size W5 w')) ZcR ⟨⟨m2,b3,b6⟩,(Kp _ _).drew⟩ ?_
     iterate 4 (refine PI ?_)
     iterate 4 (refine nl ?_; simp only [pt,sb,s0,s1])
     exact Q3
    have d1:decide (2≤x.Md)=true:=decide_eq_true hs;cases hv:cv x.Mg 1 now
    ·have afp:Hid (Ending.returned (b_ (cv x.Mg 1 now))=Ending.returned (b_ false)):=by show _=_; rw [hv]
     have HY:Hid (eN l8 (og now) q.pure.L8 (k+1) z):=HA.I.1.skip HX.I.2 (by show (_ && cv x.Mg 1 now)=false; rw [hv,PP]);clear hs hv;refine aT (fun w'=>(w'.cell? ⟨w.heap.size,2,n_⟩=o_ (s_ (o_ ⟨gs,0,n_⟩) q.L8.length q.aW)∧w'.cell? ⟨X,3,n_⟩=o_ (i_ j_ x.Md)∧w'.cell? ⟨X,6,n_⟩=o_ (i_ j_ x.Mg))∧Hid (B_ W5.heap.size W5 w')) ZcR ⟨⟨m2,b3,b6⟩,(Kp _ _).drew⟩ ?_
     iterate 7 (refine PI ?_)
     refine cl (b_ false) 21 #[i_ j_ x.Mg,i_ j_ 1,i_ j_ now] ?_ ?_ ?_
     ·intro w0 hS0
      obtain ⟨⟨o2,o3,o6⟩,hH⟩:=hS0
      exact wl
     ·exact Zaj
     simp only [pt,sb,s0,s1]
     exact Q3
    have afp:Hid (Ending.returned (b_ (cv x.Mg 1 now))=Ending.returned (b_ true)):=by show _=_; rw [hv]
    have HF:Hid (og now x.toaD=true):=by show (decide (2≤x.Md) && cv x.Mg 1 now)=true; rw [hv,d1]; rfl
    clear hs hv;by_cases hz:z < 0
    ·have afO:decide (z < 0)=true:=decide_eq_true hz
     have HY:Hid (eN l8 (og now) q.pure.L8 (k+1) k):=HA.I.1.first hz HX.I.2 HF.I;refine aT (fun w'=>(w'.cell? ⟨w.heap.size,2,n_⟩=o_ (s_ (o_ ⟨gs,0,n_⟩) q.L8.length q.aW)∧w'.cell? ⟨X,3,n_⟩=o_ (i_ j_ x.Md)∧w'.cell? ⟨X,6,n_⟩=o_ (i_ j_ x.Mg))∧Hid (B_ W5.heap.size W5 w')) ZcR ⟨⟨m2,b3,b6⟩,(Kp _ _).drew⟩ ?_
     iterate 7 (refine PI ?_)
     refine cl (b_ true) 21 #[i_ j_ x.Mg,i_ j_ 1,i_ j_ now] ?_ ?_ ?_
     ·intro w0 hS0
      obtain ⟨⟨o2,o3,o6⟩,hH⟩:=hS0
      exact wl
     ·exact Zaj
     simp only [pt,sb,s0,s1]
     iterate 5 (refine PI ?_)
     iterate 9 (refine nl ?_; simp only [pt,sb,s0,s1])
     iterate 2 (refine PI ?_)
     exact Zak
    have afO:decide (z < 0)=false:=decide_eq_false hz;obtain ⟨n,y0,hzn,hn,hy0,hbe⟩:=HA.I.1.got hz;subst hzn;have Fm:Hid (eN l8 (og now) q.pure.L8 (k+1) (if l8 x.toaD y0 then (k:Int) else (n:Int))):=eN.next hn hy0 hbe HX.I.2 HF.I;obtain ⟨y,hy,rfl⟩: ∃ y,q.L8[n]? =o_ y∧y.toaD=y0:=by
     have h5:(q.L8.map (·.toaD))[n]? =o_ y0:=hy0;rw [Kk,Kw] at h5;exact h5
    have j0:(0:Int)≤(n:Int):=by omega
    have j1:(n:Int) < (q.L8.length:Int):=by omega
    obtain ⟨gs2,ha2,g8⟩:=cn HN.I.2.1.at.1 hy;rw [HG.I] at ha2;cases ha2;obtain ⟨-,-,-,-,-,-,y6,-⟩:=g8;clear hy hy0 hbe hz;by_cases hw:x.Mg < y.Mg
    ·have af6:decide (x.Mg < y.Mg)=true:=decide_eq_true hw
     have HY:Hid (eN l8 (og now) q.pure.L8 (k+1) k):=by have h5:=Fm.I; rwa [show l8 x.toaD y.toaD=true from af6,if_pos rfl] at h5
     clear hw Fm;refine aT (fun w'=>(w'.cell? ⟨w.heap.size,2,n_⟩=o_ (s_ (o_ ⟨gs,0,n_⟩) q.L8.length q.aW)∧w'.cell? ⟨X,3,n_⟩=o_ (i_ j_ x.Md)∧w'.cell? ⟨X,6,n_⟩=o_ (i_ j_ x.Mg)∧w'.cell? ⟨gs,n * 12+6,n_⟩=o_ (i_ j_ y.Mg))∧Hid (B_ W5.heap.size W5 w')) ZcR ⟨⟨m2,b3,b6,y6⟩,(Kp _ _).drew⟩ ?_
     iterate 7 (refine PI ?_)
     refine cl (b_ true) 21 #[i_ j_ x.Mg,i_ j_ 1,i_ j_ now] ?_ ?_ ?_
     ·intro w0 hS0
      obtain ⟨⟨o2,o3,o6,afI⟩,hH⟩:=hS0
      exact wl
     ·exact Zaj
     simp only [pt,sb,s0,s1]
     iterate 16 (refine PI ?_)
     exact Zak
    ·have af6:decide (x.Mg < y.Mg)=false:=decide_eq_false hw
     have HY:Hid (eN l8 (og now) q.pure.L8 (k+1) n):=by have h5:=Fm.I; rwa [show l8 x.toaD y.toaD=false from af6,if_neg Bool.false_ne_true] at h5
     clear hw Fm;refine aT (fun w'=>(w'.cell? ⟨w.heap.size,2,n_⟩=o_ (s_ (o_ ⟨gs,0,n_⟩) q.L8.length q.aW)∧w'.cell? ⟨X,3,n_⟩=o_ (i_ j_ x.Md)∧w'.cell? ⟨X,6,n_⟩=o_ (i_ j_ x.Mg)∧w'.cell? ⟨gs,n * 12+6,n_⟩=o_ (i_ j_ y.Mg))∧Hid (B_ W5.heap.size W5 w')) ZcR ⟨⟨m2,b3,b6,y6⟩,(Kp _ _).drew⟩ ?_
     iterate 7 (refine PI ?_)
     refine cl (b_ true) 21 #[i_ j_ x.Mg,i_ j_ 1,i_ j_ now] ?_ ?_ ?_
     ·intro w0 hS0
      obtain ⟨⟨o2,o3,o6,afI⟩,hH⟩:=hS0
      exact wl
     ·exact Zaj
     simp only [pt,sb,s0,s1]
     iterate 16 (refine PI ?_)
     refine bk ZcR ?_ _;intro w1 cm;have HV:Hid (B_ W1.heap.size W1 w1):=HN.I.2.2.2.trans (cm.2.I.mono HN.I.2.2.2.size);clear cm;go_wp2;go_roundw
     case rel=>exact ⟨k+1,n,by omega,by go_num,rfl,⟨HY.I,HV.I⟩⟩
     case measure=>simp [Go.RowKit.intOf]; omega
   ·have i1: ¬ (k:Int) < (q.L8.length:Int):=by omega
    have HE:Hid (eN l8 (og now) q.pure.L8 q.L8.length z):=by have h5:=HA.I.1; rwa [show k=q.L8.length by omega] at h5
    have hfl:q.pure.L8.take q.L8.length=q.pure.L8:=by rw [List.take_of_length_le]; simp [af.pure]
    have Ih:Hid (wr.heap[w.heap.size+1]? =o_ (c_ ar 38)∧B_ base w wr):=⟨(HA.I.2.block _ (J2.1 HO.I.mK).1).trans HO.I.mK,HO.I.cd.trans (HA.I.2.mono (by have:=HO.I.cd.size; have:=HB.I.2; omega))⟩
    by_cases hz:z < 0
    ·have HD:Hid (lZ now q.pure.L8=n_):=by have h5:=HE.I.none' hz; rwa [hfl] at h5
     have afO:decide (z < 0)=true:=decide_eq_true hz;clear hfl hz;go_wp2_with (refine ec 4 48 q.row Ih.I.1 ?_);refine gZ results58 Ih.I.1 ?_;exact ⟨q,rfl,by rw [← HO.I.same]; exact (Co HD.I).symm,HW.I.2.same fun g hg=>KH _ _ _ _ (by have:=HO.I.low g hg; omega),q_ Ih.I.2 (by have:=HB.I.2; omega) _⟩
    have afO:decide (z < 0)=false:=decide_eq_false hz;obtain ⟨n,y0,hzn,hn,hy0,hbe⟩:=HE.I.got hz;subst hzn;rw [hfl] at hbe;obtain ⟨y,hy,rfl⟩: ∃ y,q.L8[n]? =o_ y∧y.toaD=y0:=by
     have h5:(q.L8.map (·.toaD))[n]? =o_ y0:=hy0;rw [Kk,Kw] at h5;exact h5
    have HD:Hid (lZ now q.pure.L8=o_ y.toaD∧q.L8[n]? =o_ y∧q.pure.L8[n]? =o_ y.toaD):=⟨hbe,hy,hy0⟩
    have j0:(0:Int)≤(n:Int):=by omega
    have j1:(n:Int) < (q.L8.length:Int):=by omega
    obtain ⟨gs,ha,hat⟩:=cn HW.I.2.at.1 hy;have HG:Hid (q.aN=o_ ⟨gs,0,n_⟩):=ha;have d3:=hat.2.2.2.1;rw [ha] at m2;have hdu:=(af9.mem hbe)
    have hst:2≤y.Md:=by have h5:=hdu.2; unfold og at h5; simp only [J7,decide_eq_true_eq] at h5; exact h5.1
    have hop:=HO.I.wk.op y.toaD hdu.1 hst;have hro:=HO.I.wk.room;have hle:=HO.I.short y (KA hy);have Mb:=fun code=>vT q n base y code wr HW.I.2 (by have:=HO.I.cd.size; have:=HA.I.2.size; have:=HB.I.2; omega) hy hop hle (by have h5:q.pure.next=q.next:=rfl; omega)
    clear hfl hz hbe hy hy0 hat ha hdu hst hop hro hle hn;unfold af.cells at Mb;simp only [HG.I] at Mb;cases e2:(y.Md == 2)
    ·skip
     replace Mb:=Mb 2;have HCO:Hid (mL y.toaD=2):=by show mL y.toaD=_; unfold mL; rw [if_neg (by simpa using e2)]
     exact iv
    ·skip
     replace Mb:=Mb 0;have HCO:Hid (mL y.toaD=0):=by show mL y.toaD=_; unfold mL; rw [if_pos (by simpa using e2)]
     exact iv
end
section
open Go.RowKit
theorem kv {s:ByteArray} (h:bw s=true):s.size≤1048576:=by
 unfold bw at h;simp only [J7,decide_eq_true_eq] at h;omega
theorem ta {p:aE} (h:aQ p):p.Small:=by
 have hid: ∀ {α:Type} {num:α→Int} {ok:α→Bool} {last:Int} {l:List α},aw num ok last l=true→ ∀ x∈l,(Lit.int j_ (num x)).wf=true∧ok x=true:=fun hl x hx=>by
  obtain ⟨h1,h2⟩:=cK hl x hx
  have:=bz.1 h1
  exact ⟨pT (by omega) (by omega),h2⟩
 have hwf: ∀ {α:Type} {num:α→Int} {ok:α→Bool} {last k:Int} {l:List α},aw num ok last l=true→decide (k∈l.map num)=true→(Lit.int j_ k).wf=true:=fun hl hk=>by
  obtain ⟨x,hx,rfl⟩:=Lr.1 (of_decide_eq_true hk);exact (hid hl x hx).1
 refine ⟨by have:=h.dl; omega,by have:=h.fx; omega,by have:=h.cD; omega,by have:=h.cC; omega,by have:=h.cb; omega,by have:=h.dH; omega,fun x hx=> ?_,fun x hx=>(hid h.aj x hx).1,fun x hx=>(hid h.L9 x hx).1,fun x hx=> ?_,fun x hx=> ?_,fun x hx=> ?_⟩
 ·obtain ⟨k0,k1,k2,k3⟩:=h.proc hx
  have hb:=iF k1;unfold jY at hb;simp only [J7] at hb;have hl:=lK hb.1.1.1.2;have hi:=bz.1 k0;have hnx:=bz.1 h.next;refine ⟨⟨by omega,fun o ho=> ?_,kv hb.1.1.2,kv hb.1.2⟩,pT (by omega) (by omega),?_,?_⟩
  ·obtain ⟨i,hi1,hi2⟩:=LK.1 ho
   exact kv (dv (yG hb.1.1.1.2 (i:=i) (by rw [Kz hi1,hi2]))).2.2.2.1
  ·unfold dG at k3
   by_cases h3:3≤x.Md
   ·rw [if_pos h3] at k3
    unfold hasB at k3
    split at k3
    ·exact hwf h.aj k3
    ·split at k3
     ·exact hwf h.L9 k3
     ·split at k3
      ·exact hwf h.ae k3
      ·split at k3
       ·exact hwf h.ag k3
       ·cases k3
   ·rw [fG,J7] at k1
    have k4:=k1.2;unfold bO at k4;have h0:x.on=0:=by
     split at k4
     ·simp only [J7,decide_eq_true_eq] at k4; exact k4.1.1.2
     ·split at k4
      ·simp only [J7,decide_eq_true_eq] at k4; exact k4.1.2
      ·split at k4
       ·simp only [J7,decide_eq_true_eq] at k4; exact k4.1.2
       ·split at k4
        ·omega
        ·split at k4
         ·omega
         ·cases k4
    rw [h0]; rfl
  ·by_cases h0:x.Md=0
   ·rw [kx k1 h0]; rfl
   ·unfold fF at k2
    simp only [Bool.or_eq_true,decide_eq_true_eq,h0,false_or] at k2
    have:=bz.1 k2
    exact pT (by omega) (by omega)
 ·obtain ⟨k1,k2⟩:=hid h.ag x hx
  unfold cU at k2;simp only [J7] at k2;exact ⟨k1,kv k2.1⟩
 ·obtain ⟨k1,k2⟩:=hid h.ae x hx
  unfold ct at k2;simp only [J7] at k2;have k3:=lv.1 k2.2;have k4:=bz.1 k2.1;exact ⟨k1,by omega,fun s hs=>kv (k3.2 s hs)⟩
 ·obtain ⟨k1,k2⟩:=hid h.ai x hx
  unfold dj at k2;simp only [J7] at k2;have k3:=lv.1 k2.2;have k4:=bz.1 k2.1.1;exact ⟨k1,by omega,fun s hs=>kv (k3.2 s hs)⟩
theorem ai4 {α:Type} {c:α→Nat} {l:List α} {M N:Nat} (h: ∀ x∈l,c x≤M) (hl:l.length≤N):g9 c l≤N * M:=by
 refine LG ?_ (Nat.mul_le_mul_right M hl);clear hl;unfold g9
 induction l with
 | nil=>simp
 | cons x r ih=>
  have h1:=h x (by simp);have h2:=ih fun y hy=>h y Zdr
  simp only [Lt,List.sum_cons,Lg];rw [Nat.add_mul];omega
theorem aiQ {p:aE} (h:aQ p):p.total≤1000:=by
 have s1:g9 (fun x:aD=>x.prog.length) p.L8≤6 * 20:=ai4 (fun x hx=>by
  have hb:=iF (h.proc hx).2.1;unfold jY at hb;simp only [J7] at hb;exact (lK hb.1.1.1.2).2) h.dl
 have s2:g9 (fun x:ci=>x.Ma.length) p.ae≤5 * 5:=ai4 (fun x hx=>by
  have k2:=(cK h.ae x hx).2;unfold ct at k2;simp only [J7] at k2
  have:=(lv.1 k2.2).1
  have:=(bz.1 k2.1).2
  omega) h.cb
 have s3:g9 (fun x:dS=>x.Ma.length) p.ai≤5 * 5:=ai4 (fun x hx=>by
  have k2:=(cK h.ai x hx).2;unfold dj at k2;simp only [J7] at k2
  have:=(lv.1 k2.2).1
  have:=(bz.1 k2.1.1).2
  omega) h.dH
 have:=h.dl
 have:=h.fx
 have:=h.cD
 have:=h.cC
 have:=h.cb
 have:=h.dH
 unfold aE.total;omega
theorem agP {r:Option aE} (h: ∀ q,r=o_ q→aQ q):(r.getD cN).Small∧(r.getD cN).total≤1000:=by
 cases r with
 | none=>exact ⟨hY,by decide⟩
 | some q=>exact ⟨ta (h q rfl),aiQ (h q rfl)⟩
theorem agt {p q:aE} {now:Int} (h:hZ p now=o_ q):aQ q:=by
 unfold hZ at h
 split at h
 ·rename_i h5
  simp only [J7,decide_eq_true_eq] at h5;rw [← KC h];exact (DA ((ch _).1 h5.1.1) h5.2 (bz.1 h5.1.2)).1
 ·cases h
end
section
open Go.RowKit Go.Maps
attribute [local go_sem ↓] Kc Kd
theorem cJ.below {w w':w_} {base o:Nat} {S:aZ} (h:cJ w base o S) (hb:B_ w.heap.size w w'):cJ w' base o S:=
 ⟨(hb.block _ (J2.1 h.opn).1).trans h.opn,h.L8.below hb,h.aj.below hb,h.L9.below hb,h.ag.below hb,h.ae.below hb,h.ai.below hb,fun p hp=>Di (h.eI p hp) hb,fun p hp=>Di (h.eE p hp) hb,fun p hp=>Di (h.eR p hp) hb,h.nodup,h.low⟩
theorem St {S:aZ} (h:aQ S.pure) {p:ao × Nat} (hp:p∈S.lp):p.1.prog.length≤1048576:=by
 have h1:=(cK h.L8 p.1.toaD (Lr.2 ⟨p,hp,rfl⟩)).2;simp only [cH,J7] at h1;have h2:=h1.1.1.1.1.1.1.2;unfold jm nq at h2;simp only [decide_eq_true_eq] at h2;omega
end
section
open Go.RowKit
section
variable {w W w':w_} {M base n m gs:Nat} {q0 z q q2:af} {x y:ao}
theorem tN (ha:q.aN=o_ ⟨gs,0,n_⟩):gs∈q.Mc:=by unfold af.Mc; rw [ha]; simp [blk]
theorem yr.of (ho:ap w' base q2) (hk:aI w w' (blk q.aN)) (hb:q2.Mc=q.Mc):yr w base q q2 w':=
 ⟨ho,hk.mono fun g hg=>by unfold af.Mc; exact Lz _ hg,fun g hg=> .inl (hb ▸ hg)⟩
theorem yr.refl (h:ap w base q):yr w base q q w:=⟨h,aI.refl _ _,fun _ hg=> .inl hg⟩
theorem nT {nx:Int} (hx:q.L8[n]? =o_ x) (hy:y.aY=x.aY):({ q with next:=nx,L8:=q.L8.set n y } :af).Mc=q.Mc:=by
 unfold af.Mc;simp only [re hx hy]
theorem jd {nx:Int} :({ q with next:=nx,L8:=q.L8.set n y } :af).cells=({ q with next:=nx } :af).cells:=by unfold af.cells; simp
theorem mj (hx:q.L8[n]? =o_ x):q.pure.L8[n]? =o_ x.toaD:=by show (q.L8.map (·.toaD))[n]? =_; rw [Kk,hx]; rfl
theorem iu (hx:q.L8[n]? =o_ x):x.toaD∈q.pure.L8:=KA (mj hx)
theorem g7 {nx:Int} {f:aD→aD} (hr:q.pure.L8.Pairwise (fun x y=>x.id < y.id)) (hx:q.L8[n]? =o_ x) (hy:y.toaD=f x.toaD):({ q with next:=nx,L8:=q.L8.set n y } :af).pure= { q.pure with next:=nx,L8:=ce x.id f q.pure.L8 } :=by
 rw [rp hr (mj hx) rfl,← hy]
 show ({ q.pure with next:=nx,L8:=(q.L8.set n y).map (·.toaD) } :aE)=_
 rw [PN];rfl
theorem bB (code:Int) (h:ap w base q) (hb:base≤w.heap.size) (hr:aQ q.pure) (hx:q.L8[n]? =o_ x) (h0: ¬ x.Md=0):k_ J3 103 #[a_ q.cells,i_ j_ n,i_ j_ code] w (jH w base q (bu code x.id q.pure)):=by
 have h1:=(hr.proc (iu hx)).2.1;have h2:=iT h1 h0;have h3:=iF h1;unfold jY at h3;simp only [J7] at h3;have h4:=(lK h3.1.1.1.2).2;refine (ve q n base x code w h hb hx h2 (by omega)).mono ?_;rintro e w' ⟨rfl,ho,-,hk⟩;exact ⟨({ q with L8:=q.L8.set n (fE code x) } :af),congrArg (fun c=>Ending.returned (a_ c)) (jd (nx:=q.next)).symm,g7 hr.kW hx (f:=jT code) rfl,yr.of ho hk (nT hx rfl)⟩
theorem lP (h:ap w base q) (hb:base≤w.heap.size) (hr:aQ q.pure) (hx:q.L8[n]? =o_ x) (h0: ¬ x.Md=0) (hn:q.next≤1000000000):k_ J3 102 #[a_ q.cells,i_ j_ n,i_ j_ 0] w (jH w base q (gF (fun y=>y) q.pure x.toaD)):=by
 have h1:=(hr.proc (iu hx)).2.1;have h2:=iT h1 h0;have h3:=iF h1;unfold jY at h3;simp only [J7] at h3;have h4:=(lK h3.1.1.1.2).2;have h5:=bz.1 hr.next;refine (vT q n base x 0 w h hb hx h2 (by omega) ⟨by have:q.pure.next=q.next:=rfl; omega,hn⟩).mono ?_;rintro e w' ⟨q2,rfl,rfl,ho,-,hk⟩;exact ⟨_,rfl,g7 hr.kW hx (f:=iY q.next 0) rfl,yr.of ho hk (nT hx rfl)⟩
theorem oT (h:ap w base q) (hb:base≤w.heap.size) (hr:q.pure.L8.Pairwise (fun x y=>x.id < y.id)) (hx:q.L8[n]? =o_ x) (hn:0≤q.next∧q.next≤1000000000):k_ J3 145 #[a_ q.cells,i_ j_ n] w (jH w base q { q.pure with next:=q.next+1,L8:=ce x.id (fun y=> { y with RU:=q.next }) q.pure.L8 }):=by
 refine (qG q n base x w h hb hx hn).mono ?_;rintro e w' ⟨q2,rfl,rfl,ho,-,hk⟩;exact ⟨_,rfl,g7 hr hx (f:=fun y=> { y with RU:=q.next }) rfl,yr.of ho hk (nT hx rfl)⟩
theorem Fr.kB {j:Nat} {v:v_} (h:Fr w M base q0 z q W) (hx:q.L8[n]? =o_ x) (ha:q.aN=o_ ⟨gs,0,n_⟩) (hy:y.prog=x.prog∧y.aY=x.aY∧y.bH=x.bH) (hj:j < 12)
  (hv:bg.vals y=(bg.vals x).set j v):
  Fr w M base q0 z ({ q with L8:=q.L8.set n y } :af) (W.setCell ⟨gs,n * 12+j,n_⟩ v)∧(∀ X,w.heap.size≤X→X < M→(W.setCell ⟨gs,n * 12+j,n_⟩ v).heap[X]? =W.heap[X]?)∧(∃ u,W.cell? ⟨gs,n * 12+j,n_⟩=o_ u)∧W.frozen? ⟨gs,n * 12+j,n_⟩=false:=by
 have h1:(bg.vals y)[j]? =o_ v:=by rw [hv,LU (by rw [bg.len]; exact hj)]
 have h2: ∀ r,r < 12→r≠j→(bg.vals y)[r]? =(bg.vals x)[r]? :=fun r _ hr=>by rw [hv,List.getElem?_set_ne (by omega)]
 have h3:=h.own.kB (n:=n) (j:=j) (x:=x) (y:=y) (vs:= [v]) hx ha hy ZcS (fun r hr=>by simp at hr; subst hr; rw [PT,h1]; rfl) (fun r hr hn=>h2 r hr (by simp at hn; omega));have hg:gs∈q.Mc:=tN ha;have hs: ∀ X,w.heap.size≤X→X < M→(W.setCell ⟨gs,n * 12+j,n_⟩ v).heap[X]? =W.heap[X]? :=fun X a b=>aH fun e=>h.yO a b (e ▸ hg)
 have hc:(∃ u,W.cell? ⟨gs,n * 12+j,n_⟩=o_ u)∧W.frozen? ⟨gs,n * 12+j,n_⟩=false:=by
  obtain ⟨g,hg,hrow⟩:=bl.fX (K:=bg) h.own.L8 ZdX;exact Zbv
 exact ⟨⟨(hs _ (Ki _) h.sz.1).trans h.box,h3.1,⟨h.kept.os,h.kept.tape,h.kept.output,by simpa [World.setCell] using h.kept.size,fun g a b=>(aH fun e=>by
  rcases h.far gs hg with c | c
  ·exact b (e ▸ c)
  ·have:=h.sz; omega).trans (h.kept.same g a b)⟩,fun g hg=>h.far g (h3.2.2 ▸ hg),h.lo,h.sz.1,by simpa [World.setCell] using h.sz.2.1,h.sz.2.2⟩,hs,hc⟩
theorem pm {k:Int} {f g:aD→aD} (hf: ∀ y,(f y).id=y.id) (l:List aD):ce k g (ce k f l)=ce k (fun y=>g (f y)) l:=by
 unfold ce;rw [Lv];refine Lw fun z _=> ?_
 simp only [Ls];by_cases e:z.id=k
 ·rw [if_pos e,if_pos e,if_pos (by rw [hf]; exact e)]
 ·rw [if_neg e,if_neg e,if_neg e]
theorem us {nx:Int} (hr:q.pure.L8.Pairwise (fun x y=>x.id < y.id)) (hx:q.L8[n]? =o_ x) (hy:y.id=x.id):({ q with next:=nx,L8:=q.L8.set n y } :af).pure.L8.Pairwise (fun x y=>x.id < y.id):=by
 rw [g7 (f:=fun z=> { y.toaD with id:=z.id }) hr hx (by show y.toaD= { y.toaD with id:=x.id }; rw [← hy])];refine rW (f:=fun z=> { y.toaD with id:=z.id }) ?_ hr;intro _; rfl
theorem Hi (hx:q.L8[n]? =o_ x):({ q with L8:=q.L8.set n x } :af)=q:=by
 have hn:=(Lj.1 hx).1;have e:q.L8.set n x=q.L8:=by
  rw [← (Lj.1 hx).2]; simp
 rw [e]
theorem Fr.again {j:Nat} {v:v_} (h:Fr w M base q0 z { q with L8:=q.L8.set n x } W) (hn:n < q.L8.length) (ha:q.aN=o_ ⟨gs,0,n_⟩) (hy:y.prog=x.prog∧y.aY=x.aY∧y.bH=x.bH) (hj:j < 12) (hv:bg.vals y=(bg.vals x).set j v):
  Fr w M base q0 z ({ q with L8:=q.L8.set n y } :af) (W.setCell ⟨gs,n * 12+j,n_⟩ v)∧(∀ X,w.heap.size≤X→X < M→(W.setCell ⟨gs,n * 12+j,n_⟩ v).heap[X]? =W.heap[X]?)∧(∃ u,W.cell? ⟨gs,n * 12+j,n_⟩=o_ u)∧W.frozen? ⟨gs,n * 12+j,n_⟩=false:=by
 have h1:=h.kB (n:=n) (y:=y) (x:=x) (j:=j) (v:=v) (by show (q.L8.set n x)[n]? =_; rw [LU hn]) ha hy hj hv;simpa only [List.set_set] using h1
end
end
section
open Go.RowKit Go.Maps
attribute [local go_sem ↓] Kc Kd
theorem uy (p:af) (w:w_):k_ J3 22 #[a_ p.cells] w fun e w'=>e=r_ (b_ (decide (p.next≤999999980)))∧B_ w.heap.size w w':=by
 have HB:Hid (av (w.alloc (c_ p.cells 38)) w.heap.size p∧B_ w.heap.size w (w.alloc (c_ p.cells 38))):=⟨Kj _ _,(Kp _ _).alloc (Ki _) _⟩
 unfold af.cells at *;obtain ⟨-,m1,-⟩:=HB.I.1.cells
 go_enter func22,ntmps22
 go_wp2;go_ret;exact ⟨rfl,HB.I.2⟩
end
section
open Go.RowKit
def j9 (o:dN):Array v_:= #[i_ j_ o.1,i_ j_ o.2.1,i_ j_ o.2.2.1,t_ o.2.2.2]
def oo (W:w_) (X:Nat) (o:dN):Prop:=W.heap[X]? =o_ (c_ (j9 o) 165)
theorem oo.cells {W:w_} {X:Nat} {o:dN} (h:oo W X o):W.cell? ⟨X,0,n_⟩=o_ (i_ j_ o.1)∧W.cell? ⟨X,1,n_⟩=o_ (i_ j_ o.2.1)∧W.cell? ⟨X,2,n_⟩=o_ (i_ j_ o.2.2.1)∧W.cell? ⟨X,3,n_⟩=o_ (t_ o.2.2.2):=by
 unfold oo at h;simp [World.cell?,h,j9]
structure Xf (w:w_) (base:Nat) (q0 z q:af) (o:dN) (W:w_):Prop where
 fr:Fr w (w.heap.size+3) base q0 z q W
 op:oo W (w.heap.size+1) o
 an:W.heap[w.heap.size+2]? =o_ (c_ ar 38)
section
variable {w W W2:w_} {base:Nat} {q0 z q q2:af} {o:dN}
theorem Xf.start (h:ap w base q) (hb:base≤w.heap.size):Xf w base q q q o (((w.alloc (c_ q.cells 38)).alloc (c_ (j9 o) 165)).alloc (c_ ar 38)):=by
 have h3:=dR w (c_ q.cells 38) (c_ (j9 o) 165) (c_ ar 38);exact ⟨Fr.start h hb h3.1 (fg _ _ _ _) ⟨by omega,by rw [h3.2.2.2]; omega⟩,h3.2.1,h3.2.2.1⟩
theorem Xf.call (h:Xf w base q0 z q o W) (ht:yr W base q q2 W2):Xf w base q0 z q2 o W2:=by
 have h5:=h.fr.call ht;exact ⟨h5.1,(h5.2 _ (by omega) (by omega)).trans h.op,(h5.2 _ (by omega) (by omega)).trans h.an⟩
theorem Xf.reads (h:Xf w base q0 z q o W) (hb:B_ W.heap.size W W2):Xf w base q0 z q o W2:=by
 have h5:=h.fr.reads hb;exact ⟨h5.1,(h5.2 _ (by omega)).trans h.op,(h5.2 _ (by omega)).trans h.an⟩
theorem Xf.put (h:Xf w base q0 z q o W):Xf w base q0 q q o (W.setRow w.heap.size q.cells):=⟨h.fr.put,(KH _ _ _ _ (by omega)).trans h.op,(KH _ _ _ _ (by omega)).trans h.an⟩
theorem Xf.done (h:Xf w base q0 z q o W) (cs:Array v_):yr w base q0 q (W.setRow (w.heap.size+2) cs):=h.fr.mK (by omega) (by omega) cs
theorem Xf.again {n gs j:Nat} {x y:ao} {v:v_} (h:Xf w base q0 z { q with L8:=q.L8.set n x } o W) (hn:n < q.L8.length) (ha:q.aN=o_ ⟨gs,0,n_⟩) (hy:y.prog=x.prog∧y.aY=x.aY∧y.bH=x.bH) (hj:j < 12) (hv:bg.vals y=(bg.vals x).set j v):
  Xf w base q0 z ({ q with L8:=q.L8.set n y } :af) o (W.setCell ⟨gs,n * 12+j,n_⟩ v)∧(∃ u,W.cell? ⟨gs,n * 12+j,n_⟩=o_ u)∧W.frozen? ⟨gs,n * 12+j,n_⟩=false:=by
 have h5:=h.fr.again hn ha hy hj hv;exact ⟨⟨h5.1,(h5.2.1 _ (by omega) (by omega)).trans h.op,(h5.2.1 _ (by omega) (by omega)).trans h.an⟩,h5.2.2⟩
theorem Xf.low (h:Xf w base q0 z q o W):base≤W.heap.size:=by have:=h.fr.sz; omega
theorem Xf.m2 {gs:Nat} (h:Xf w base q0 z q o W) (ha:z.aN=o_ ⟨gs,0,n_⟩):W.cell? ⟨w.heap.size,2,n_⟩=o_ (s_ (o_ ⟨gs,0,n_⟩) z.L8.length z.aW):=by rw [← ha]; exact h.fr.box.cells.2.2.1
end
end
section
open Go.RowKit Go.Maps
attribute [local go_sem ↓] Kc Kd
theorem sT (q:af) (n base:Nat) (x:ao) (st on wait now:Int) (held:ByteArray) (w:w_) (h:ap w base q) (hb:base≤w.heap.size) (hr:aQ q.pure) (hx:q.L8[n]? =o_ x) (hn:q.next≤1000000000) (eu:0≤now∧now≤1000000000) (hw: -1≤wait∧wait≤1000):
  k_ J3 104 #[a_ q.cells,i_ j_ n,i_ j_ st,i_ j_ on,t_ held,i_ j_ wait,i_ j_ now] w (jH w base q (kC st on held (kZ now wait) x.id q.pure)):=by
 obtain ⟨gs,ha,-⟩:=cn h.at.1 hx;have hnl:n < q.L8.length:=(Lj.1 hx).1;have b1:=dT w (c_ q.cells 38) (c_ ar 38);have h2:=cZ w (c_ q.cells 38) (c_ ar 38);have S:Hid (Fr w (w.heap.size+2) base q q ({ q with L8:=q.L8.set n x } :af) ((w.alloc (c_ q.cells 38)).alloc (c_ ar 38))∧((w.alloc (c_ q.cells 38)).alloc (c_ ar 38)).heap[w.heap.size+1]? =o_ (c_ ar 38)):=⟨by rw [Hi hx]; exact Fr.start h hb h2.1 b1 ⟨by omega,by have:=(J2.1 h2.2).1; omega⟩,h2.2⟩
 have j0:(0:Int)≤(n:Int):=by omega
 have j1:(n:Int) < (q.L8.length:Int):=by omega
 have HR:Hid (aQ q.pure∧(0≤q.next∧q.next≤1000000000)∧q.L8[n]? =o_ x∧n < q.L8.length∧q.aN=o_ ⟨gs,0,n_⟩):=⟨hr,⟨by have h5:=bz.1 hr.next; have:q.pure.next=q.next:=rfl; omega,hn⟩,hx,hnl,ha⟩
 obtain ⟨n0,n1⟩:=eu;obtain ⟨w0,w1⟩:=hw;clear h hb hr hx hn b1 h2 ha hnl
 go_enter func104,ntmps104
 go_upto_region 1 with fail;generalize (w.alloc (c_ q.cells 38)).alloc (c_ ar 38)=A at *;have m:=S.I.1.box.cells.2.2.1;rw [HR.I.2.2.2.2] at m;obtain ⟨s,k,⟨u,c⟩,f⟩:=S.I.1.again (y:= { x with Md:=st }) (j:=3) (v:=i_ j_ st) HR.I.2.2.2.1 HR.I.2.2.2.2 ⟨rfl,rfl,rfl⟩ (by decide) rfl;replace S:=aA (And.intro s ((k _ (by omega) (by omega)).trans S.I.2));clear s k;go_upto_region 2 with fail;generalize A.setCell ⟨gs,n * 12+3,n_⟩ (i_ j_ st)=A at *;clear m c f u;have m:=S.I.1.box.cells.2.2.1;rw [HR.I.2.2.2.2] at m;obtain ⟨s,k,⟨u,c⟩,f⟩:=S.I.1.again (y:= { x with Md:=st,on:=on }) (j:=7) (v:=i_ j_ on) HR.I.2.2.2.1 HR.I.2.2.2.2 ⟨rfl,rfl,rfl⟩ (by decide) rfl;replace S:=aA (And.intro s ((k _ (by omega) (by omega)).trans S.I.2));clear s k;go_upto_region 3 with fail;generalize A.setCell ⟨gs,n * 12+7,n_⟩ (i_ j_ on)=A at *;clear m c f u;have m:=S.I.1.box.cells.2.2.1;rw [HR.I.2.2.2.2] at m;obtain ⟨s,k,⟨u,c⟩,f⟩:=S.I.1.again (y:= { x with Md:=st,on:=on,held:=held }) (j:=8) (v:=t_ held) HR.I.2.2.2.1 HR.I.2.2.2.2 ⟨rfl,rfl,rfl⟩ (by decide) rfl;replace S:=aA (And.intro s ((k _ (by omega) (by omega)).trans S.I.2));clear s k;go_upto_region 4 with fail;generalize A.setCell ⟨gs,n * 12+8,n_⟩ (t_ held)=A at *;clear m c f u;have m:=S.I.1.box.cells.2.2.1;rw [HR.I.2.2.2.2] at m;obtain ⟨s,k,⟨u,c⟩,f⟩:=S.I.1.again (y:= { x with Md:=st,on:=on,held:=held,Mg:= -1 }) (j:=6) (v:=i_ j_ (-1)) HR.I.2.2.2.1 HR.I.2.2.2.2 ⟨rfl,rfl,rfl⟩ (by decide) rfl;replace S:=aA (And.intro s ((k _ (by omega) (by omega)).trans S.I.2));clear s k;go_upto_region 5 with fail;generalize A.setCell ⟨gs,n * 12+6,n_⟩ (i_ j_ (-1))=A at *;clear m c f u;by_cases FN:0≤wait
 ·have af6:decide (wait≥0)=true:=decide_eq_true FN
  have m:=S.I.1.box.cells.2.2.1;rw [HR.I.2.2.2.2] at m;obtain ⟨s,k,⟨u,c⟩,f⟩:=S.I.1.again (y:= { x with Md:=st,on:=on,held:=held,Mg:=now+wait }) (j:=6) (v:=i_ j_ (now+wait)) HR.I.2.2.2.1 HR.I.2.2.2.2 ⟨rfl,rfl,rfl⟩ (by decide) rfl;replace S:=aA (And.intro s ((k _ (by omega) (by omega)).trans S.I.2));clear s k;go_upto_region 7 with fail;generalize A.setCell ⟨gs,n * 12+6,n_⟩ (i_ j_ (now+wait))=A at *;clear m c f u;have hp:({ q with L8:=q.L8.set n { x with Md:=st,on:=on,held:=held,Mg:=now+wait } } :af).pure=_:=g7 (nx:=q.next) (f:=fun y=> { y with Md:=st,on:=on,held:=held,Mg:=now+wait }) HR.I.1.kW HR.I.2.2.1 rfl;have Mb:=oT (n:=n) (x:= { x with Md:=st,on:=on,held:=held,Mg:=now+wait }) S.I.1.own ZcW (us HR.I.1.kW HR.I.2.2.1 rfl) ZdY HR.I.2.1;rw [jd (nx:=q.next),hp] at Mb;have HE:Hid ({ q.pure with next:=q.next+1,L8:=ce x.id (fun y=> { y with RU:=q.next }) (ce x.id (fun y=> { y with Md:=st,on:=on,held:=held,Mg:=now+wait }) q.pure.L8) } =kC st on held (kZ now wait) x.id q.pure):=by show _=kC st on held (kZ now wait) x.id q.pure; rw [pm (by intro _; rfl)]; unfold kZ; rw [if_pos FN]; rfl
  exact L_
 ·have af6:decide (wait≥0)=false:=decide_eq_false FN
  go_upto_region 7 with fail;have hp:({ q with L8:=q.L8.set n { x with Md:=st,on:=on,held:=held,Mg:= -1 } } :af).pure=_:=g7 (nx:=q.next) (f:=fun y=> { y with Md:=st,on:=on,held:=held,Mg:= -1 }) HR.I.1.kW HR.I.2.2.1 rfl;have Mb:=oT (n:=n) (x:= { x with Md:=st,on:=on,held:=held,Mg:= -1 }) S.I.1.own ZcW (us HR.I.1.kW HR.I.2.2.1 rfl) ZdY HR.I.2.1;rw [jd (nx:=q.next),hp] at Mb;have HE:Hid ({ q.pure with next:=q.next+1,L8:=ce x.id (fun y=> { y with RU:=q.next }) (ce x.id (fun y=> { y with Md:=st,on:=on,held:=held,Mg:= -1 }) q.pure.L8) } =kC st on held (kZ now wait) x.id q.pure):=by show _=kC st on held (kZ now wait) x.id q.pure; rw [pm (by intro _; rfl)]; unfold kZ; rw [if_neg FN]; rfl
  exact L_
end
section
open Go.RowKit
theorem lJ {α β:Type} {num:β→Int} {je:α→Int} {g:α→β} (hg: ∀ x,num (g x)=je x) {id:Int} : ∀ (l:List α),cg num id (l.map g)=(cg je id l).map g
 | [] =>rfl
 | x :: r=>by
  have h:=lJ hg (id:=id) r;unfold cg at h ⊢;simp only [Lt,List.find?_cons,hg]
  split
  ·rfl
  ·exact h
section
variable {W:w_} {base n j gs:Nat} {q:af} {v:v_}
theorem gD {q:af} {g:Nat} (h:g∈blk q.aN∨g∈blk q.bc∨g∈blk q.ay∨g∈blk q.ax∨g∈blk q.am∨g∈blk q.aK):g∈q.Mc:=by
 simp only [af.Mc,Kg];rcases h with h | h | h | h | h | h <;> simp [h]
theorem uR {x y:bD} (h:ap W base q) (hx:q.aj[n]? =o_ x) (ha:q.bc=o_ ⟨gs,0,n_⟩) (hj:j < 3) (hv:dm.vals y=(dm.vals x).set j v):
  yr W base q ({ q with aj:=q.aj.set n y } :af) (W.setCell ⟨gs,n * 3+j,n_⟩ v)∧(∃ u,W.cell? ⟨gs,n * 3+j,n_⟩=o_ u)∧W.frozen? ⟨gs,n * 3+j,n_⟩=false:=by
 obtain ⟨h1,h2,h3⟩:=rn (K:=dm) h.aj hx ha hj hv;obtain ⟨h4,h5⟩:=h.DT h1 (by simp) h2;exact ⟨⟨h4,h2.mono fun g hg=>gD (.inr (.inl hg)),fun g hg=> .inl (h5 ▸ hg)⟩,h3⟩
theorem rv {x y:aB} (h:ap W base q) (hx:q.L9[n]? =o_ x) (ha:q.ay=o_ ⟨gs,0,n_⟩) (hj:j < 2) (hv:bJ.vals y=(bJ.vals x).set j v):
  yr W base q ({ q with L9:=q.L9.set n y } :af) (W.setCell ⟨gs,n * 2+j,n_⟩ v)∧(∃ u,W.cell? ⟨gs,n * 2+j,n_⟩=o_ u)∧W.frozen? ⟨gs,n * 2+j,n_⟩=false:=by
 obtain ⟨h1,h2,h3⟩:=rn (K:=bJ) h.L9 hx ha hj hv;obtain ⟨h4,h5⟩:=h.xA h1 (by simp) h2;exact ⟨⟨h4,h2.mono fun g hg=>gD (.inr (.inr (.inl hg))),fun g hg=> .inl (h5 ▸ hg)⟩,h3⟩
theorem ll {x y:az} (h:ap W base q) (hx:q.ag[n]? =o_ x) (ha:q.ax=o_ ⟨gs,0,n_⟩) (hj:j < 3) (hv:bG.vals y=(bG.vals x).set j v):
  yr W base q ({ q with ag:=q.ag.set n y } :af) (W.setCell ⟨gs,n * 3+j,n_⟩ v)∧(∃ u,W.cell? ⟨gs,n * 3+j,n_⟩=o_ u)∧W.frozen? ⟨gs,n * 3+j,n_⟩=false:=by
 obtain ⟨h1,h2,h3⟩:=rn (K:=bG) h.ag hx ha hj hv;obtain ⟨h4,h5⟩:=h.xM h1 (by simp) h2;exact ⟨⟨h4,h2.mono fun g hg=>gD (.inr (.inr (.inr (.inl hg)))),fun g hg=> .inl (h5 ▸ hg)⟩,h3⟩
theorem pp {st on i:Int} (h:dO (fun x:aD=>decide (x.Md=st) && decide (x.on=on)) q.pure.L8 q.L8.length i):(i < 0∧jl st on q.pure.L8=n_)∨ ∃ (m:Nat) (y:ao),i=m∧q.L8[m]? =o_ y∧jl st on q.pure.L8=o_ y.toaD:=by
 have hl:q.L8.length=q.pure.L8.length:=by simp [af.pure]
 by_cases hi:i < 0
 ·refine .inl ⟨hi,?_⟩
  unfold dO at h;rw [hl,LQ] at h;unfold jl
  split at h
  ·assumption
  ·obtain ⟨k,hk,-⟩:=h
   omega
 ·obtain ⟨k,y,h1,h2,h3,h4⟩:=h.got hi
  rw [hl,LQ] at h4;have h5:(q.L8.map (·.toaD))[k]? =o_ y:=h3;rw [Kk,Kw] at h5;obtain ⟨z,hz,rfl⟩:=h5;exact .inr ⟨k,z,h1,hz,h4⟩
theorem eY {x y:ao} (h:ap W base q) (hx:q.L8[n]? =o_ x) (ha:q.aN=o_ ⟨gs,0,n_⟩) (hy:y.prog=x.prog∧y.aY=x.aY∧y.bH=x.bH) (hj:j < 12) (hv:bg.vals y=(bg.vals x).set j v):
  yr W base q ({ q with L8:=q.L8.set n y } :af) (W.setCell ⟨gs,n * 12+j,n_⟩ v)∧(∃ u,W.cell? ⟨gs,n * 12+j,n_⟩=o_ u)∧W.frozen? ⟨gs,n * 12+j,n_⟩=false:=by
 have h3:=h.kB (n:=n) (j:=j) (x:=x) (y:=y) (vs:= [v]) hx ha hy ZcS (fun r hr=>by simp at hr; subst hr; rw [PT,hv,LU (by rw [bg.len]; exact hj)]; rfl) (fun r hr hn=>by rw [hv,List.getElem?_set_ne (by simp at hn; omega)]);refine ⟨⟨h3.1,h3.2.1.mono fun g hg=> ?_,fun g hg=> .inl (h3.2.2 ▸ hg)⟩,?_⟩
 ·simp only [Kt,Ku,or_false] at hg
  rw [hg];exact tN ha
 ·obtain ⟨g,hg,hrow⟩:=bl.fX (K:=bg) h.L8 ZdX
  exact Zbv
def sy (x:ao):Array v_:= #[i_ j_ x.id,i_ j_ x.RX,s_ x.aY x.prog.length x.bH,i_ j_ 0,i_ j_ 0,i_ j_ 0,i_ j_ 0,i_ j_ 0,t_ ⟨#[]⟩,t_ x.got,i_ j_ x.code,i_ j_ 0]
theorem GC {x:ao} (h:ap W base q) (hx:q.L8[n]? =o_ x) (ha:q.aN=o_ ⟨gs,0,n_⟩):W.there gs (n * 12) 12∧yr W base q ({ q with L8:=q.L8.set n (sW x) } :af) (W.setCells gs (n * 12) (sy x).toList):=by
 constructor
 ·obtain ⟨g,hg,hrow⟩:=bl.fX (K:=bg) h.L8 ZdX
  exact ZaI
 ·have hv:(sy x).toList=bg.vals (sW x):=rfl
  have h3:=h.kB (n:=n) (j:=0) (x:=x) (y:=sW x) (vs:=(sy x).toList) hx ha ⟨rfl,rfl,rfl⟩ (by show 0+12≤12; omega) (fun r _=>by rw [Li,hv]) (fun r hr hn=>absurd ⟨Ky _,by show r < 0+12; omega⟩ hn);rw [PT,← iL] at h3;refine ⟨h3.1,h3.2.1.mono fun g hg=> ?_,fun g hg=> .inl (h3.2.2 ▸ hg)⟩;simp only [Kt,Ku,or_false] at hg;rw [hg];exact tN ha
theorem kg {x:ao} {t:ByteArray} (hr:aQ q.pure) (hx:q.L8[n]? =o_ x) (ht:bw t=true):
  ∃ q1:af,q1= { q with L8:=q.L8.set n { x with got:=t } } ∧q1.pure=ez t x.id q.pure∧q1.cells=q.cells∧aQ q1.pure∧q1.L8[n]? =o_ { x with got:=t } :=
 ⟨_,rfl,g7 (nx:=q.next) hr.kW hx rfl,jd (nx:=q.next),by rw [show ({ q with L8:=q.L8.set n { x with got:=t } } :af).pure=ez t x.id q.pure from g7 (nx:=q.next) hr.kW hx rfl]; exact iQ hr ht,by show (q.L8.set n _)[n]? =_; rw [LU (Lj.1 hx).1]⟩
theorem Bz {p:aE} {v:aD} {t:ByteArray} :gF (fun y=>y) (ez t v.id p) (lG t v)=gF (lG t) p v:=by
 unfold gF ez
 show ({ p with next:=gf p.next v,L8:=ce v.id (fun y=>iY p.next 0 y) (ce v.id (lG t) p.L8) } :aE)=_
 rw [pm (f:=lG t) (fun _=>rfl)]
theorem Xf.sync {w:w_} {q0 z q1:af} {o:dN} (h:Xf w base q0 z q o W) (hc:q1.cells=z.cells):Xf w base q0 q1 q o W:=⟨⟨by have h5:=h.fr.box; unfold av at h5 ⊢; exact h5.trans (congrArg (fun c=>o_ (Obj.cells c 38 (0,0))) hc.symm),h.fr.own,h.fr.kept,h.fr.far,h.fr.lo,h.fr.sz⟩,h.op,h.an⟩
theorem tQ {y:aD} (h:q.pure.L8[n]? =o_ y): ∃ x,q.L8[n]? =o_ x∧x.toaD=y:=by
 have h5:(q.L8.map (·.toaD))[n]? =o_ y:=h;rw [Kk,Kw] at h5;exact h5
theorem Gc {p:aE} {x y:aD} (h:aQ p) (hx:x∈p.L8) (hy:y∈p.L8) (e:y.id=x.id):y=x:=by
 exact K_
theorem ym {l:List aD} {k:Int} {f:aD→aD} {x:aD} (h:l[n]? =o_ x) (hne: ¬ x.id=k):(ce k f l)[n]? =o_ x:=by
 unfold ce;rw [Kk,h];simp [hne]
theorem qp {q2:af} {m:Nat} {x v:ao} {f:aD→aD} (hr:aQ q.pure) (hx:q.L8[n]? =o_ x) (hs:x.Md=1) (hv:q.L8[m]? =o_ v) (h1: ¬ v.Md=1) (h0: ¬ v.Md=0) (hf:f=(fun y=>y)∨ ∃ t,bw t=true∧f=lG t) (hn:q.next+1≤1000000000) (hp:q2.pure=gF f q.pure v.toaD):
  aQ q2.pure∧ ∃ x2,q2.L8[n]? =o_ x2∧x2.toaD=x.toaD:=by
 refine ⟨by rw [hp]; exact i9 hr (iu hv) h0 hf hn,tQ ?_⟩;rw [hp];refine ym (mj hx) fun e=>h1 ?_
 have:=Gc hr (iu hv) (iu hx) e
 have h2:x.toaD.Md=1:=hs;rw [this] at h2;exact h2
end
end
section
open Go.RowKit Go.Maps
attribute [local go_sem ↓] Kc Kd
theorem oR (q:af) (n base:Nat) (x:ao) (st now:Int) (o:dN) (w:w_) (h:ap w base q) (hb:base≤w.heap.size) (hr:aQ q.pure) (hx:q.L8[n]? =o_ x) (h0: ¬ x.Md=0) (hn:q.next≤1000000000) (eu:0≤now∧now≤1000000000) (hw: -1≤o.2.2.1∧o.2.2.1≤1000):
  k_ J3 147 #[a_ q.cells,i_ j_ n,i_ j_ st,a_ (j9 o),i_ j_ now] w (jH w base q (mX st o now x.id q.pure)):=by
 have S:=aA (Xf.start (o:=o) h hb);clear h hb
 go_enter func147,ntmps147
 go_upto_region 1 with fail;generalize ((w.alloc (c_ q.cells 38)).alloc (c_ (j9 o) 165)).alloc (c_ ar 38)=A at *;obtain ⟨-,o1,o2,o3⟩:=S.I.op.cells;by_cases hz:o.2.2.1=0
 ·have HE:Hid (mX st o now x.id q.pure=bu 1 x.id q.pure):=if_pos hz
  have e2:(o.2.2.1 == 0)=true:=by simp [hz]
  have Mb:=bB (n:=n) 1 S.I.fr.own S.I.low hr hx h0;clear hz hr hx h0 hn eu hw;go_wp2_with (refine eT 5 S.I.fr.box ?_);refine Mb.mono ?_;clear Mb;rintro e A2 ⟨q2,rfl,hp,ht⟩;replace S:=aA (S.I.call ht);have HP:Hid (q2.pure=_):=hp;clear hp ht;go_wp2_with (refine ec 10 16 q2.cells S.I.an ?_);refine gZ results147 S.I.an ?_;exact mi
 ·have HE:Hid (mX st o now x.id q.pure=kC st o.2.1 o.2.2.2 (kZ now o.2.2.1) x.id q.pure):=if_neg hz
  have e2:(o.2.2.1 == 0)=false:=by simp [hz]
  have Mb:=sT q n base x st o.2.1 o.2.2.1 now o.2.2.2 A S.I.fr.own S.I.low hr hx hn eu hw;clear hz hr hx h0 hn eu hw;go_wp2_with (refine eT 5 S.I.fr.box ?_);refine Mb.mono ?_;clear Mb;rintro e A2 ⟨q2,rfl,hp,ht⟩;replace S:=aA (S.I.call ht);have HP:Hid (q2.pure=_):=hp;clear hp ht;go_wp2_with (refine ec 10 27 q2.cells S.I.an ?_);refine gZ results147 S.I.an ?_;exact mi
end
section
open Go.RowKit
theorem DL {g:aD→Bool} {f:aD→aD} {x:aD} (hf:g (f x)=false) (hx:g x=true): ∀ {l:List aD},l.Pairwise (fun x y=>x.id < y.id)→x∈l→((ce x.id f l).filter g).length+1=(l.filter g).length
 | [],_,h=>by cases h
 | y :: r,hr,h=>by
  rw [List.pairwise_cons] at hr;by_cases e:y=x
  ·subst e
   have h2:ce y.id f (y :: r)=f y :: r:=by
    exact ZbC
   rw [h2];simp [hf,hx]
  ·have hm:x∈r:=by
    rcases Kt.1 h with h1 | h1
    ·exact absurd h1.symm e
    ·exact h1
   have h4:=DL hf hx hr.2 hm;have h5: ¬ y.id=x.id:=by have:=hr.1 x hm; omega
   have h6:ce x.id f (y :: r)=y :: ce x.id f r:=by simp [ce,h5]
   rw [h6];by_cases hy:g y=true
   ·simp only [LN,hy,if_true,Lg]; omega
   ·simp only [LN,hy,Bool.false_eq_true,if_false]; exact h4
section
variable {p:aE} {f:aD→aD} {st on:Int} {v:aD}
theorem qO (h:jl st on p.L8=n_):ff f st on p=p:=by
 unfold ff;rw [Dt h];rfl
theorem zC (hr:aQ p) (hst: ¬ st=0∧ ¬ st=1) (h:jl st on p.L8=o_ v):ff f st on p=ff f st on (gF f p v)∧((gF f p v).L8.filter (ie st on)).length+1=(p.L8.filter (ie st on)).length:=by
 obtain ⟨m1,m2,m3⟩:=ft h;have h1:((gF f p v).L8.filter (ie st on)).length+1=(p.L8.filter (ie st on)).length:=by
  refine DL (f:=fun y=>iY p.next 0 (f y)) ?_ ?_ hr.kW m1
  ·unfold ie iY
   split
   ·show (decide ((0:Int)=st) && _)=false
    rw [decide_eq_false (by omega)]; rfl
   ·show (decide ((1:Int)=st) && _)=false
    rw [decide_eq_false (by omega)]; rfl
  ·unfold ie; simp [m2,m3]
 refine ⟨?_,h1⟩;unfold ff;rw [← h1];simp only [gW,h]
end
structure If (f:aD→aD) (st on:Int) (tgt:aE) (n:Nat) (x:aD) (k:Nat) (q:af) (z:Int):Prop where
 r:aQ q.pure
 pos:q.pure.L8[n]? =o_ x
 nx:q.next+k≤1000000000
 cnt:(q.pure.L8.filter (ie st on)).length=k
 same:ff f st on q.pure=tgt
 best:dO (fun x:aD=>decide (x.Md=st) && decide (x.on=on)) q.pure.L8 q.L8.length z
section
variable {f:aD→aD} {st on z z2:Int} {tgt:aE} {n k i:Nat} {x:aD} {v:ao} {q q2:af}
theorem If.start (hr:aQ q.pure) (hp:q.pure.L8[n]? =o_ x) (hn:q.next≤999999990) (hb:dO (fun x:aD=>decide (x.Md=st) && decide (x.on=on)) q.pure.L8 q.L8.length z):If f st on (ff f st on q.pure) n x (q.pure.L8.filter (ie st on)).length q z:=by
 have h1:(q.pure.L8.filter (ie st on)).length≤q.pure.L8.length:=List.length_filter_le _ _;have h2:=hr.dl;exact ⟨hr,hp,by omega,rfl,rfl,hb⟩
theorem If.step (h:If f st on tgt n x k q z) (hx:x.Md=1) (hst: ¬ st=0∧ ¬ st=1) (hf:f=(fun y=>y)∨ ∃ t,bw t=true∧f=lG t) (hw:jl st on q.pure.L8=o_ v.toaD) (hp:q2.pure=gF f q.pure v.toaD):
  1≤k∧q.next+1≤1000000000∧aQ q2.pure∧ ∀ z2,dO (fun x:aD=>decide (x.Md=st) && decide (x.on=on)) q2.pure.L8 q2.L8.length z2→If f st on tgt n x (k - 1) q2 z2:=by
 obtain ⟨m1,m2,m3⟩:=ft hw;obtain ⟨h1,h2⟩:=zC (f:=f) h.r hst hw;have h3:=h.cnt;have h4:=h.nx;have h5:=mU q.next v.toaD;have h6:q2.next=gf q.next v.toaD:=congrArg aE.next hp;have hr2:aQ q2.pure:=by rw [hp]; exact i9 h.r m1 (by rw [m2]; exact hst.1) hf (by have:q.pure.next=q.next:=rfl; omega)
 refine ⟨by omega,by omega,hr2,fun z2 hb=>⟨hr2,?_,by omega,by rw [hp]; omega,by rw [hp,← h1]; exact h.same,hb⟩⟩;rw [hp];refine ym h.pos fun e=>hst.2 ?_
 have:=Gc h.r m1 (KA h.pos) e
 rw [this,m2] at hx;exact hx
end
end
section
open Go.RowKit Go.Maps
attribute [local go_sem ↓] Kc Kd
theorem dW {q:af} (h:aQ q.pure):q.L8.length≤6∧q.aj.length≤5∧q.L9.length≤5∧q.ag.length≤5∧q.ae.length≤5∧q.ai.length≤5:=by
 have h1:=h.dl;have h2:=h.cb;have h3:=h.dH;simp only [af.pure,List.length_map] at h1 h2 h3;exact ⟨h1,h.fx,h.cD,h.cC,h2,h3⟩
theorem DP {p:aE} {y:bD} (h:aQ p) (hy:y∈p.aj):y.max≤1000:=by
 have h1:=(cK h.aj y hy).2;unfold gw at h1;simp only [J7] at h1;exact (bz.1 h1.1).2
theorem CR (q:af) (n base:Nat) (x:ao) (now:Int) (o:dN) (w:w_) (h:ap w base q) (hb:base≤w.heap.size) (hr:aQ q.pure) (hx:q.L8[n]? =o_ x) (hs:x.Md=1) (hn:q.next≤999999990) (eu:0≤now∧now≤1000000000) (ho:kc o=true) (hk:o.1=3):
  k_ J3 105 #[a_ q.cells,i_ j_ n,a_ (j9 o),i_ j_ now] w (jH w base q (mh o now x.id q.pure)):=by
 obtain ⟨-,f1,f2,f3,f4⟩:=dv ho;have hM:=bz.1 f2;obtain ⟨k,N,M,s⟩:=o;simp only at hk hM f1 f3 f4;subst hk;have HR:=aA (SD hr hx hs hn eu hM);have HF:=aA (dW hr);clear f2 hr hx hs hn eu hM ho;have S:=aA (Xf.start (o:=(3,N,M,s)) h hb);clear h hb
 go_enter func105,ntmps105
 go_upto_region 1 with fail;generalize ((w.alloc (c_ q.cells 38)).alloc (c_ (j9 (3,N,M,s)) 165)).alloc (c_ ar 38)=A at *;obtain ⟨-,o1,-,-⟩:=S.I.op.cells;simp only at o1;have hpf:=ef (num:=fun x:bD=>x.id) N q.aj 0;have Mb:=lw q N A ZcY S.I.fr.own.at;generalize place (q.aj.map (fun x=>x.id)) N 0=z at *;go_wp2_with (refine eT 4 S.I.fr.box ?_);refine Mb.mono ?_;clear Mb;rintro e A2 ⟨rfl,hb2⟩;replace S:=aA (S.I.reads hb2);clear hb2;clear o1;obtain ⟨o0,-,-,-⟩:=S.I.op.cells;simp only at o0;rcases hpf with ⟨hz,hf⟩ | ⟨m,y,hz,hm,hid,hf⟩
 ·subst hz
  have HE:Hid (mh (3,N,M,s) now x.id q.pure=bu 3 x.id q.pure):=by show mh (3,N,M,s) now x.id q.pure=_; unfold mh; rw [show cg (fun x:bD=>x.id) N q.pure.aj=n_ from hf]
  exact g_
 rw [Li] at hz;subst hz;have afO:decide ((m:Int) < 0)=false:=decide_eq_false (by omega);have HM:Hid (q.aj[m]? =o_ y∧y.id=N∧cg (fun x:bD=>x.id) N q.aj=o_ y):=⟨hm,hid,hf⟩
 have hml:=(Lj.1 hm).1;have j0:(0:Int)≤(m:Int):=by omega
 have j1:(m:Int) < (q.aj.length:Int):=by omega
 obtain ⟨Y5,iE,hat⟩:=lQ S.I.fr.own.at.2.1 hm;have m3:=S.I.fr.box.cells.2.2.2.1;rw [iE] at m3;have d1:=hat.2.1;have HG:Hid (q.bc=o_ ⟨Y5,0,n_⟩):=iE;clear hm hid hf hml hat iE;by_cases hn0:y.n=0
 ·have HE:Hid (mh (3,N,M,s) now x.id q.pure=mX 3 (3,N,M,s) now x.id q.pure):=by show mh (3,N,M,s) now x.id q.pure=_; unfold mh; rw [show cg (fun x:bD=>x.id) N q.pure.aj=o_ y from HM.I.2.2]; exact if_pos hn0
  have e1:(y.n == 0)=true:=by simp [hn0]
  have Mb:=oR q n base x 3 now (3,N,M,s) A2 S.I.fr.own S.I.low HR.I.1 HR.I.2.1 Zc0 Zdh HR.I.2.2.2.2.1 HR.I.2.2.2.2.2;clear hn0;go_wp2_with (first | (refine eT 4 S.I.fr.box ?_) | (refine wpList_load_row rfl 165 (.tmp 6) rfl (w.heap.size+1) (by rfl) 165 (j9 (3,N,M,s)) (0,0) _ S.I.op underlying165 rfl ZcR ?_));refine Mb.mono ?_;clear Mb;rintro e A2 ⟨q2,rfl,hp,ht⟩;replace S:=aA (S.I.call ht);have HP:Hid (q2.pure=_):=hp;clear hp ht;go_wp2_with (refine ec 8 48 q2.cells S.I.an ?_);refine gZ results105 S.I.an ?_;exact mi
 have HE:Hid (mh (3,N,M,s) now x.id q.pure=bu 0 x.id (nZ N (-1) q.pure)):=by show mh (3,N,M,s) now x.id q.pure=_; unfold mh; rw [show cg (fun x:bD=>x.id) N q.pure.aj=o_ y from HM.I.2.2]; exact if_neg hn0
 have e1:(y.n == 0)=false:=by simp [hn0]
 have HN:Hid (¬ y.n=0):=hn0;clear hn0;go_upto_region 10 with fail;replace S:=aA (S.I.reads (Kp _ _).drew);refine eD (fun w1=>w1=A2.drew) 12 ZcR rfl ?_;generalize A2.drew=B at *;clear m3 d1;have m3:=S.I.fr.box.cells.2.2.2.1;rw [HG.I] at m3;obtain ⟨ga2,iE,hat⟩:=lQ S.I.fr.own.at.2.1 HM.I.1;rw [HG.I] at iE;cases iE;have d1:=hat.2.1;clear hat;obtain ⟨s1,⟨u,c⟩,f⟩:=uR (n:=m) (j:=1) (v:=i_ j_ (y.n - 1)) (y:= { y with n:=y.n - 1 }) S.I.fr.own HM.I.1 HG.I (by decide) rfl;have hk:=pw (o:=(3,N,M,s)) HR.I.1 HM.I.2.2;have n0:=hk.2.1;have n1:=hk.2.2;have n2:y.max≤1000:=DP HR.I.1 (KA HM.I.1);clear hk;have hw:IntKind.wrap j_ (y.n - 1)=y.n - 1:=by rw [K8]; have:=HN.I; omega
 replace S:=aA (S.I.call s1);clear s1
 iterate 12 (refine ly 13 (v:= ?_) (o_ _) rfl rfl ZcR (fun _ _ _ h=>h) (bV ZcR ?_) ?_; rotate_left; (intro w0 hS0; subst hS0; go_simp; try with_reducible rfl); simp only [pt,sb,s0,s1])
 refine fL rfl ZcR ZcR ZcR ?_;intro w1 cm;rw [cm];clear cm w1
 go_simp
 generalize B.setCell ⟨Y5,m * 3+1,n_⟩ (i_ j_ (y.n - 1))=C at *;clear m3 d1 c f u;have hq:({ q with aj:=q.aj.set m { y with n:=y.n - 1 } } :af).pure=nZ N (-1) q.pure:=by show ({ q.pure with aj:=q.aj.set m { y with n:=y.n - 1 } } :aE)=_; unfold nZ; rw [jF (num:=fun x:bD=>x.id) (db HR.I.1.aj).2 HM.I.1 HM.I.2.1]; rfl
 have hr2:aQ (nZ N (-1) q.pure):=mx HR.I.1 fun z hz hk=>by rw [only HR.I.1.aj HM.I.2.2 hz hk]; have:=HN.I; omega
 rw [← hq] at hr2;have Mb:=bB (n:=n) 0 S.I.fr.own S.I.low hr2 HR.I.2.1 Zc0;rw [hq,show af.cells ({ q with aj:=q.aj.set m { y with n:=y.n - 1 } } :af)=q.cells by unfold af.cells; simp] at Mb;clear hq hr2 n0 n1 n2 hw;exact Zcc
theorem zE (q:af) (n base:Nat) (x:ao) (now:Int) (o:dN) (w:w_) (h:ap w base q) (hb:base≤w.heap.size) (hr:aQ q.pure) (hx:q.L8[n]? =o_ x) (hs:x.Md=1) (hn:q.next≤999999990) (eu:0≤now∧now≤1000000000) (ho:kc o=true) (hk:o.1=4):
  k_ J3 105 #[a_ q.cells,i_ j_ n,a_ (j9 o),i_ j_ now] w (jH w base q (gJ o x.id q.pure)):=by
 obtain ⟨-,f1,f2,f3,f4⟩:=dv ho;have hM:=bz.1 f2;obtain ⟨k,N,M,s⟩:=o;simp only at hk hM f1 f3 f4;subst hk;have HR:=aA (SD hr hx hs hn eu hM);have HF:=aA (dW hr);clear f2 hr hx hs hn eu hM ho;have S:=aA (Xf.start (o:=(4,N,M,s)) h hb);clear h hb
 go_enter func105,ntmps105
 go_upto_region 1 with fail;generalize ((w.alloc (c_ q.cells 38)).alloc (c_ (j9 (4,N,M,s)) 165)).alloc (c_ ar 38)=A at *;obtain ⟨-,o1,-,-⟩:=S.I.op.cells;simp only at o1;have hpf:=ef (num:=fun x:bD=>x.id) N q.aj 0;have Mb:=lw q N A ZcY S.I.fr.own.at;generalize place (q.aj.map (fun x=>x.id)) N 0=z at *;go_wp2_with (refine eT 4 S.I.fr.box ?_);refine Mb.mono ?_;clear Mb;rintro e A2 ⟨rfl,hb2⟩;replace S:=aA (S.I.reads hb2);clear hb2;clear o1;obtain ⟨o0,o1,-,-⟩:=S.I.op.cells;simp only at o0 o1;rcases hpf with ⟨hz,hf⟩ | ⟨m,y,hz,hm,hid,hf⟩
 ·subst hz
  have HE:Hid (gJ (4,N,M,s) x.id q.pure=bu 3 x.id q.pure):=by show gJ (4,N,M,s) x.id q.pure=_; unfold gJ; rw [show cg (fun x:bD=>x.id) N q.pure.aj=n_ from hf]
  exact g_
 rw [Li] at hz;subst hz;have afO:decide ((m:Int) < 0)=false:=decide_eq_false (by omega);have HM:Hid (q.aj[m]? =o_ y∧y.id=N∧cg (fun x:bD=>x.id) N q.aj=o_ y):=⟨hm,hid,hf⟩
 have hml:=(Lj.1 hm).1;have j0:(0:Int)≤(m:Int):=by omega
 have j1:(m:Int) < (q.aj.length:Int):=by omega
 clear hm hid hf hml;have Mb:=ij q 3 N A2 ZcY S.I.fr.own.at;go_wp2_with (refine eT 4 S.I.fr.box ?_);refine Mb.mono ?_;clear Mb o0 o1 afO;rintro e A3 ⟨⟨z,rfl,gV⟩,hb2⟩;replace S:=aA (S.I.reads hb2);clear hb2;rcases pp gV with ⟨hz,hw⟩ | ⟨i,v,hz,hi,hw⟩
 ·have HW:Hid (jl 3 N q.pure.L8=n_):=hw
  have afO:decide (z≥0)=false:=decide_eq_false (by omega);clear gV hz hw;obtain ⟨Y5,iE,hat⟩:=lQ S.I.fr.own.at.2.1 HM.I.1;have m3:=S.I.fr.box.cells.2.2.2.1;rw [iE] at m3;have d1:=hat.2.1;have d2:=hat.2.2;have HG:Hid (q.bc=o_ ⟨Y5,0,n_⟩):=iE;clear hat iE;go_upto_region 15 with fail;clear afO;replace S:=aA (S.I.reads (Kp _ _).drew);refine aT (fun w1=>w1=A3.drew) ZcR rfl ?_;generalize A3.drew=B at *;clear m3 d1 d2;have m3:=S.I.fr.box.cells.2.2.2.1;rw [HG.I] at m3;obtain ⟨ga2,iE,hat⟩:=lQ S.I.fr.own.at.2.1 HM.I.1;rw [HG.I] at iE;cases iE;have d1:=hat.2.1;have d2:=hat.2.2;clear hat
  iterate 13 (refine agj ?_)
  refine bk ZcR ?_ _;intro w1 cm;rw [cm];clear cm w1;have HU:Hid (gJ (4,N,M,s) x.id q.pure=if y.n=y.max then bu 1 x.id q.pure else bu 0 x.id (nZ N 1 q.pure)):=by show gJ (4,N,M,s) x.id q.pure=_; unfold gJ; rw [show cg (fun x:bD=>x.id) N q.pure.aj=o_ y from HM.I.2.2]; dsimp only; rw [HW.I]
  by_cases hx0:y.n=y.max
  ·have HE:Hid (gJ (4,N,M,s) x.id q.pure=bu 1 x.id q.pure):=HU.I.trans (if_pos hx0)
   have e1:(y.n == y.max)=true:=by simp [hx0]
   have Mb:=bB (n:=n) 1 S.I.fr.own S.I.low HR.I.1 HR.I.2.1 Zc0;clear hx0 m3 d1 d2;go_wp2_with (refine eT 4 S.I.fr.box ?_);refine Mb.mono ?_;clear Mb;rintro e A2 ⟨q2,rfl,hp,ht⟩;replace S:=aA (S.I.call ht);have HP:Hid (q2.pure=_):=hp;clear hp ht;go_wp2_with (refine ec 8 89 q2.cells S.I.an ?_);refine gZ results105 S.I.an ?_;exact mi
  have HE:Hid (gJ (4,N,M,s) x.id q.pure=bu 0 x.id (nZ N 1 q.pure)):=HU.I.trans (if_neg hx0);have e1:(y.n == y.max)=false:=by simp [hx0]
  have HN:Hid (¬ y.n=y.max):=hx0;clear hx0 d2;go_upto_region 17 with fail;clear e1;replace S:=aA (S.I.reads (Kp _ _).drew);refine eD (fun w1=>w1=B.drew) 12 ZcR rfl ?_;generalize B.drew=B2 at *;clear m3 d1;have m3:=S.I.fr.box.cells.2.2.2.1;rw [HG.I] at m3;obtain ⟨ga2,iE,hat⟩:=lQ S.I.fr.own.at.2.1 HM.I.1;rw [HG.I] at iE;cases iE;have d1:=hat.2.1;clear hat;obtain ⟨s1,⟨u,c⟩,f⟩:=uR (n:=m) (j:=1) (v:=i_ j_ (y.n+1)) (y:= { y with n:=y.n+1 }) S.I.fr.own HM.I.1 HG.I (by decide) rfl;have hk:=pw (o:=(4,N,M,s)) HR.I.1 HM.I.2.2;have n0:=hk.2.1;have n1:=hk.2.2;have n2:y.max≤1000:=DP HR.I.1 (KA HM.I.1);clear hk;have hw:IntKind.wrap j_ (y.n+1)=y.n+1:=by rw [K8]; have:=HN.I; omega
  replace S:=aA (S.I.call s1);clear s1
  iterate 12 (refine ly 13 (v:= ?_) (o_ _) rfl rfl ZcR (fun _ _ _ h=>h) (bV ZcR ?_) ?_; rotate_left; (intro w0 hS0; subst hS0; go_simp; try with_reducible rfl); simp only [pt,sb,s0,s1])
  refine fL rfl ZcR ZcR ZcR ?_;intro w1 cm;rw [cm];clear cm w1
  go_simp
  generalize B2.setCell ⟨Y5,m * 3+1,n_⟩ (i_ j_ (y.n+1))=C at *;clear m3 d1 c f u;have hq:({ q with aj:=q.aj.set m { y with n:=y.n+1 } } :af).pure=nZ N (1) q.pure:=by show ({ q.pure with aj:=q.aj.set m { y with n:=y.n+1 } } :aE)=_; unfold nZ; rw [jF (num:=fun x:bD=>x.id) (db HR.I.1.aj).2 HM.I.1 HM.I.2.1]; rfl
  have hr2:aQ (nZ N (1) q.pure):=mx HR.I.1 fun z hz hk=>by rw [only HR.I.1.aj HM.I.2.2 hz hk]; have:=HN.I; omega
  rw [← hq] at hr2;have Mb:=bB (n:=n) 0 S.I.fr.own S.I.low hr2 HR.I.2.1 Zc0;rw [hq,show af.cells ({ q with aj:=q.aj.set m { y with n:=y.n+1 } } :af)=q.cells by unfold af.cells; simp] at Mb;clear hq hr2 n0 n1 n2 hw;exact Zcc
 have HW:Hid (jl 3 N q.pure.L8=o_ v.toaD∧q.L8[i]? =o_ v∧v.Md=3):=⟨hw,hi,(ft hw).2.1⟩
 subst hz;have afO:decide ((i:Int)≥0)=true:=decide_eq_true (by omega);have hnx:=HR.I.2.2.2.1;clear gV hw hi;have HE:Hid (gJ (4,N,M,s) x.id q.pure=bu 0 x.id (gF (fun y=>y) q.pure v.toaD)):=by show gJ (4,N,M,s) x.id q.pure=_; unfold gJ; rw [show cg (fun x:bD=>x.id) N q.pure.aj=o_ y from HM.I.2.2]; dsimp only; rw [HW.I.1]
 have Mb:=lP (n:=i) S.I.fr.own S.I.low HR.I.1 HW.I.2.1 Zc7 (by omega);go_wp2_with (refine eT 4 S.I.fr.box ?_);refine Mb.mono ?_;clear Mb;rintro e afT ⟨q2,rfl,hp,ht⟩;replace S:=aA (S.I.call ht);obtain ⟨hr2,x2,hx2,sw⟩:=qp HR.I.1 HR.I.2.1 HR.I.2.2.1 HW.I.2.1 Zc7 Zc7 (.inl rfl) (by omega) hp;have Mb:=bB (n:=n) 0 S.I.fr.own S.I.low hr2 hx2 ZcZ;rw [show x2.id=x.id from congrArg aD.id sw,hp,← HE.I] at Mb;clear hp ht hr2 hx2 sw afO hnx;go_wp2_with fail;refine Mb.mono ?_;clear Mb;rintro e A42 ⟨q3,rfl,hp,ht⟩;replace S:=aA (S.I.call ht);have HP:Hid (q3.pure=_):=hp;clear hp ht;go_wp2_with (refine ec 8 73 q3.cells S.I.an ?_);refine gZ results105 S.I.an ?_;exact ⟨q3,rfl,HP.I,S.I.done _⟩
end
section
open Go.RowKit Go.Maps
section
variable {w W:w_} {base n gs:Nat} {q:af}
theorem mB {x:au} {l:List ByteArray} {a:Option d_} {c:Nat} (h:ap w base q) (hb:aI w W (blk x.ak)) (hx:q.ae[n]? =o_ x) (ha:q.am=o_ ⟨gs,0,n_⟩) (ho:W.ownsRow base 9 1 (s_ a l.length c) l.length (bT.flat l)) (hf: ∀ g∈blk a,g∈blk x.ak∨w.heap.size≤g):
  yr w base q ({ q with ae:=q.ae.set n { x with Ma:=l,ak:=a,aq:=c } } :af) (W.setCell ⟨gs,n * 3+2,n_⟩ (s_ a l.length c))∧(∃ u,W.cell? ⟨gs,n * 3+2,n_⟩=o_ u)∧W.frozen? ⟨gs,n * 3+2,n_⟩=false:=by
 have hn:n < q.ae.length:=(Lj.1 hx).1;have hset:q.ae.set n { x with Ma:=l,ak:=a,aq:=c } =q.ae.take n ++ { x with Ma:=l,ak:=a,aq:=c } :: q.ae.drop (n+1):=by rw [List.set_eq_take_append_cons_drop,if_pos hn]
 have hk: ∀ (z:au) (A B:List au),(A ++ z :: B).filterMap aC.bt=A.filterMap aC.bt ++ ((aC.bt z).toList ++ B.filterMap aC.bt):=fun z A B=>by
  rw [List.filterMap_append,List.filterMap_cons];cases aC.bt z <;> simp
 have h6:q.ae.filterMap aC.bt=(q.ae.take n).filterMap aC.bt ++ ((aC.bt x).toList ++ (q.ae.drop (n+1)).filterMap aC.bt):=(congrArg (List.filterMap aC.bt) (kL hx)).trans (hk _ _ _);obtain ⟨P1,uZ⟩: ∃ P1,P1=blk q.aN ++ (q.L8.filterMap aR.bt ++ (blk q.bc ++ (blk q.ay ++ (blk q.ax ++ blk q.am)))) ++ (q.ae.take n).filterMap aC.bt:=⟨_,rfl⟩
 obtain ⟨P2,IQ⟩: ∃ P2,P2=(q.ae.drop (n+1)).filterMap aC.bt ++ (blk q.aK ++ q.ai.filterMap aU.bt):=⟨_,rfl⟩
 have e1:q.Mc=P1 ++ ((aC.bt x).toList ++ P2):=by rw [uZ,IQ]; simp only [af.Mc,h6,Lm]
 have e2:({ q with ae:=q.ae.set n { x with Ma:=l,ak:=a,aq:=c } } :af).Mc=P1 ++ ((a.map (·.block)).toList ++ P2):=by
  rw [uZ,IQ];simp only [af.Mc,hset,hk,Lm];rfl
 have hkx: ∀ g,g∈blk x.ak↔g∈(aC.bt x).toList:=fun g=>Iff.rfl
 have Dl:=h.nodup;rw [e1] at Dl;have hP: ∀ g,g∈P1∨g∈P2→g∉blk x.ak:=fun g hg hm=>by
  exact ZaW
 have hin: ∀ g,g∈P1∨g∈P2→g∈q.Mc:=fun g hg=>by
  rw [e1];rcases hg with hg | hg
  ·exact Lz _ hg
  ·exact Ly _ (Ly _ hg)
 have hgl:gs∈blk q.am:=by rw [ha]; simp [blk]
 have hgP:gs∈P1:=by rw [uZ]; simp [hgl]
 have hsW: ∀ g,g∈P1∨g∈P2→W.heap[g]? =w.heap[g]? :=fun g hg=>hb.same g (h.lt g (hin g hg)).2 (hP g hg)
 have hrow:=aL h.ae fun g hg=>hsW g (.inl Zc6)
 obtain ⟨h1,h2,h3⟩:=rn (K:=bm) (y:= { x with Ma:=l,ak:=a,aq:=c }) (v:=s_ a l.length c) hrow hx ha (show 2 < 3 by decide) rfl;refine ⟨?_,h3⟩;have hnd:({ q with ae:=q.ae.set n { x with Ma:=l,ak:=a,aq:=c } } :af).Mc.Nodup:=by
  exact Zan
 have hs: ∀ g,g≠gs→(W.setCell ⟨gs,n * 3+2,n_⟩ (s_ a l.length c)).heap[g]? =W.heap[g]? :=fun g hg=>aH hg
 have hsp:q.Mc=(blk q.aN ++ (q.L8.filterMap aR.bt ++ (blk q.bc ++ (blk q.ay ++ blk q.ax)))) ++ (blk q.am ++ (q.ae.filterMap aC.bt ++ (blk q.aK ++ q.ai.filterMap aU.bt))):=by simp [af.Mc,Lm]
 have nw: ∀ g,(g∈(blk q.aN ++ (q.L8.filterMap aR.bt ++ (blk q.bc ++ (blk q.ay ++ blk q.ax))))∨g∈(q.ae.filterMap aC.bt ++ (blk q.aK ++ q.ai.filterMap aU.bt)))→g≠gs:=fun g hg he=>by
  exact ZaN
 have hall: ∀ g,g∈P1∨g∈P2→g≠gs→(W.setCell ⟨gs,n * 3+2,n_⟩ (s_ a l.length c)).heap[g]? =w.heap[g]? :=fun g hg hne=>(hs g hne).trans (hsW g hg)
 refine ⟨⟨aL h.L8 fun g hg=>hall g (.inl Zc6) (nw g (.inl Zdj)),aL h.aj fun g hg=>hall g (.inl Zc6) (nw g (.inl Zdj)),aL h.L9 fun g hg=>hall g (.inl Zc6) (nw g (.inl Zdj)),aL h.ag fun g hg=>hall g (.inl Zc6) (nw g (.inl Zdj)),(by show (W.setCell _ _).ownsRow _ _ _ (s_ _ (List.set _ _ _).length _) (List.set _ _ _).length _; rw [List.length_set]; exact h1),aL h.ai fun g hg=>hall g (.inr (by rw [IQ]; simp [hg])) (nw g (.inr Zdj)),fun z hz=>(h.eI z hz).same fun g hg=>hall g (.inl ZdC) (nw g (.inl ZdN)),?_,?_,hnd⟩,⟨hb.os,hb.tape,hb.output,by rw [ja]; exact hb.size,fun g hg hm=>(hs g fun e=>hm (e ▸ hin gs (.inl hgP))).trans (hb.same g hg fun hx=>hm ZdK)⟩,fun g hg=> ?_⟩
 ·intro z hz
  rw [hset] at hz;rcases Kg.1 hz with hz | hz
  ·exact (h.eE z (RK hz)).same fun g hg=>hall g (.inl (by rw [uZ]; exact Ly _ (dP.2 ⟨z,hz,hg⟩))) (nw g (.inr (by simp only [Kg]; exact .inl (dP.2 ⟨z,RK hz,hg⟩))))
  ·rcases Kt.1 hz with rfl | hz
   ·exact Zaw
   ·exact (h.eE z (RL hz)).same fun g hg=>hall g (.inr (by rw [IQ]; exact Lz _ (dP.2 ⟨z,hz,hg⟩))) (nw g (.inr (by simp only [Kg]; exact .inl (dP.2 ⟨z,RL hz,hg⟩))))
 ·intro z hz
  exact (h.eR z hz).same fun g hg=>hall g (.inr (by rw [IQ]; simp only [Kg]; exact .inr (.inr (dP.2 ⟨z,hz,hg⟩)))) (nw g (.inr (by simp only [Kg]; exact .inr (.inr (dP.2 ⟨z,hz,hg⟩)))))
 ·exact Zav
theorem IY {m Y5 gp g:Nat} {y:au} (h:ap W base q) (hy:q.ae[m]? =o_ y) (iE:q.am=o_ ⟨Y5,0,n_⟩) (l9:q.aN=o_ ⟨gp,0,n_⟩) (hg:g∈blk y.ak):g∈q.Mc∧g≠Y5∧g≠gp∧Y5≠gp:=by
 have hk:g∈q.ae.filterMap aC.bt:=dP.2 ⟨y,KA hy,fZ.1 hg⟩;have h1:=h.nodup;have e:q.Mc=blk q.aN ++ ((q.L8.filterMap aR.bt ++ (blk q.bc ++ (blk q.ay ++ blk q.ax))) ++ (blk q.am ++ (q.ae.filterMap aC.bt ++ (blk q.aK ++ q.ai.filterMap aU.bt)))):=by simp [af.Mc,Lm]
 rw [e] at h1;obtain ⟨-,h2,h3⟩:=Kf.1 h1;obtain ⟨-,h4,-⟩:=Kf.1 h2;obtain ⟨-,-,h5⟩:=Kf.1 h4;have ma:Y5∈blk q.am:=by rw [iE]; simp [blk]
 have mp:gp∈blk q.aN:=by rw [l9]; simp [blk]
 exact ⟨by rw [e]; simp only [Kg]; exact .inr (.inr (.inr (.inl hk))),fun e=>h5 Y5 ma g (Lz _ hk) e.symm,fun e=>h3 gp mp g (by simp only [Kg]; exact .inr (.inr (.inl hk))) e.symm,fun e=>h3 gp mp Y5 (by simp only [Kg]; exact .inr (.inl ma)) e.symm⟩
theorem oN {x:au} {l:List ByteArray} {a:Option d_} {c:Nat} {N:Int} {ok:ci→Bool} {last:Int} (hr:aw (·.id) ok last q.pure.ae=true) (hx:q.ae[n]? =o_ x) (hN:x.id=N):({ q with ae:=q.ae.set n { x with Ma:=l,ak:=a,aq:=c } } :af).pure=cV N l q.pure:=by
 have hx':q.pure.ae[n]? =o_ x.toci:=by show (q.ae.map (·.toci))[n]? =_; rw [Kk,hx]; rfl
 unfold cV;rw [jF (num:=fun x:ci=>x.id) (db hr).2 hx' hN]
 show ({ q.pure with ae:=(q.ae.set n { x with Ma:=l,ak:=a,aq:=c }).map (·.toci) } :aE)=_
 rw [PN];rfl
theorem sq {x:aM} {l:List ByteArray} {a:Option d_} {c:Nat} {N:Int} {ok:dS→Bool} {last:Int} (hr:aw (·.id) ok last q.pure.ai=true) (hx:q.ai[n]? =o_ x) (hN:x.id=N):({ q with ai:=q.ai.set n { x with Ma:=l,ak:=a,aq:=c } } :af).pure=gU N l q.pure:=by
 have hx':q.pure.ai[n]? =o_ x.todS:=by show (q.ai.map (·.todS))[n]? =_; rw [Kk,hx]; rfl
 unfold gU;rw [jF (num:=fun x:dS=>x.id) (db hr).2 hx' hN]
 show ({ q.pure with ai:=(q.ai.set n { x with Ma:=l,ak:=a,aq:=c }).map (·.todS) } :aE)=_
 rw [PN];rfl
end
end
end Go.Proofs.YtnlbiglljiopmaaGreatDoor
