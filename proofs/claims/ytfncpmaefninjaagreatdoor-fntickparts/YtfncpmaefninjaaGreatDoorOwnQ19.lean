/- What the proof leans on, part 19. -/
import Derived.Test.YtfncpmaefninjaaGreatDoorOwnQ16
import Derived.Test.YtfncpmaefninjaaGreatDoorOwnQ17
set_option linter.all false
set_option maxRecDepth 100000
set_option maxHeartbeats 8000000
open Go.Proofs.Tryz
open Go renaming World->w_,Value->v_,Calls->k_,Addr->d_,TypeId->T_,below_setRow->q_
open Go.Ending renaming returned->r_
open Go.IntKind renaming i64->j_
open Go.Obj renaming cells->c_
open Go.RowKit renaming Below->B_,Hid->bN
open Go.Value renaming int->i_,slice->s_,bool->b_,string->t_,agg->a_,pointer->p_,tuple->u_
open Option renaming some->o_,none->n_
open Function renaming comp_def->Ls
open Go renaming wp_at_succ->Kd,wp_at_zero->Kc
open Go.Proofs.Tryz renaming prog->J3
open List renaming filterMap_cons->LH,getElem_cons_succ->K1,getElem_cons_zero->K0,getElem_toArray->KZ
open Option renaming map_some->J9

open Go.RowKit
namespace Go.Proofs.YtfncpmaefninjaaGreatDoor
section
open Go.Maps
attribute [local go_sem ↓] Kc Kd
def cJ.SA {w w':w_} {bj o g:Nat} {S:aZ} {f:ao->ao} {nx:Int} (h:cJ w bj o S) (hf: ∀ x,(f x).id=x.id/\(f x).prog=x.prog/\(f x).aY=x.aY/\(f x).bH=x.bH)
  (hc: ∀ p∈S.lp,p.2=g->w'.heap[g]? =o_ (c_ (aX (f p.1)) 41)) (hg:g∈S.lp.map (·.2)) (ho:fa w' o { S.q with next:=nx }) (hs: ∀ b∈S.boxes ++ S.kids,b≠g->b≠o->w'.heap[b]? =w.heap[b]?):cJ w' bj o (S.ju g f nx):=by
 have iH: ∀ x,aR.bt (f x)=aR.bt x:=fun x=>by show (f x).aY.map (·.block)=x.aY.map (·.block); rw [(hf x).2.2.1]
 have hn:=h.nodup;have hno:=(Lp.1 hn).1;have yD:=(Kf.1 (Lp.1 hn).2)
 have jQ:=yD.1;unfold aZ.boxes at jQ;have hin: ∀ b,b∈S.boxes\/b∈S.kids->b≠o:=fun b hb e=>hno (by rw [<- e]; exact Kg.2 hb)
 have hp:=Kf.1 jQ;have l9:g∈S.q.bp :: S.lp.map (·.2):=LB _ hg;have hgr: ∀ b,b∈((S.q.bs :: S.ls.map (·.2)) ++ ((S.q.be :: S.le.map (·.2)) ++ ((S.q.bb :: S.lb.map (·.2)) ++ ((S.q.bf :: S.lf.map (·.2)) ++ (S.q.bq :: S.lq.map (·.2))))))->b≠g:=fun b hb e=>hp.2.2 g l9 b hb e.symm
 have EI: ∀ b∈S.kids,b≠g:=fun b hb e=>yD.2.2 g (by unfold aZ.boxes; exact Lz _ l9) b hb e.symm
 have hbp:S.q.bp≠g:=fun e=>by
  have:=(Lp.1 hp.1).1
  rw [e] at this;exact this hg
 have lW: ∀ b,b∈(S.q.bp :: S.lp.map (·.2))->b≠o:=fun b hb=>hin b (.inl (by unfold aZ.boxes; exact Lz _ hb))
 have hbr: ∀ b,b∈((S.q.bs :: S.ls.map (·.2)) ++ ((S.q.be :: S.le.map (·.2)) ++ ((S.q.bb :: S.lb.map (·.2)) ++ ((S.q.bf :: S.lf.map (·.2)) ++ (S.q.bq :: S.lq.map (·.2))))))->w'.heap[b]? =w.heap[b]? :=fun b hb=>hs b (Lz _ Zdf) (hgr b hb) (hin b (.inl Zdf))
 have hkk: ∀ b∈S.kids,w'.heap[b]? =w.heap[b]? :=fun b hb=>hs b (Ly _ hb) (EI b hb) (hin b (.inr hb))
 have hmem: ∀ (b:Nat),(b∈kids aR S.lp\/b∈kids aC S.lf\/b∈kids aU S.lq)->b∈S.kids:=fun b hb=>by simp only [aZ.kids,Kg]; exact hb
 refine ⟨ho,h.L8.sU (fun p _ _=>(hf p.1).1) hc (hs _ (Lz _ (by unfold aZ.boxes; exact Lz _ zw)) hbp (lW _ zw)) (fun b hb hne=>hs b (Lz _ (by unfold aZ.boxes; exact Lz _ (LB _ hb))) hne (lW b (LB _ hb))),h.aj.same fun b hb=>hbr b (Lz _ hb),h.L9.same fun b hb=>hbr b (Ly _ (Lz _ hb)),h.ag.same fun b hb=>hbr b (Ly _ (Ly _ (Lz _ hb))),h.ae.same fun b hb=>hbr b (Ly _ (Ly _ (Ly _ (Lz _ hb)))),h.ai.same fun b hb=>hbr b (Ly _ (Ly _ (Ly _ (Ly _ hb)))),fun p hp'=> ?_,fun p hp'=>(h.eE p hp').same fun b hb=>hkk b (hmem b (.inr (.inl (Lq.2 ⟨p,hp',hb⟩)))),fun p hp'=>(h.eR p hp').same fun b hb=>hkk b (hmem b (.inr (.inr (Lq.2 ⟨p,hp',hb⟩)))),?_,h.low⟩
 .exact Q4
 .exact ZaM
def aZ.Sb {S:aZ} {g:Nat} {x:ao} {f:ao->ao} {f':aD->aD} {nx:Int} (Sw:S.pure.L8.Pairwise (fun x y=>x.id < y.id)) (hn: ∀ p∈S.lp,p.2=g->p=(x,g)) (hx:(x,g)∈S.lp) (hf: ∀ y,(f y).toaD=f' y.toaD):
  (S.ju g f nx).pure= { S.pure with next:=nx,L8:=ce x.id f' S.pure.L8 } :=by
 have key:(sU g f S.lp).map (·.1.toaD)=ce x.id f' (S.lp.map (·.1.toaD)):=by
  unfold sU ce;rw [Lv,Lv];refine Lw fun p hp=> ?_
  simp only [Ls];by_cases hg:p.2=g
  .have hpx:=hn p hp hg
   subst hpx;rw [if_pos rfl,if_pos rfl];exact hf x
  .rw [if_neg hg]
   have hne: ¬ p.1.toaD.id=x.id:=fun e=>by
    have h5:S.pure.L8.Pairwise (fun a b=>a.id < b.id):=Sw;have h6:(S.lp.map (·.1.toaD)).Pairwise (fun a b=>a.id < b.id):=h5;rw [Qm] at h6;obtain ⟨i,hi⟩:=List.mem_iff_getElem?.1 hp;obtain ⟨j,hj⟩:=List.mem_iff_getElem?.1 hx;obtain ⟨hi1,rfl⟩:=Lj.1 hi;obtain ⟨DS,hj2⟩:=Lj.1 hj;rw [P8] at h6;have OG:(S.lp[j]).1.id=x.id:=by rw [hj2]
    rcases P9 i j with hlt | heq | hgt
    .have h7:(S.lp[i]).1.id < (S.lp[j]).1.id:=h6 i j hi1 DS hlt
     have h8:(S.lp[i]).1.id=x.id:=e;omega
    .subst heq; exact hg (by rw [hj2])
    .have h7:(S.lp[j]).1.id < (S.lp[i]).1.id:=h6 j i DS hi1 hgt
     have h8:(S.lp[i]).1.id=x.id:=e;omega
   rw [if_neg hne]
 show ({ S.pure with next:=nx,L8:=(sU g f S.lp).map (·.1.toaD) } :aE)=_
 rw [key];rfl
def aI.row {w:w_} {g:Nat} {cs:Array v_} :aI w (w.drew.setRow g cs) [g] :=by
 have h:=q_ (g:=g) (Kp 0 w).drew (Ky _) cs;exact ⟨h.os,h.tape,h.output,h.size,fun b _ hn=>KH _ _ _ _ (by simpa using hn)⟩
def Sj (g:Nat) (x:ao) (code:Int) (w:w_) (h:w.heap[g]? =o_ (c_ (aX x) 41)) (hpc:0<=x.pc/\x.pc < x.prog.length) (hl:x.prog.length<=1048576):
  k_ J3 103 #[p_ (o_ ⟨g,0,n_⟩),i_ j_ code] w fun e w'=>e=r_ (u_ #[])/\w'.heap[g]? =o_ (c_ (aX (fE code x)) 41)/\aI w w' [g] :=by
 have h1:(w.setCell ⟨g,10,n_⟩ (i_ j_ code)).heap[g]? =o_ (c_ (aX ({ x with code:=code } :ao)) 41):=cx (i:=10) (v:=i_ j_ code) h;have h2:((w.setCell ⟨g,10,n_⟩ (i_ j_ code)).setCell ⟨g,4,n_⟩ (i_ j_ (x.pc+1))).heap[g]? =o_ (c_ (aX ({ x with code:=code,pc:=x.pc+1 } :ao)) 41):=cx (i:=4) (v:=i_ j_ (x.pc+1)) h1;have qF:w.cell? ⟨g,10,n_⟩=o_ (i_ j_ x.code):=(bo h).2.2.2.2.2.2.2.2.2.2.1;have f10:w.frozen? ⟨g,10,n_⟩=false:=Ko _ _ _ _ _ h;have c4:(w.setCell ⟨g,10,n_⟩ (i_ j_ code)).cell? ⟨g,4,n_⟩=o_ (i_ j_ x.pc):=(bo h1).2.2.2.2.1;have f4:(w.setCell ⟨g,10,n_⟩ (i_ j_ code)).frozen? ⟨g,4,n_⟩=false:=Ko _ _ _ _ _ h1;obtain ⟨r0,r1,r2,r3,r4,r5,r6,r7,r8,r9,Ju,Jq⟩:=bo h2;have H2:bN (((w.setCell ⟨g,10,n_⟩ (i_ j_ code)).setCell ⟨g,4,n_⟩ (i_ j_ (x.pc+1))).heap[g]? =o_ (c_ (aX ({ x with code:=code,pc:=x.pc+1 } :ao)) 41)/\aI w ((w.setCell ⟨g,10,n_⟩ (i_ j_ code)).setCell ⟨g,4,n_⟩ (i_ j_ (x.pc+1))) [g]):=⟨h2,aI.cell.trans aI.cell⟩
 have Mb:=kn ({ x with code:=code,pc:=x.pc+1 } :ao) ((w.setCell ⟨g,10,n_⟩ (i_ j_ code)).setCell ⟨g,4,n_⟩ (i_ j_ (x.pc+1))) hl;obtain ⟨n0,n1⟩:=hpc;have n2:x.pc<=1048576:=zo
 have hv:dU ({ x with code:=code,pc:=x.pc+1 } :ao).toaD=decide (¬ x.pc+1=x.prog.length):=by
  show cv (x.pc+1) 0 ((x.prog.length:Int) - 1)=_
  by_cases e:x.pc+1=x.prog.length
  .rw [decide_eq_false (by simpa using e)]
   cases h5:cv (x.pc+1) 0 ((x.prog.length:Int) - 1) with
   | false=>rfl
   | true=>have:=bz.1 h5; omega
  .rw [decide_eq_true e]
   exact bz.2 zo
 rw [hv] at Mb;simp only [aX] at Mb;clear hv h h1 h2 hl n1
 go_enter func103,ntmps103
 go_wp2_with fail;clear qF f10 c4 f4 r0 r1 r2 r3 r4 r5 r6 r7 r8 r9 Ju Jq;refine Mb.mono ?_;clear Mb;rintro e w3 ⟨rfl,hb3⟩;have H3:bN (w3.heap[g]? =o_ (c_ (aX ({ x with code:=code,pc:=x.pc+1 } :ao)) 41)/\aI w w3 [g]):=⟨(hb3.block _ (J2.1 H2.I.1).1).trans H2.I.1,H2.I.2.trans (aI.dI hb3)⟩
 clear hb3 H2;by_cases hlen:x.pc+1=x.prog.length
 .have afx:bN (fE code x=(⟨j7 (jM code x.toaD),x.aY,x.bH⟩:ao)):=by show fE code x=_; unfold fE jT; rw [if_pos hlen]
  have e1:decide (¬ x.pc+1=x.prog.length)=false:=decide_eq_false (by simpa using hlen);rw [e1];clear hlen e1;go_wp2_with fail;refine (NI g ({ x with code:=code,pc:=x.pc+1 } :ao) w3 H3.I.1).mono ?_;rintro e w4 ⟨rfl,rfl⟩;go_wp2;refine KT (results_none results103 _ _ _) rfl ?_;rw [afx.I];exact ⟨rfl,KU _ _ _ _ _ _ H3.I.1,H3.I.2.trans aI.row⟩
 have afx:bN (fE code x=(⟨jM code x.toaD,x.aY,x.bH⟩:ao)):=by show fE code x=_; unfold fE jT; rw [if_neg hlen]
 have e1:decide (¬ x.pc+1=x.prog.length)=true:=decide_eq_true hlen;rw [e1];clear hlen e1;have c3:=(bo H3.I.1).2.2.2.1;have f3:w3.frozen? ⟨g,3,n_⟩=false:=Ko _ _ _ _ _ H3.I.1;have k3:(w3.setCell ⟨g,3,n_⟩ (i_ j_ 1)).heap[g]? =o_ (c_ (aX ({ x with code:=code,pc:=x.pc+1,Md:=1 } :ao)) 41):=cx (i:=3) (v:=i_ j_ 1) H3.I.1;have c5:=(bo k3).2.2.2.2.2.1;have f5:(w3.setCell ⟨g,3,n_⟩ (i_ j_ 1)).frozen? ⟨g,5,n_⟩=false:=Ko _ _ _ _ _ k3;have k5:((w3.setCell ⟨g,3,n_⟩ (i_ j_ 1)).setCell ⟨g,5,n_⟩ (i_ j_ 0)).heap[g]? =o_ (c_ (aX ({ x with code:=code,pc:=x.pc+1,Md:=1,left:=0 } :ao)) 41):=cx (i:=5) (v:=i_ j_ 0) k3;have c6:=(bo k5).2.2.2.2.2.2.1;have f6:((w3.setCell ⟨g,3,n_⟩ (i_ j_ 1)).setCell ⟨g,5,n_⟩ (i_ j_ 0)).frozen? ⟨g,6,n_⟩=false:=Ko _ _ _ _ _ k5;have k6:(((w3.setCell ⟨g,3,n_⟩ (i_ j_ 1)).setCell ⟨g,5,n_⟩ (i_ j_ 0)).setCell ⟨g,6,n_⟩ (i_ j_ 0)).heap[g]? =o_ (c_ (aX ({ x with code:=code,pc:=x.pc+1,Md:=1,left:=0,Mg:=0 } :ao)) 41):=cx (i:=6) (v:=i_ j_ 0) k5;have c7:=(bo k6).2.2.2.2.2.2.2.1;have f7:(((w3.setCell ⟨g,3,n_⟩ (i_ j_ 1)).setCell ⟨g,5,n_⟩ (i_ j_ 0)).setCell ⟨g,6,n_⟩ (i_ j_ 0)).frozen? ⟨g,7,n_⟩=false:=Ko _ _ _ _ _ k6;have k7:((((w3.setCell ⟨g,3,n_⟩ (i_ j_ 1)).setCell ⟨g,5,n_⟩ (i_ j_ 0)).setCell ⟨g,6,n_⟩ (i_ j_ 0)).setCell ⟨g,7,n_⟩ (i_ j_ 0)).heap[g]? =o_ (c_ (aX ({ x with code:=code,pc:=x.pc+1,Md:=1,left:=0,Mg:=0,on:=0 } :ao)) 41):=cx (i:=7) (v:=i_ j_ 0) k6;have c8:=(bo k7).2.2.2.2.2.2.2.2.1;have f8:((((w3.setCell ⟨g,3,n_⟩ (i_ j_ 1)).setCell ⟨g,5,n_⟩ (i_ j_ 0)).setCell ⟨g,6,n_⟩ (i_ j_ 0)).setCell ⟨g,7,n_⟩ (i_ j_ 0)).frozen? ⟨g,8,n_⟩=false:=Ko _ _ _ _ _ k7;have k8:(((((w3.setCell ⟨g,3,n_⟩ (i_ j_ 1)).setCell ⟨g,5,n_⟩ (i_ j_ 0)).setCell ⟨g,6,n_⟩ (i_ j_ 0)).setCell ⟨g,7,n_⟩ (i_ j_ 0)).setCell ⟨g,8,n_⟩ (t_ ⟨#[]⟩)).heap[g]? =o_ (c_ (aX ({ x with code:=code,pc:=x.pc+1,Md:=1,left:=0,Mg:=0,on:=0,held:=rM } :ao)) 41):=cx (i:=8) (v:=t_ ⟨#[]⟩) k7;have HF:bN ((((((w3.setCell ⟨g,3,n_⟩ (i_ j_ 1)).setCell ⟨g,5,n_⟩ (i_ j_ 0)).setCell ⟨g,6,n_⟩ (i_ j_ 0)).setCell ⟨g,7,n_⟩ (i_ j_ 0)).setCell ⟨g,8,n_⟩ (t_ ⟨#[]⟩)).heap[g]? =o_ (c_ (aX (⟨jM code x.toaD,x.aY,x.bH⟩:ao)) 41)/\aI w (((((w3.setCell ⟨g,3,n_⟩ (i_ j_ 1)).setCell ⟨g,5,n_⟩ (i_ j_ 0)).setCell ⟨g,6,n_⟩ (i_ j_ 0)).setCell ⟨g,7,n_⟩ (i_ j_ 0)).setCell ⟨g,8,n_⟩ (t_ ⟨#[]⟩)) [g]):=⟨k8,(((((H3.I.2.trans aI.cell).trans aI.cell).trans aI.cell).trans aI.cell).trans aI.cell)⟩
 clear k3 k5 k6 k7 k8;go_wp2
 go_end0
 rw [afx.I];exact ⟨rfl,HF.I.1,HF.I.2⟩
def ahO (o g bj:Nat) (S:aZ) (x:ao) (code:Int) (w:w_) (h:cJ w bj o S) (lY:bj<=w.heap.size) (hx:(x,g)∈S.lp) (n0:0<=S.q.next) (n1:S.q.next<=1000000000) (hpc:0<=x.pc/\x.pc < x.prog.length) (hl:x.prog.length<=1048576):
  k_ J3 62 #[p_ (o_ ⟨o,0,n_⟩),p_ (o_ ⟨g,0,n_⟩),i_ j_ code] w fun e w'=>e=r_ (u_ #[])/\cJ w' bj o (S.ju g (pF S.q.next code) (gf S.q.next x.toaD))/\aI w w' [g,o] :=by
 have hgb:w.heap[g]? =o_ (c_ (aX x) 41):=h.L8.box (x,g) hx;have bR:g∈S.lp.map (·.2):=Lr.2 ⟨(x,g),hx,rfl⟩;have hno: ¬ o=g:=fun e=>by
  exact Zbx
 have hgl:bj<=g:=h.L8.low g (LB _ bR);have HC:bN (cJ w bj o S/\(x,g)∈S.lp/\g∈S.lp.map (·.2)/\bj<=g/\bj<=w.heap.size/\ ¬ o=g/\o < w.heap.size):=⟨h,hx,bR,hgl,lY,hno,(J2.1 h.opn).1⟩
 have Mb:=Sj g x code w hgb hpc hl;clear hgb bR hgl h hx lY hpc hl
 go_enter func62,ntmps62
 go_wp2_with fail;refine Mb.mono ?_;clear Mb;rintro e w1 ⟨rfl,CT,hk1⟩;have H1:bN (w1.heap[g]? =o_ (c_ (aX (fE code x)) 41)/\aI w w1 [g] /\fa w1 o S.q):=⟨CT,hk1,(hk1.same o HC.I.2.2.2.2.2.2 (by simpa using HC.I.2.2.2.2.2.1)).trans HC.I.1.opn⟩
 have s3:=(bo CT).2.2.2.1;clear CT hk1;by_cases hlen:x.pc+1=x.prog.length
 .have e1:((fE code x).Md == 1)=false:=by show ((jT code x.toaD).Md == 1)=false; unfold jT; rw [if_pos hlen]; rfl
  have HE:bN (gf S.q.next x.toaD=S.q.next/\pF S.q.next code x=fE code x):=by show _/\_; unfold gf pF fE iY jT; rw [if_pos hlen,if_pos hlen,if_pos hlen]; exact ⟨rfl,rfl⟩
  clear hlen;go_wp2
  go_end0
  have hlt: ∀ b∈S.boxes ++ S.kids,b < w.heap.size:=fun b hb=>HC.I.1.lt b (LB _ hb)
  exact ⟨rfl,HC.I.1.SA (fun y=>⟨(rD _ _ _).1,(rD _ _ _).2,rfl,rfl⟩) (fun p hp hpg=>by have e:=HC.I.1.L8.one hp HC.I.2.1 hpg; subst e; rw [HE.I.2]; exact H1.I.1) HC.I.2.2.1 (by rw [HE.I.1]; exact H1.I.2.2) (fun b hb h5 h6=>H1.I.2.1.same b (hlt b hb) (by simpa using h5)),H1.I.2.1.mono zw⟩
 have e1:((fE code x).Md == 1)=true:=by show ((jT code x.toaD).Md == 1)=true; unfold jT; rw [if_neg hlen]; rfl
 have HE:bN (gf S.q.next x.toaD=S.q.next+1/\pF S.q.next code x= { fE code x with RU:=S.q.next }):=by show _/\_; unfold gf pF fE iY jT; rw [if_neg hlen,if_neg hlen,if_neg hlen]; exact ⟨rfl,rfl⟩
 clear hlen;have Mb:=wE o g S.q.next w1 (H1.I.2.2.cell 1) (Ko _ _ _ _ _ H1.I.2.2) ⟨_,(bo H1.I.1).2.2.2.2.2.2.2.2.2.2.2⟩ (Ko _ _ _ _ _ H1.I.1) hno n0 n1;go_wp2_with fail;refine Mb.mono ?_;clear Mb s3 e1;rintro e w2 ⟨rfl,rfl⟩;have HF:bN (cJ ((w1.setCell ⟨g,11,n_⟩ (i_ j_ S.q.next)).setCell ⟨o,1,n_⟩ (i_ j_ (S.q.next+1))) bj o (S.ju g (pF S.q.next code) (gf S.q.next x.toaD))/\aI w ((w1.setCell ⟨g,11,n_⟩ (i_ j_ S.q.next)).setCell ⟨o,1,n_⟩ (i_ j_ (S.q.next+1))) [g,o]):=by
  have hlt: ∀ b∈S.boxes ++ S.kids,b < w.heap.size:=fun b hb=>HC.I.1.lt b (LB _ hb)
  have hg3:((w1.setCell ⟨g,11,n_⟩ (i_ j_ S.q.next)).setCell ⟨o,1,n_⟩ (i_ j_ (S.q.next+1))).heap[g]? =o_ (c_ (aX ({ fE code x with RU:=S.q.next } :ao)) 41):=(aH (fun e=>HC.I.2.2.2.2.2.1 e.symm:g≠o)).trans (cx (i:=11) (v:=i_ j_ S.q.next) H1.I.1);have Bn:fa ((w1.setCell ⟨g,11,n_⟩ (i_ j_ S.q.next)).setCell ⟨o,1,n_⟩ (i_ j_ (S.q.next+1))) o { S.q with next:=S.q.next+1 } :=by
   have h5:(w1.setCell ⟨g,11,n_⟩ (i_ j_ S.q.next)).heap[o]? =_:=(aH HC.I.2.2.2.2.2.1).trans H1.I.2.2;exact cx (i:=1) (v:=i_ j_ (S.q.next+1)) h5
  exact ⟨HC.I.1.SA (fun y=>⟨(rD _ _ _).1,(rD _ _ _).2,rfl,rfl⟩) (fun p hp hpg=>by have e:=HC.I.1.L8.one hp HC.I.2.1 hpg; subst e; rw [HE.I.2]; exact hg3) HC.I.2.2.1 (by rw [HE.I.1]; exact Bn) (fun b hb h5 h6=>(aH h6).trans ((aH h5).trans (H1.I.2.1.same b (hlt b hb) (by simpa using h5)))),((H1.I.2.1.trans aI.cell).mono zw).trans (aI.cell.mono zw)⟩
 go_wp2
 go_end0
 exact ⟨rfl,HF.I.1,HF.I.2⟩
def cJ.below {w w':w_} {bj o:Nat} {S:aZ} (h:cJ w bj o S) (hb:B_ w.heap.size w w'):cJ w' bj o S:=
 ⟨(hb.block _ (J2.1 h.opn).1).trans h.opn,h.L8.below hb,h.aj.below hb,h.L9.below hb,h.ag.below hb,h.ae.below hb,h.ai.below hb,fun p hp=>Di (h.eI p hp) hb,fun p hp=>Di (h.eE p hp) hb,fun p hp=>Di (h.eR p hp) hb,h.nodup,h.low⟩
def St {S:aZ} (h:aQ S.pure) {p:ao × Nat} (hp:p∈S.lp):p.1.prog.length<=1048576:=by
 have h1:=(cK h.L8 p.1.toaD (Lr.2 ⟨p,hp,rfl⟩)).2;simp only [cH,J7] at h1;have h2:=h1.1.1.1.1.1.1.2;unfold jm nq at h2;simp only [decide_eq_true_eq] at h2;omega
end
section
open Go.Maps
def aZ.al (S:aZ) (o:Nat):List Nat:=o :: (S.boxes ++ S.kids)
section
variable {α:Type} {vs:α->Array v_} {num:α->Int} {T:T_}
def Shelf.far {w:w_} {bj b g:Nat} {l:List (α × Nat)} {cs:Array v_} {abH:T_} (h:Shelf vs num T w bj b l) (hg:w.heap[g]? =o_ (c_ cs abH)) (hT:T≠abH): ∀ c∈b :: l.map (·.2),c≠g:=fun c hc e=>by
 subst e;rcases Kt.1 hc with rfl | hc
 .obtain ⟨es,clock,h5,-⟩:=h.map.1
  rw [hg] at h5;cases h5
 .obtain ⟨p,hp,rfl⟩:=Lr.1 hc
  have h5:=h.box p hp;rw [hg] at h5;cases h5;exact hT rfl
def Shelf.onk {w:w_} {bj b:Nat} {l:List (α × Nat)} (h:Shelf vs num T w bj b l) {p p':α × Nat} (hp:p∈l) (hp':p'∈l) (e:num p.1=num p'.1):p=p':=by
 have hr:(RW num l).Pairwise (fun p q=>p.1 < q.1):=h.map.2;unfold RW at hr;rw [Qm] at hr;obtain ⟨i,hi⟩:=List.mem_iff_getElem?.1 hp;obtain ⟨j,hj⟩:=List.mem_iff_getElem?.1 hp';obtain ⟨hi1,rfl⟩:=Lj.1 hi;obtain ⟨DS,rfl⟩:=Lj.1 hj;rw [P8] at hr;rcases P9 i j with hlt | heq | hgt
 .have h7:=hr i j hi1 DS hlt
  simp only at h7;omega
 .subst heq; rfl
 .have h7:=hr j i DS hi1 hgt
  simp only at h7;omega
def agQ {β:Type} {f:α->β} {nb:β->Int} {l:List (α × Nat)} (hn: ∀ x,nb (f x)=num x) (k:Int):(cz (RW num l) k=n_/\cg nb k (l.map fun p=>f p.1)=n_)\/ ∃ x g,(x,g)∈l/\num x=k/\cz (RW num l) k=o_ g/\cg nb k (l.map fun p=>f p.1)=o_ (f x):=by
 unfold cz cg RW
 induction l with
 | nil=>exact .inl ⟨rfl,rfl⟩
 | cons y r ih=>
  simp only [Lt];by_cases e:num y.1=k
  .refine .inr ⟨y.1,y.2,by simp,e,?_,?_⟩
   .rw [aeC (by simp [e])]; rfl
   .rw [aeC (by simp [hn,e])]
  .rw [aeD (by simp [e]),aeD (by simp [hn,e])]
   rcases ih with h1 | ⟨x,g,h1,h2⟩
   .exact .inl h1
   .exact .inr ⟨x,g,LB _ h1,h2⟩
def Shelf.ah2 {β:Type} {f:α->β} {nb:β->Int} {w:w_} {bj b c:Nat} {l:List (α × Nat)} {x x':α} {F:β->β} (h:Shelf vs num T w bj b l) (hn: ∀ x,nb (f x)=num x) (hx:(x,c)∈l) (hf:f x'=F (f x)):((YtfncpmaefninjaaGreatDoor.sU c (fun _=>x') l).map fun p=>f p.1)=jP nb (num x) F (l.map fun p=>f p.1):=by
 unfold YtfncpmaefninjaaGreatDoor.sU jP;rw [Lv,Lv];refine Lw fun p hp=> ?_
 simp only [Ls,hn];by_cases e:p.2=c
 .have:=h.one hp hx e
  subst this;rw [if_pos rfl,if_pos rfl];exact hf
 .rw [if_neg e,if_neg fun e2=>e (by rw [h.onk hp hx e2])]
def aiO {c:Nat} {f:α->α} {l:List (α × Nat)} (h:c∉l.map (·.2)):sU c f l=l:=by
 unfold sU
 conv=>rhs; rw [<- List.map_id l]
 refine Lw fun p hp=> ?_
 rw [if_neg fun e=>h (Lr.2 ⟨p,hp,e⟩)];rfl
def ah3 {c:Nat} {x x':α} {l:List (α × Nat)} (hx:(x,c)∈l) (hn:(l.map (·.2)).Nodup): ∃ A B,l=A ++ (x,c) :: B/\sU c (fun _=>x') l=A ++ (x',c) :: B:=by
 obtain ⟨A,B,rfl⟩:=List.append_of_mem hx;refine ⟨A,B,rfl,?_⟩;rw [Kl,Lt] at hn;have h1:=Kf.1 hn;have h2:=Lp.1 h1.2.1;have e1:sU c (fun _=>x') A=A:=aiO fun hm=>h1.2.2 c hm c zw rfl
 have e2:sU c (fun _=>x') B=B:=aiO h2.1;unfold sU at e1 e2 ⊢;rw [Kl,Lt,e1,e2];simp
end
def ais {P Q Q' R:List Nat} (h:(P ++ (Q ++ R)).Nodup) (hq:Q'.Nodup) (hd: ∀ g∈Q',g∈Q\/(g∉P/\g∉R)):(P ++ (Q' ++ R)).Nodup:=by
 have h1:=Kf.1 h;have h2:=Kf.1 h1.2.1;refine Kf.2 ⟨h1.1,Kf.2 ⟨hq,h2.2.1,fun a ha b hb e=> ?_⟩,fun a ha b hb e=> ?_⟩
 .subst e
  rcases hd a ha with h5 | h5
  .exact h2.2.2 a h5 a hb rfl
  .exact h5.2 hb
 .subst e
  rcases Kg.1 hb with hb | hb
  .rcases hd a hb with h5 | h5
   .exact h1.2.2 a ha a (Lz _ h5) rfl
   .exact h5.1 ha
  .exact h1.2.2 a ha a (Ly _ hb) rfl
section
variable {w w':w_} {bj o g:Nat} {S:aZ}
def aZ.ago {b:Nat} (h:b∈S.q.bp :: S.lp.map (·.2)):b∈S.boxes:=by unfold aZ.boxes; simp only [Kg]; exact .inl h
def aZ.ahS {b:Nat} (h:b∈S.q.bs :: S.ls.map (·.2)):b∈S.boxes:=by unfold aZ.boxes; simp only [Kg]; exact .inr (.inl h)
def aZ.agZ {b:Nat} (h:b∈S.q.be :: S.le.map (·.2)):b∈S.boxes:=by unfold aZ.boxes; simp only [Kg]; exact .inr (.inr (.inl h))
def aZ.ag0 {b:Nat} (h:b∈S.q.bb :: S.lb.map (·.2)):b∈S.boxes:=by unfold aZ.boxes; simp only [Kg]; exact .inr (.inr (.inr (.inl h)))
def aZ.F9 {b:Nat} (h:b∈S.q.bf :: S.lf.map (·.2)):b∈S.boxes:=by unfold aZ.boxes; simp only [Kg]; exact .inr (.inr (.inr (.inr (.inl h))))
def aZ.agV {b:Nat} (h:b∈S.q.bq :: S.lq.map (·.2)):b∈S.boxes:=by unfold aZ.boxes; simp only [Kg]; exact .inr (.inr (.inr (.inr (.inr (h)))))
def aZ.agr {b:Nat} (h:b∈S.boxes):b∈S.al o:=LB _ (Lz _ h)
def aZ.ag4 {b:Nat} (h:b∈S.kids):b∈S.al o:=LB _ (Ly _ h)
def cJ.apart (h:cJ w bj o S) (hg:g∈S.boxes):o≠g/\ ∀ b∈S.kids,b≠g:=by
 have h1:=Lp.1 h.nodup;have h2:=(Kf.1 h1.2).2.2;exact ⟨fun e=>h1.1 (e ▸ Lz _ hg),fun b hb e=>h2 g hg b hb e.symm⟩
def cJ.sem {x x':bD} (h:cJ w bj o S) (hx:(x,g)∈S.ls) (hb:w'.heap[g]? =o_ (c_ (eH x') 89)) (hid:x'.id=x.id) (hs: ∀ b∈S.al o,b≠g->w'.heap[b]? =w.heap[b]?):cJ w' bj o { S with ls:=sU g (fun _=>x') S.ls } :=by
 have hg:=h.aj.box _ hx;have hgb:g∈S.boxes:=aZ.ahS (LB _ (Lr.2 ⟨_,hx,rfl⟩));have ha:=h.apart hgb;have kk: ∀ b∈S.kids,w'.heap[b]? =w.heap[b]? :=fun b hb2=>hs b (aZ.ag4 hb2) (ha.2 b hb2)
 have km: ∀ (b:Nat),(b∈kids aR S.lp\/b∈kids aC S.lf\/b∈kids aU S.lq)->b∈S.kids:=fun b hb=>by simp only [aZ.kids,Kg]; exact hb
 refine ⟨(hs o Zds ha.1).trans h.opn,h.L8.same fun b hb2=>hs b (aZ.agr (aZ.ago hb2)) (h.L8.far hg (by decide) b hb2),h.aj.sU (f:=fun _=>x') (fun p hp e=>by rw [h.aj.one hp hx e]; exact hid) (fun _ _ _=>hb) (hs _ (aZ.agr (aZ.ahS zw)) (fun e=>(Lp.1 h.aj.nodup).1 (e ▸ Lr.2 ⟨_,hx,rfl⟩))) (fun b hb2 hne=>hs b (aZ.agr (aZ.ahS (LB _ hb2))) hne),h.L9.same fun b hb2=>hs b (aZ.agr (aZ.agZ hb2)) (h.L9.far hg (by decide) b hb2),h.ag.same fun b hb2=>hs b (aZ.agr (aZ.ag0 hb2)) (h.ag.far hg (by decide) b hb2),h.ae.same fun b hb2=>hs b (aZ.agr (aZ.F9 hb2)) (h.ae.far hg (by decide) b hb2),h.ai.same fun b hb2=>hs b (aZ.agr (aZ.agV hb2)) (h.ai.far hg (by decide) b hb2),fun p hp=>(h.eI p hp).same fun b hb2=>kk b (km b (.inl (Lq.2 ⟨p,hp,hb2⟩))),fun p hp=>(h.eE p hp).same fun b hb2=>kk b (km b (.inr (.inl (Lq.2 ⟨p,hp,hb2⟩)))),fun p hp=>(h.eR p hp).same fun b hb2=>kk b (km b (.inr (.inr (Lq.2 ⟨p,hp,hb2⟩)))),?_,h.low⟩;have e1:({ S with ls:=sU g (fun _=>x') S.ls } :aZ).boxes=S.boxes:=by simp only [aZ.boxes,qb]
 rw [e1];exact h.nodup
def cJ.event {x x':aB} (h:cJ w bj o S) (hx:(x,g)∈S.le) (hb:w'.heap[g]? =o_ (c_ (cG x') 91)) (hid:x'.id=x.id) (hs: ∀ b∈S.al o,b≠g->w'.heap[b]? =w.heap[b]?):cJ w' bj o { S with le:=sU g (fun _=>x') S.le } :=by
 have hg:=h.L9.box _ hx;have hgb:g∈S.boxes:=aZ.agZ (LB _ (Lr.2 ⟨_,hx,rfl⟩));have ha:=h.apart hgb;have kk: ∀ b∈S.kids,w'.heap[b]? =w.heap[b]? :=fun b hb2=>hs b (aZ.ag4 hb2) (ha.2 b hb2)
 have km: ∀ (b:Nat),(b∈kids aR S.lp\/b∈kids aC S.lf\/b∈kids aU S.lq)->b∈S.kids:=fun b hb=>by simp only [aZ.kids,Kg]; exact hb
 refine ⟨(hs o Zds ha.1).trans h.opn,h.L8.same fun b hb2=>hs b (aZ.agr (aZ.ago hb2)) (h.L8.far hg (by decide) b hb2),h.aj.same fun b hb2=>hs b (aZ.agr (aZ.ahS hb2)) (h.aj.far hg (by decide) b hb2),h.L9.sU (f:=fun _=>x') (fun p hp e=>by rw [h.L9.one hp hx e]; exact hid) (fun _ _ _=>hb) (hs _ (aZ.agr (aZ.agZ zw)) (fun e=>(Lp.1 h.L9.nodup).1 (e ▸ Lr.2 ⟨_,hx,rfl⟩))) (fun b hb2 hne=>hs b (aZ.agr (aZ.agZ (LB _ hb2))) hne),h.ag.same fun b hb2=>hs b (aZ.agr (aZ.ag0 hb2)) (h.ag.far hg (by decide) b hb2),h.ae.same fun b hb2=>hs b (aZ.agr (aZ.F9 hb2)) (h.ae.far hg (by decide) b hb2),h.ai.same fun b hb2=>hs b (aZ.agr (aZ.agV hb2)) (h.ai.far hg (by decide) b hb2),fun p hp=>(h.eI p hp).same fun b hb2=>kk b (km b (.inl (Lq.2 ⟨p,hp,hb2⟩))),fun p hp=>(h.eE p hp).same fun b hb2=>kk b (km b (.inr (.inl (Lq.2 ⟨p,hp,hb2⟩)))),fun p hp=>(h.eR p hp).same fun b hb2=>kk b (km b (.inr (.inr (Lq.2 ⟨p,hp,hb2⟩)))),?_,h.low⟩;have e1:({ S with le:=sU g (fun _=>x') S.le } :aZ).boxes=S.boxes:=by simp only [aZ.boxes,qb]
 rw [e1];exact h.nodup
def cJ.ajl {x x':az} (h:cJ w bj o S) (hx:(x,g)∈S.lb) (hb:w'.heap[g]? =o_ (c_ (cI x') 93)) (hid:x'.id=x.id) (hs: ∀ b∈S.al o,b≠g->w'.heap[b]? =w.heap[b]?):cJ w' bj o { S with lb:=sU g (fun _=>x') S.lb } :=by
 have hg:=h.ag.box _ hx;have hgb:g∈S.boxes:=aZ.ag0 (LB _ (Lr.2 ⟨_,hx,rfl⟩));have ha:=h.apart hgb;have kk: ∀ b∈S.kids,w'.heap[b]? =w.heap[b]? :=fun b hb2=>hs b (aZ.ag4 hb2) (ha.2 b hb2)
 have km: ∀ (b:Nat),(b∈kids aR S.lp\/b∈kids aC S.lf\/b∈kids aU S.lq)->b∈S.kids:=fun b hb=>by simp only [aZ.kids,Kg]; exact hb
 refine ⟨(hs o Zds ha.1).trans h.opn,h.L8.same fun b hb2=>hs b (aZ.agr (aZ.ago hb2)) (h.L8.far hg (by decide) b hb2),h.aj.same fun b hb2=>hs b (aZ.agr (aZ.ahS hb2)) (h.aj.far hg (by decide) b hb2),h.L9.same fun b hb2=>hs b (aZ.agr (aZ.agZ hb2)) (h.L9.far hg (by decide) b hb2),h.ag.sU (f:=fun _=>x') (fun p hp e=>by rw [h.ag.one hp hx e]; exact hid) (fun _ _ _=>hb) (hs _ (aZ.agr (aZ.ag0 zw)) (fun e=>(Lp.1 h.ag.nodup).1 (e ▸ Lr.2 ⟨_,hx,rfl⟩))) (fun b hb2 hne=>hs b (aZ.agr (aZ.ag0 (LB _ hb2))) hne),h.ae.same fun b hb2=>hs b (aZ.agr (aZ.F9 hb2)) (h.ae.far hg (by decide) b hb2),h.ai.same fun b hb2=>hs b (aZ.agr (aZ.agV hb2)) (h.ai.far hg (by decide) b hb2),fun p hp=>(h.eI p hp).same fun b hb2=>kk b (km b (.inl (Lq.2 ⟨p,hp,hb2⟩))),fun p hp=>(h.eE p hp).same fun b hb2=>kk b (km b (.inr (.inl (Lq.2 ⟨p,hp,hb2⟩)))),fun p hp=>(h.eR p hp).same fun b hb2=>kk b (km b (.inr (.inr (Lq.2 ⟨p,hp,hb2⟩)))),?_,h.low⟩;have e1:({ S with lb:=sU g (fun _=>x') S.lb } :aZ).boxes=S.boxes:=by simp only [aZ.boxes,qb]
 rw [e1];exact h.nodup
def cJ.buffer {x x':au} (h:cJ w bj o S) (hx:(x,g)∈S.lf) (hb:w'.heap[g]? =o_ (c_ (bQ x') 96)) (hm:aC.cO w' bj x') (hid:x'.id=x.id) (hs: ∀ b∈S.al o,b≠g->b∉blk x.ak->w'.heap[b]? =w.heap[b]?) (hk: ∀ b∈blk x'.ak,b∈blk x.ak\/b∉S.al o):
  cJ w' bj o { S with lf:=sU g (fun _=>x') S.lf } /\ ∀ b∈({ S with lf:=sU g (fun _=>x') S.lf } :aZ).al o,b∈S.al o\/b∈blk x'.ak:=by
 have hg:=h.ae.box _ hx;have hgb:g∈S.boxes:=aZ.F9 (LB _ (Lr.2 ⟨_,hx,rfl⟩));have ha:=h.apart hgb;obtain ⟨A,B,hl,hu⟩:=ah3 (x':=x') hx (Lp.1 h.ae.nodup).2;have adw: ∀ (z:au),kids aC (A ++ (z,g) :: B)=kids aC A ++ (blk z.ak ++ kids aC B):=fun z=>by
  have e:aC.bt z=z.ak.map (·.block):=rfl;unfold kids blk;rw [LW,LH];simp only [e];cases z.ak <;> simp
 obtain ⟨P,hP⟩: ∃ P,P=o :: (S.boxes ++ (kids aR S.lp ++ kids aC A)):=⟨_,rfl⟩
 obtain ⟨R,hR⟩: ∃ R,R=kids aC B ++ kids aU S.lq:=⟨_,rfl⟩
 have e1:S.al o=P ++ (blk x.ak ++ R):=by
  unfold aZ.al aZ.kids;rw [hP,hR]
  conv=>lhs; rw [hl,adw]
  simp [Lm]
 have eb:({ S with lf:=sU g (fun _=>x') S.lf } :aZ).boxes=S.boxes:=by simp only [aZ.boxes,qb]
 have e2:({ S with lf:=sU g (fun _=>x') S.lf } :aZ).al o=P ++ (blk x'.ak ++ R):=by
  exact ZbX
 have hn:(P ++ (blk x.ak ++ R)).Nodup:=by rw [<- e1]; exact h.nodup
 have n1:=Kf.1 hn;have n2:=Kf.1 n1.2.1;have inP: ∀ b,b=o\/b∈S.boxes\/b∈kids aR S.lp\/b∈kids aC A->b∈P:=fun b hb'=>by rw [hP]; simp only [Kt,Kg]; exact hb'
 have aff: ∀ b∈blk x.ak,b∈S.kids:=fun b hb2=>by
  unfold aZ.kids;rw [hl,adw];simp [hb2]
 have bs: ∀ b∈S.boxes,b≠g->w'.heap[b]? =w.heap[b]? :=fun b hb2 hne=>hs b (aZ.agr hb2) hne fun hm2=>(h.apart hb2).2 b (aff b hm2) rfl
 have kk: ∀ b,b∈P\/b∈R->b∈S.kids->w'.heap[b]? =w.heap[b]? :=fun b hb2 hb3=>hs b (aZ.ag4 hb3) (ha.2 b hb3) fun hm2=>by
  exact ZbJ
 have km: ∀ (b:Nat),(b∈kids aR S.lp\/b∈kids aC S.lf\/b∈kids aU S.lq)->b∈S.kids:=fun b hb=>by simp only [aZ.kids,Kg]; exact hb
 refine ⟨⟨(hs o Zds ha.1 fun hm2=>(Lp.1 h.nodup).1 (Ly _ (aff o hm2))).trans h.opn,h.L8.same fun b hb2=>bs b (aZ.ago hb2) (h.L8.far hg (by decide) b hb2),h.aj.same fun b hb2=>bs b (aZ.ahS hb2) (h.aj.far hg (by decide) b hb2),h.L9.same fun b hb2=>bs b (aZ.agZ hb2) (h.L9.far hg (by decide) b hb2),h.ag.same fun b hb2=>bs b (aZ.ag0 hb2) (h.ag.far hg (by decide) b hb2),h.ae.sU (f:=fun _=>x') (fun p hp e=>by rw [h.ae.one hp hx e]; exact hid) (fun _ _ _=>hb) (bs _ (aZ.F9 zw) (fun e=>(Lp.1 h.ae.nodup).1 (e ▸ Lr.2 ⟨_,hx,rfl⟩))) (fun b hb2 hne=>bs b (aZ.F9 (LB _ hb2)) hne),h.ai.same fun b hb2=>bs b (aZ.agV hb2) (h.ai.far hg (by decide) b hb2),fun p hp=>(h.eI p hp).same fun b hb2=>kk b (.inl (inP b (.inr (.inr (.inl (Lq.2 ⟨p,hp,hb2⟩)))))) (km b (.inl (Lq.2 ⟨p,hp,hb2⟩))),fun p hp=> ?_,fun p hp=>(h.eR p hp).same fun b hb2=>kk b (.inr (by rw [hR]; exact Ly _ (Lq.2 ⟨p,hp,hb2⟩))) (km b (.inr (.inr (Lq.2 ⟨p,hp,hb2⟩)))),?_,h.low⟩,fun b hb2=> ?_⟩
 .have hp':p∈A ++ (x',g) :: B:=by rw [<- hu]; exact hp
  rcases Kg.1 hp' with h5 | h5
  .have h6:p∈S.lf:=by rw [hl]; exact Lz _ h5
   exact (h.eE p h6).same fun b hb2=>kk b (.inl (inP b (.inr (.inr (.inr (Lq.2 ⟨p,h5,hb2⟩)))))) (km b (.inr (.inl (Lq.2 ⟨p,h6,hb2⟩))))
  .rcases Kt.1 h5 with rfl | h5
   .exact hm
   .have h6:p∈S.lf:=by rw [hl]; exact Ly _ (LB _ h5)
    exact (h.eE p h6).same fun b hb2=>kk b (.inr (by rw [hR]; exact Lz _ (Lq.2 ⟨p,h5,hb2⟩))) (km b (.inr (.inl (Lq.2 ⟨p,h6,hb2⟩))))
 .show (({ S with lf:=sU g (fun _=>x') S.lf } :aZ).al o).Nodup
  exact Zan
 .exact ZaU
def cJ.port {x x':aM} (h:cJ w bj o S) (hx:(x,g)∈S.lq) (hb:w'.heap[g]? =o_ (c_ (cW x') 115)) (hm:aU.cO w' bj x') (hid:x'.id=x.id) (hs: ∀ b∈S.al o,b≠g->b∉blk x.ak->w'.heap[b]? =w.heap[b]?) (hk: ∀ b∈blk x'.ak,b∈blk x.ak\/b∉S.al o):
  cJ w' bj o { S with lq:=sU g (fun _=>x') S.lq } /\ ∀ b∈({ S with lq:=sU g (fun _=>x') S.lq } :aZ).al o,b∈S.al o\/b∈blk x'.ak:=by
 have hg:=h.ai.box _ hx;have hgb:g∈S.boxes:=aZ.agV (LB _ (Lr.2 ⟨_,hx,rfl⟩));have ha:=h.apart hgb;obtain ⟨A,B,hl,hu⟩:=ah3 (x':=x') hx (Lp.1 h.ai.nodup).2;have adw: ∀ (z:aM),kids aU (A ++ (z,g) :: B)=kids aU A ++ (blk z.ak ++ kids aU B):=fun z=>by
  have e:aU.bt z=z.ak.map (·.block):=rfl;unfold kids blk;rw [LW,LH];simp only [e];cases z.ak <;> simp
 obtain ⟨P,hP⟩: ∃ P,P=o :: (S.boxes ++ (kids aR S.lp ++ (kids aC S.lf ++ kids aU A))):=⟨_,rfl⟩
 obtain ⟨R,hR⟩: ∃ R,R=kids aU B:=⟨_,rfl⟩
 have e1:S.al o=P ++ (blk x.ak ++ R):=by
  unfold aZ.al aZ.kids;rw [hP,hR]
  conv=>lhs; rw [hl,adw]
  simp [Lm]
 have eb:({ S with lq:=sU g (fun _=>x') S.lq } :aZ).boxes=S.boxes:=by simp only [aZ.boxes,qb]
 have e2:({ S with lq:=sU g (fun _=>x') S.lq } :aZ).al o=P ++ (blk x'.ak ++ R):=by
  exact ZbX
 have hn:(P ++ (blk x.ak ++ R)).Nodup:=by rw [<- e1]; exact h.nodup
 have n1:=Kf.1 hn;have n2:=Kf.1 n1.2.1;have inP: ∀ b,b=o\/b∈S.boxes\/b∈kids aR S.lp\/b∈kids aC S.lf\/b∈kids aU A->b∈P:=fun b hb'=>by rw [hP]; simp only [Kt,Kg]; exact hb'
 have aff: ∀ b∈blk x.ak,b∈S.kids:=fun b hb2=>by
  unfold aZ.kids;rw [hl,adw];simp [hb2]
 have bs: ∀ b∈S.boxes,b≠g->w'.heap[b]? =w.heap[b]? :=fun b hb2 hne=>hs b (aZ.agr hb2) hne fun hm2=>(h.apart hb2).2 b (aff b hm2) rfl
 have kk: ∀ b,b∈P\/b∈R->b∈S.kids->w'.heap[b]? =w.heap[b]? :=fun b hb2 hb3=>hs b (aZ.ag4 hb3) (ha.2 b hb3) fun hm2=>by
  exact ZbJ
 have km: ∀ (b:Nat),(b∈kids aR S.lp\/b∈kids aC S.lf\/b∈kids aU S.lq)->b∈S.kids:=fun b hb=>by simp only [aZ.kids,Kg]; exact hb
 refine ⟨⟨(hs o Zds ha.1 fun hm2=>(Lp.1 h.nodup).1 (Ly _ (aff o hm2))).trans h.opn,h.L8.same fun b hb2=>bs b (aZ.ago hb2) (h.L8.far hg (by decide) b hb2),h.aj.same fun b hb2=>bs b (aZ.ahS hb2) (h.aj.far hg (by decide) b hb2),h.L9.same fun b hb2=>bs b (aZ.agZ hb2) (h.L9.far hg (by decide) b hb2),h.ag.same fun b hb2=>bs b (aZ.ag0 hb2) (h.ag.far hg (by decide) b hb2),h.ae.same fun b hb2=>bs b (aZ.F9 hb2) (h.ae.far hg (by decide) b hb2),h.ai.sU (f:=fun _=>x') (fun p hp e=>by rw [h.ai.one hp hx e]; exact hid) (fun _ _ _=>hb) (bs _ (aZ.agV zw) (fun e=>(Lp.1 h.ai.nodup).1 (e ▸ Lr.2 ⟨_,hx,rfl⟩))) (fun b hb2 hne=>bs b (aZ.agV (LB _ hb2)) hne),fun p hp=>(h.eI p hp).same fun b hb2=>kk b (.inl (inP b (.inr (.inr (.inl (Lq.2 ⟨p,hp,hb2⟩)))))) (km b (.inl (Lq.2 ⟨p,hp,hb2⟩))),fun p hp=>(h.eE p hp).same fun b hb2=>kk b (.inl (inP b (.inr (.inr (.inr (.inl (Lq.2 ⟨p,hp,hb2⟩))))))) (km b (.inr (.inl (Lq.2 ⟨p,hp,hb2⟩)))),fun p hp=> ?_,?_,h.low⟩,fun b hb2=> ?_⟩
 .have hp':p∈A ++ (x',g) :: B:=by rw [<- hu]; exact hp
  rcases Kg.1 hp' with h5 | h5
  .have h6:p∈S.lq:=by rw [hl]; exact Lz _ h5
   exact (h.eR p h6).same fun b hb2=>kk b (.inl (inP b (.inr (.inr (.inr (.inr (Lq.2 ⟨p,h5,hb2⟩))))))) (km b (.inr (.inr (Lq.2 ⟨p,h6,hb2⟩))))
  .rcases Kt.1 h5 with rfl | h5
   .exact hm
   .have h6:p∈S.lq:=by rw [hl]; exact Ly _ (LB _ h5)
    exact (h.eR p h6).same fun b hb2=>kk b (.inr (by rw [hR]; exact Lq.2 ⟨p,h5,hb2⟩)) (km b (.inr (.inr (Lq.2 ⟨p,h6,hb2⟩))))
 .show (({ S with lq:=sU g (fun _=>x') S.lq } :aZ).al o).Nodup
  exact Zan
 .exact ZaU
end
structure o4 (o bj:Nat) (S:aZ) (w:w_) (S':aZ) (w':w_):Prop where
 at':cJ w' bj o S'
 kept:aI w w' (S.al o)
 new: ∀ b∈S'.al o,b < w.heap.size->b∈S.al o
def afU (g:Nat) (S S':aZ):Prop:= ∀ x,(x,g)∈S.lp-> ∃ x',(x',g)∈S'.lp/\x'.id=x.id/\x'.pc=x.pc/\x'.prog=x.prog/\x'.Md=x.Md
section
variable {o bj g d:Nat} {S S1 S2:aZ} {w w1 w2:w_}
def afU.refl:afU g S S:=fun x hx=>⟨x,hx,rfl,rfl,rfl,rfl⟩
def afU.of (h:S1.lp=S.lp):afU g S S1:=fun x hx=>⟨x,by rw [h]; exact hx,rfl,rfl,rfl,rfl⟩
def afU.trans (h:afU g S S1) (h2:afU g S1 S2):afU g S S2:=fun x hx=>by
 obtain ⟨y,hy,a1,a2,a3,a4⟩:=h x hx;obtain ⟨z,hz,b1,b2,b3,b4⟩:=h2 y hy;exact ⟨z,hz,b1.trans a1,b2.trans a2,b3.trans a3,b4.trans a4⟩
def o4.refl (h:cJ w bj o S):o4 o bj S w S w:=⟨h,aI.refl _ _,fun _ hb _=>hb⟩
def o4.below (h:cJ w bj o S) (hb:B_ w.heap.size w w1):o4 o bj S w S w1:=⟨h.below hb,aI.dI hb,fun _ hb _=>hb⟩
def o4.trans (h:o4 o bj S w S1 w1) (h2:o4 o bj S1 w1 S2 w2):o4 o bj S w S2 w2:=
 ⟨h2.at',⟨h2.kept.os.trans h.kept.os,h2.kept.tape.trans h.kept.tape,h2.kept.output.trans h.kept.output,LG h.kept.size h2.kept.size,fun b hb hn=>(h2.kept.same b (Kn hb h.kept.size) fun hm=>hn (h.new b hm hb)).trans (h.kept.same b hb hn)⟩,fun b hb hl=>h.new b (h2.new b hb (Kn hl h.kept.size)) hl⟩
def cJ.lows (h:cJ w bj o S): ∀ c∈S.al o,bj<=c:=fun c hc=>by
 simp only [aZ.al,aZ.boxes,aZ.kids,Kt,Kg] at hc;rcases hc with rfl | ((hc | hc | hc | hc | hc | hc) | hc | hc | hc)
 .exact h.low
 .exact h.L8.low c (Kt.2 hc)
 .exact h.aj.low c (Kt.2 hc)
 .exact h.L9.low c (Kt.2 hc)
 .exact h.ag.low c (Kt.2 hc)
 .exact h.ae.low c (Kt.2 hc)
 .exact h.ai.low c (Kt.2 hc)
 .obtain ⟨r,hr,hk⟩:=Lq.1 hc
  exact ((h.eI r hr).lt hk).1
 .obtain ⟨r,hr,hk⟩:=Lq.1 hc
  exact ((h.eE r hr).lt hk).1
 .obtain ⟨r,hr,hk⟩:=Lq.1 hc
  exact ((h.eR r hr).lt hk).1
def o4.cd (h:o4 o bj S w S1 w1) (h0:cJ w bj o S) (hb:bj<=w.heap.size):B_ bj w w1:=h.kept.below hb h0.lows
def dgV (o g:Nat) (op:dN) (bC:Int):Array v_:= #[dt o,dt g,i_ j_ op.1,i_ j_ op.2.1,i_ j_ op.2.2.1,t_ op.2.2.2,i_ j_ bC]
structure afb (w:w_) (bj o d g:Nat) (S:aZ) (op:dN) (bC:Int):Prop where
 at':cJ w bj o S
 box:w.heap[d]? =o_ (c_ (dgV o g op bC) 142)
 I:d∉S.al o
 low:bj<=w.heap.size
def afb.move {op:dN} {bC:Int} (h:afb w bj o d g S op bC) (hm:o4 o bj S w S1 w1):afb w1 bj o d g S1 op bC:=by
 have hl:=(J2.1 h.box).1;exact ⟨hm.at',(hm.kept.same d hl h.I).trans h.box,fun hd=>h.I (hm.new d hd hl),LG h.low hm.kept.size⟩
def agb {op:dN} {bC:Int} (h:w.heap[d]? =o_ (c_ (dgV o g op bC) 142)):w.cell? ⟨d,0,n_⟩=o_ (p_ (o_ ⟨o,0,n_⟩))/\w.cell? ⟨d,1,n_⟩=o_ (p_ (o_ ⟨g,0,n_⟩))/\w.cell? ⟨d,2,n_⟩=o_ (i_ j_ op.1)/\w.cell? ⟨d,3,n_⟩=o_ (i_ j_ op.2.1)/\w.cell? ⟨d,4,n_⟩=o_ (i_ j_ op.2.2.1)/\w.cell? ⟨d,5,n_⟩=o_ (t_ op.2.2.2)/\w.cell? ⟨d,6,n_⟩=o_ (i_ j_ bC):=by
 simp [World.cell?,h,dgV,dt]
def ahk {f:ao->ao} {nx:Int} (hf: ∀ x,(f x).aY=x.aY):(S.ju g f nx).al o=S.al o:=by
 have e1:(S.ju g f nx).boxes=S.boxes:=by simp only [aZ.boxes,aZ.ju,qb]
 have e2:(S.ju g f nx).kids=S.kids:=by simp only [aZ.kids,aZ.ju,GW (f:=f) fun x=>(by show (f x).aY.map (·.block)=x.aY.map (·.block); rw [hf x])]
 unfold aZ.al;rw [e1,e2]
def o4.ju {f:ao->ao} {nx:Int} {x:ao} (h:cJ w bj o S) (hf: ∀ x,(f x).id=x.id/\(f x).prog=x.prog/\(f x).aY=x.aY/\(f x).bH=x.bH) (hx:(x,g)∈S.lp) (hc:w1.heap[g]? =o_ (c_ (aX (f x)) 41)) (ho:fa w1 o { S.q with next:=nx }) (hk:aI w w1 [g,o]):o4 o bj S w (S.ju g f nx) w1:=by
 have bR:g∈S.lp.map (·.2):=Lr.2 ⟨_,hx,rfl⟩;refine ⟨h.SA hf (fun p hp e=> ?_) bR ho fun b hb h5 h6=>hk.same b (h.lt b (LB _ hb)) (by simp [h5,h6]),hk.mono fun b hb=> ?_,fun b hb _=> ?_⟩
 .have e5:=h.L8.one hp hx e
  subst e5;exact hc
 .simp only [Kt,Ku,or_false] at hb
  rcases hb with rfl | rfl
  .exact aZ.agr (aZ.ago (LB _ bR))
  .simp [aZ.al]
 .rw [ahk fun x=>(hf x).2.2.1] at hb
  exact hb
def afU.ju {f:ao->ao} {nx:Int} {g2:Nat} (hf:g2=g-> ∀ x,(f x).id=x.id/\(f x).pc=x.pc/\(f x).prog=x.prog/\(f x).Md=x.Md):afU g S (S.ju g2 f nx):=fun x hx=>by
 by_cases e:g2=g
 .subst e
  exact ⟨f x,yy.2 ⟨(x,g2),hx,by simp⟩,hf rfl x⟩
 .exact ⟨x,yy.2 ⟨(x,g),hx,by rw [if_neg fun e2:g=g2=>e e2.symm]⟩,rfl,rfl,rfl,rfl⟩
end
end
section
open Go.Maps
attribute [local go_sem ↓] Kc Kd
def age (st on:Int) (l:List (ao × Nat)):List (ao × Nat):=l.filter fun p=>ie st on p.1.toaD
def agD {st on:Int} {x:aD} :ie st on x=true↔x.Md=st/\x.on=on:=by simp [ie]
def ahT (st on:Int) (l:List (ao × Nat)) (p:ao × Nat):age st on (l ++ [p])=age st on l ++ (if ie st on p.1.toaD=true then [p] else []):=by
 simp only [age,QN,LN,List.filter_nil]
def ah9 {st on:Int} (l:List (ao × Nat)):(li (age st on l)).map (fun p=>p.1.toaD)=jl st on (l.map fun p=>p.1.toaD):=by
 rw [vj];unfold jl age;rw [List.filter_map];rfl
def agK (o d g bj:Nat) (S:aZ) (op:dN) (bC st:Int) (w:w_) (h:afb w bj o d g S op bC) (hf:S.Fits):
  k_ J3 190 #[p_ (o_ ⟨d,0,n_⟩),i_ j_ st] w fun e w'=>e=r_ (u_ #[qz ((li (age st op.2.1 S.lp)).map (·.2)),b_ (decide (0 < (age st op.2.1 S.lp).length))])/\B_ w.heap.size w w':=by
 obtain ⟨i0,hi,e0⟩:=Kw.1 sQ;simp only [Kx] at e0;have HI:bN (Tryz.prog.info? 64=o_ i0/\i0.zero=o_ (p_ n_)/\i0.size=1/\i0.bytes=8):=⟨hi,e0⟩
 have hl:S.lp.length<=1048576:=hf.dl;have H:bN (Shelf aX (fun x:ao=>x.id) 41 w bj S.q.bp S.lp/\(∀ p∈RW (fun x:ao=>x.id) S.lp,(Lit.int j_ p.1).wf=true)/\w.heap[d]? =o_ (c_ (dgV o g op bC) 142)):=⟨h.at'.L8,hf.Jl,h.box⟩
 have HLR:bN ((age st op.2.1 S.lp).length<=1048576):=LG (Qq _ _) hl;have c0:=(agb h.box).1;have c2:w.cell? ⟨o,2,n_⟩=o_ (i_ j_ 6):=h.at'.opn.cell 2;have c3:w.cell? ⟨o,3,n_⟩=o_ (.map (o_ S.q.bp)):=h.at'.opn.cell 3;have HK:bN ((RW (fun x:ao=>x.id) S.lp).length=S.lp.length):=bZ S.lp;obtain ⟨lp,hlp⟩: ∃ lp,lp=S.lp:=⟨_,rfl⟩
 obtain ⟨q,hq⟩: ∃ q,q=S.q:=⟨_,rfl⟩
 obtain ⟨on,hon⟩: ∃ on,on=op.2.1:=⟨_,rfl⟩
 have c3d:=fun (W:w_) (hb:W.heap[d]? =o_ (c_ (dgV o g op bC) 142))=>(agb hb).2.2.2.1
 rw [<- hon] at c3d HLR ⊢;rw [<- hlp] at hl H HLR HK ⊢;rw [<- hq] at H c3;clear h hf hi e0 hlp hq hon
 go_enter func190,ntmps190
 go_wp2_with fail;refine (mq 6 q.bp (RW (fun x:ao=>x.id) lp) w H.I.1.map ZcG H.I.2.1).mono ?_;rintro e w2 ⟨a,cap,rfl,hown,hb2⟩;obtain ⟨a',cap',hv,hrow⟩:=cr hown;cases hv;have HR:bN (Row w2 a ((RW (fun x:ao=>x.id) lp).map fun p=>dt p.2)):=hrow;have HO:bN (Shelf aX (fun x:ao=>x.id) 41 w2 bj q.bp lp/\B_ w.heap.size w w2/\w2.heap[d]? =o_ (c_ (dgV o g op bC) 142)):=⟨H.I.1.below hb2,hb2,(hb2.block _ (J2.1 H.I.2.2).1).trans H.I.2.2⟩
 rw [HK.I];clear hown hrow hb2 c2 c3 c0;go_wp2_with fail
 go_loopw [6,18] (fun l i wr=> ∃ (k n:Nat),k<=lp.length/\n<=k/\i=i_ j_ k/\ ∃ a' cap',l=s_ a' n cap'/\bN (n=(age st on (lp.take k)).length/\wr.ownsRow w2.heap.size 64 1 (s_ a' n cap') n ((age st on (lp.take k)).map fun p=>dt p.2)/\B_ w2.heap.size w2 wr)) (fun _ i _=>lp.length - (intOf i).toNat)
 case atStart=>exact ⟨0,0,Ky _,Ki _,rfl,n_,0,rfl,⟨rfl,Ke _ _ _ _,Kp _ _⟩⟩
 case round=>
  obtain ⟨k,n,hk,hn,rfl,a',cap',rfl,HA⟩:=hrel;by_cases hlt:k < lp.length
  .have qE:(0:Int)<=(k:Int):=zo
   have i1:(k:Int) < (lp.length:Int):=zo
   obtain ⟨p,hp⟩: ∃ p,lp[k]? =o_ p:=⟨_,Kz hlt⟩
   obtain ⟨g',ha,hc⟩:=(HR.I.below HA.I.2.2) k (dt p.2) ZcK;subst ha;unfold dt at hc;have HP:bN (lp[k]? =o_ p):=hp;have lW:wr.heap[p.2]? =o_ (c_ (aX p.1) 41):=(HO.I.1.below HA.I.2.2).box p (KA hp);obtain ⟨-,-,-,s3,-,-,-,s7,-⟩:=bo lW;have s9:=c3d wr ((HA.I.2.2.block _ (J2.1 HO.I.2.2).1).trans HO.I.2.2);have kT:=HA.I.2.2.size;have HA2:bN (n=(age st on (lp.take k)).length/\wr.drew.ownsRow w2.heap.size 64 1 (s_ a' n cap') n ((age st on (lp.take k)).map fun p=>dt p.2)/\B_ w2.heap.size w2 wr.drew):=⟨HA.I.1,HA.I.2.1,HA.I.2.2.drew⟩
   clear hp lW;by_cases hs:ie st on p.1.toaD=true
   .have hs2:=agD.1 hs
    have e1:(p.1.Md == st)=true:=by simp [hs2.1]
    have e2:(p.1.on == on)=true:=by simp [hs2.2]
    have SC:bN ((age st on (lp.take (k+1)))=(age st on (lp.take k)) ++ [p]):=by show _=_; rw [cj HP.I,ahT,if_pos hs]
    clear hs hs2;go_wp2_with fail;refine aT (fun w'=>w'=wr.drew) Zcq rfl ?_
    iterate 18 (refine agj ?_)
    refine bk Zcq ?_ _;intro w1 cm;subst cm
    revert HA2
    generalize wr.drew=W;intro HA2;have anE:=HA2.I.2.2.size;go_wp2_with (at_builtin; refine KD _ rfl _ _ 130 rfl w2.heap.size 64 i0 (p_ n_) 1 8 underlying130 HI.I.1 HI.I.2.1 HI.I.2.2.1 HI.I.2.2.2 rfl (by decide) (s_ a' n cap') n ((age st on (lp.take k)).map fun p=>dt p.2) rfl (HA2.I.2.1.alloc _) ⟨W.heap.size,0,n_⟩ 1 1 [p_ (o_ ⟨p.2,0,n_⟩)] (by rfl) rfl (KE (cs:= #[p_ (o_ ⟨p.2,0,n_⟩)]) (t:=64) (fr:=(0,0)) (Kj W _)) ZcS Zcw zo Zcr ?_; intro v' w5 hown' hgrow hnil jV; obtain ⟨a5,im,rfl,-⟩:=cr hown'; have HN:bN (n+1=(age st on (lp.take (k+1))).length/\w5.ownsRow w2.heap.size 64 1 (s_ a5 (n+1) im) (n+1) ((age st on (lp.take (k+1))).map fun p=>dt p.2)/\B_ w2.heap.size w2 w5):=⟨by rw [SC.I,Lf,<- HA2.I.1]; rfl,by rw [SC.I,Kl]; exact hown',(HA2.I.2.2.alloc anE _).grown hgrow Zcr (fun q hq=>(HA2.I.2.1.lt q hq).1)⟩; clear hown' hgrow hnil jV);exact Zaj
   .have SC:bN ((age st on (lp.take (k+1)))=(age st on (lp.take k))):=by show _=_; rw [cj HP.I,ahT,if_neg hs,QO]
    have hs2: ¬ (p.1.Md=st/\p.1.on=on):=fun e=>hs (agD.2 e)
    by_cases Ix:p.1.Md=st
    .have e1:(p.1.Md == st)=true:=by simp [Ix]
     have e2:(p.1.on == on)=false:=by simpa using fun e=>hs2 ⟨Ix,e⟩
     clear hs hs2 Ix;go_wp2_with fail;refine aT (fun w'=>w'=wr.drew) Zcq rfl ?_
     iterate 18 (refine agj ?_)
     exact Zal
    .have e1:(p.1.Md == st)=false:=by simpa using Ix
     clear hs hs2 Ix;go_wp2_with fail;refine aT (fun w'=>w'=wr.drew) Zcq rfl ?_
     iterate 7 (refine agj ?_)
     iterate 10 (refine nl ?_; simp only [pt,sb,s0,s1])
     iterate 1 (refine agj ?_)
     exact Zal
  .have i1: ¬ (k:Int) < (lp.length:Int):=zo
   have HE:bN (n=(age st on lp).length/\Row wr a' ((age st on lp).map fun p=>dt p.2)):=by
    have h5:=HA.I;rw [KF zo] at h5;exact Zbb
   have cy:bN (B_ w.heap.size w wr):=HO.I.2.1.trans (HA.I.2.2.mono HO.I.2.1.size);go_wp2_with fail;rw [HE.I.1];refine (wn a' (age st on lp) cap' wr HLR.I HE.I.2 (fun p hp=>(HO.I.1.below HA.I.2.2).box p (L2.1 hp).1)).mono ?_;rintro e w3 ⟨rfl,hb3⟩;have oh:bN (B_ w.heap.size w w3):=cy.I.trans (hb3.mono cy.I.size);clear hb3;go_wp2;go_ret2;exact ⟨rfl,oh.I⟩
def aku (f:aD->aD) (o bj g:Nat) (S:aZ) (st on:Int) (w:w_) (e:Ending) (w':w_):Prop:=
 (jl st on S.pure.L8=n_/\e=r_ (b_ false)/\B_ w.heap.size w w')\/ ∃ y S',jl st on S.pure.L8=o_ y/\e=r_ (b_ true)/\o4 o bj S w S' w'/\S'.pure=gF f S.pure y/\afU g S S'
structure aij (g:Nat) (S:aZ) (st:Int):Prop where
 right:aQ S.pure
 room:S.q.next+1<=1000000000
 st: ¬ st=0/\ ¬ st=1
 up: ∀ x,(x,g)∈S.lp->x.Md=1
section
variable {g:Nat} {S:aZ} {st on:Int}
def aij.best (h:aij g S st):(li (age st on S.lp)=n_/\(age st on S.lp).length=0/\jl st on S.pure.L8=n_)\/ ∃ x c,li (age st on S.lp)=o_ (x,c)/\0 < (age st on S.lp).length/\jl st on S.pure.L8=o_ x.toaD/\(x,c)∈S.lp/\ ¬ c=g/\(0<=x.pc/\x.pc < x.prog.length)/\x.prog.length<=1048576:=by
 have e:=ah9 (st:=st) (on:=on) S.lp;cases hb:li (age st on S.lp) with
 | none=>
  refine .inl ⟨rfl,?_,?_⟩
  .rcases hl:age st on S.lp with _ | ⟨z,r⟩
   .rfl
   .obtain ⟨y,h5,-⟩:=ql (l:=age st on S.lp) (k:=(age st on S.lp).length) (by rw [hl]; simp) (Ki _)
    rw [LQ,hb] at h5;cases h5
  .rw [hb] at e
   exact e.symm
 | some r=>
  obtain ⟨x,c⟩:=r;rw [hb] at e;have h1:jl st on S.pure.L8=o_ x.toaD:=e.symm;obtain ⟨y,h5,hm⟩: ∃ y,li (age st on S.lp)=o_ y/\y∈age st on S.lp:=by
   rcases hl:age st on S.lp with _ | ⟨z,r⟩
   .rw [hl] at hb; cases hb
   .have h6:=ql (l:=age st on S.lp) (k:=(age st on S.lp).length) (by rw [hl]; simp) (Ki _)
    rw [LQ,hl] at h6;exact h6
  rw [hb] at h5;cases h5;have hx:=L2.1 hm;have hs:=agD.1 hx.2;have hs0: ¬ x.toaD.Md=0:=fun e2=>h.st.1 (hs.1.symm.trans e2)
  have hp:=(h.right.proc (Lr.2 ⟨(x,c),hx.1,rfl⟩)).2.1;exact .inr ⟨x,c,rfl,List.length_pos_of_mem hm,h1,hx.1,fun e2=>h.st.2 (hs.1.symm.trans (h.up x (by rw [<- e2]; exact hx.1))),iT hp hs0,St h.right hx.1⟩
def aij.low (h:aij g S st):0<=S.q.next/\S.q.next<=1000000000:=by
 have h1:=bz.1 h.right.next;have h2:=h.room;have h3:S.pure.next=S.q.next:=rfl;omega
end
def agv {S:aZ} (h:aQ S.pure):S.pure.L8.Pairwise (fun x y=>x.id < y.id):=h.kW
def ahv (o d g bj:Nat) (S:aZ) (op:dN) (bC st:Int) (w:w_) (h:afb w bj o d g S op bC) (hk:aij g S st):
  k_ J3 184 #[p_ (o_ ⟨d,0,n_⟩),i_ j_ st] w fun e w'=>aku (fun y=>y) o bj g S st op.2.1 w e w':=by
 have H:bN (afb w bj o d g S op bC/\aij g S st):=⟨h,hk⟩
 clear h hk
 go_enter func184,ntmps184
 go_wp2_with fail;refine (agK o d g bj S op bC st w H.I.1 (iB H.I.2.right)).mono ?_;rintro e w2 ⟨rfl,hb2⟩;have H2:bN (B_ w.heap.size w w2):=hb2;rcases H.I.2.best (on:=op.2.1) with ⟨b1,b2,b3⟩ | ⟨x,c,b1,b2,b3,hx,hc,hpc,hl⟩
 .exact Zag
 .have HE:bN (jl st op.2.1 S.pure.L8=o_ x.toaD/\(x,c)∈S.lp/\ ¬ c=g):=⟨b3,hx,hc⟩
  have d0:decide (0 < (age st op.2.1 S.lp).length)=true:=decide_eq_true b2;have hm2:=o4.below H.I.1.at' hb2;have c0:=(agb (H.I.1.move hm2).box).1;have Mb:=ahO o c bj S x 0 w2 hm2.at' (H.I.1.move hm2).low hx H.I.2.low.1 H.I.2.low.2 hpc hl;rw [d0,b1];clear d0 b1 b2 b3 hb2 hx hc hpc hl hm2;simp only [qz,dt,J9];go_wp2_with fail;refine Mb.mono ?_;clear Mb c0;rintro e w3 ⟨rfl,hat,hkp⟩;have HF:bN (o4 o bj S w (S.ju c (pF S.q.next 0) (gf S.q.next x.toaD)) w3/\(S.ju c (pF S.q.next 0) (gf S.q.next x.toaD)).pure=gF (fun y=>y) S.pure x.toaD):=by
   have hm2:=o4.below H.I.1.at' H2.I;refine ⟨hm2.trans ⟨hat,hkp.mono fun b hb=> ?_,fun b hb _=> ?_⟩,?_⟩
   .simp only [Kt,Ku,or_false] at hb
    rcases hb with rfl | rfl
    .exact aZ.agr (aZ.ago (LB _ (Lr.2 ⟨_,HE.I.2.1,rfl⟩)))
    .simp [aZ.al]
   .rw [ahk (f:=pF S.q.next 0) fun y=>rfl] at hb
    exact hb
   .exact aZ.Sb (nx:=gf S.q.next x.toaD) (f:=pF S.q.next 0) (f':=iY S.q.next 0) (agv H.I.2.right) (fun p hp hpg=>H.I.1.at'.L8.one hp HE.I.2.1 hpg) HE.I.2.1 (fun _=>rfl)
  clear hat hkp;go_wp2;go_ret;exact .inr ⟨_,_,HE.I.1,rfl,HF.I.1,HF.I.2,afU.ju fun e=>absurd e HE.I.2.2⟩
def agF (t:ByteArray) (x:ao):ao:=⟨lG t x.toaD,x.aY,x.bH⟩
def o4.got {o bj c:Nat} {S:aZ} {x:ao} {t:ByteArray} {w:w_} (h:cJ w bj o S) (hx:(x,c)∈S.lp):o4 o bj S w (S.ju c (agF t) S.q.next) (w.setCell ⟨c,9,n_⟩ (t_ t)):=by
 have ha:=h.apart (aZ.ago (LB _ (Lr.2 ⟨_,hx,rfl⟩)));exact o4.ju h (fun _=>⟨rfl,rfl,rfl,rfl⟩) hx (cx (i:=9) (v:=t_ t) (h.L8.box _ hx)) ((aH ha.1).trans h.opn) (aI.cell.mono zw)
def agW {bj o c:Nat} {S:aZ} {x:ao} {t:ByteArray} {w:w_} (h:cJ w bj o S) (hr:aQ S.pure) (hx:(x,c)∈S.lp):(S.ju c (agF t) S.q.next).pure=ez t x.id S.pure:=
 aZ.Sb (nx:=S.q.next) (f:=agF t) (f':=lG t) (agv hr) (fun _ hp hpg=>h.L8.one hp hx hpg) hx (fun _=>rfl)
def ahA (o d g bj:Nat) (S:aZ) (op:dN) (bC st:Int) (w:w_) (h:afb w bj o d g S op bC) (hk:aij g S st):
  k_ J3 187 #[p_ (o_ ⟨d,0,n_⟩),i_ j_ st] w fun e w'=>aku (lG op.2.2.2) o bj g S st op.2.1 w e w':=by
 have H:bN (afb w bj o d g S op bC/\aij g S st):=⟨h,hk⟩
 clear h hk
 go_enter func187,ntmps187
 go_wp2_with fail;refine (agK o d g bj S op bC st w H.I.1 (iB H.I.2.right)).mono ?_;rintro e w2 ⟨rfl,hb2⟩;have H2:bN (B_ w.heap.size w w2):=hb2;rcases H.I.2.best (on:=op.2.1) with ⟨b1,b2,b3⟩ | ⟨x,c,b1,b2,b3,hx,hc,hpc,hl⟩
 .exact Zag
 .have HE:bN (jl st op.2.1 S.pure.L8=o_ x.toaD/\(x,c)∈S.lp/\ ¬ c=g):=⟨b3,hx,hc⟩
  have d0:decide (0 < (age st op.2.1 S.lp).length)=true:=decide_eq_true b2;have hm2:=o4.below H.I.1.at' hb2;have hm3:=o4.got (t:=op.2.2.2) hm2.at' hx;have hx3:(agF op.2.2.2 x,c)∈(S.ju c (agF op.2.2.2) S.q.next).lp:=yy.2 ⟨(x,c),hx,by simp⟩;have HM:bN (o4 o bj S w (S.ju c (agF op.2.2.2) S.q.next) (w2.setCell ⟨c,9,n_⟩ (t_ op.2.2.2))/\(agF op.2.2.2 x,c)∈(S.ju c (agF op.2.2.2) S.q.next).lp):=⟨hm2.trans hm3,hx3⟩
  have c5:=(agb (H.I.1.move hm2).box).2.2.2.2.2.1;have c9:=(bo (hm2.at'.L8.box _ hx)).2.2.2.2.2.2.2.2.2.1;have f9:w2.frozen? ⟨c,9,n_⟩=false:=Ko _ _ _ _ _ (hm2.at'.L8.box _ hx);have c0:=(agb (H.I.1.move HM.I.1).box).1;have Mb:=ahO o c bj (S.ju c (agF op.2.2.2) S.q.next) (agF op.2.2.2 x) 0 _ hm3.at' (H.I.1.move HM.I.1).low hx3 H.I.2.low.1 H.I.2.low.2 hpc hl;rw [d0,b1];clear d0 b1 b2 b3 hb2 hx hc hpc hl hm2 hm3 hx3;simp only [qz,dt,J9];go_wp2_with fail;refine Mb.mono ?_;clear Mb c0 c5 c9 f9;rintro e w3 ⟨rfl,hat,hkp⟩;obtain ⟨S2,y5⟩: ∃ S2,S2=(S.ju c (agF op.2.2.2) S.q.next).ju c (pF S.q.next 0) (gf S.q.next x.toaD):=⟨_,rfl⟩
  have HF:bN (o4 o bj S w S2 w3/\S2.pure=gF (lG op.2.2.2) S.pure x.toaD/\afU g S S2):=by
   rw [y5];have hr2:(S.ju c (agF op.2.2.2) S.q.next).pure.L8.Pairwise (fun x y=>x.id < y.id):=by
    rw [agW H.I.1.at' H.I.2.right HE.I.2.1];exact rW (f:=lG op.2.2.2) (fun _=>rfl) (agv H.I.2.right)
   refine ⟨HM.I.1.trans ⟨hat,hkp.mono fun b hb=> ?_,fun b hb _=> ?_⟩,?_,(afU.ju fun e=>absurd e HE.I.2.2).trans (afU.ju fun e=>absurd e HE.I.2.2)⟩
   .simp only [Kt,Ku,or_false] at hb
    rcases hb with rfl | rfl
    .exact aZ.agr (aZ.ago (LB _ (Lr.2 ⟨_,HM.I.2,rfl⟩)))
    .simp [aZ.al]
   .have e5:=ahk (o:=o) (g:=c) (S:=S.ju c (agF op.2.2.2) S.q.next) (f:=pF S.q.next 0) (nx:=gf S.q.next x.toaD) fun y=>rfl
    rw [<- e5];exact hb
   .refine (aZ.Sb (nx:=gf S.q.next x.toaD) (f:=pF S.q.next 0) (f':=iY S.q.next 0) hr2 (fun p hp hpg=>HM.I.1.at'.L8.one hp HM.I.2 hpg) HM.I.2 (fun _=>rfl)).trans ?_
    rw [agW H.I.1.at' H.I.2.right HE.I.2.1]
    show ({ S.pure with next:=gf S.q.next x.toaD,L8:=ce x.id (iY S.q.next 0) (ce x.id (lG op.2.2.2) S.pure.L8) } :aE)=_
    rw [pm (f:=lG op.2.2.2) fun _=>rfl];rfl
  clear hat hkp;go_wp2;go_ret;exact .inr ⟨_,_,HE.I.1,rfl,HF.I.1,HF.I.2.1,HF.I.2.2⟩
end
section
open Go.Maps
section
variable {w w1:w_} {bj o c:Nat} {S:aZ}
def o4.sem {x x':bD} (F:bD->bD) (h:cJ w bj o S) (hx:(x,c)∈S.ls) (hb:w1.heap[c]? =o_ (c_ (eH x') 89)) (hF:x'=F x) (hid:x'.id=x.id) (hk:aI w w1 [c]): ∃ S',o4 o bj S w S' w1/\S'.pure= { S.pure with aj:=jP (·.id) x.id F S.pure.aj } /\S'.lp=S.lp/\S'.q=S.q:=by
 have hc:c∈S.boxes:=aZ.ahS (LB _ (Lr.2 ⟨_,hx,rfl⟩));have ha:=h.sem hx hb hid fun b hb2 hne=>hk.same b (h.lt b hb2) (by simpa using hne)
 refine ⟨_,⟨ha,hk.mono fun b hb2=> ?_,fun b hb2 _=> ?_⟩,?_,rfl,rfl⟩
 .rw [KB.1 hb2]
  exact aZ.agr hc
 .have e1:({ S with ls:=sU c (fun _=>x') S.ls } :aZ).boxes=S.boxes:=by simp only [aZ.boxes,qb]
  exact ZbM
 .show ({ S.pure with aj:=(sU c (fun _=>x') S.ls).map (·.1) } :aE)=_
  rw [h.aj.ah2 (f:=fun y=>y) (nb:=fun y:bD=>y.id) (F:=F) (fun _=>rfl) hx hF];rfl
def o4.event {x x':aB} (F:aB->aB) (h:cJ w bj o S) (hx:(x,c)∈S.le) (hb:w1.heap[c]? =o_ (c_ (cG x') 91)) (hF:x'=F x) (hid:x'.id=x.id) (hk:aI w w1 [c]): ∃ S',o4 o bj S w S' w1/\S'.pure= { S.pure with L9:=jP (·.id) x.id F S.pure.L9 } /\S'.lp=S.lp/\S'.q=S.q:=by
 have hc:c∈S.boxes:=aZ.agZ (LB _ (Lr.2 ⟨_,hx,rfl⟩));have ha:=h.event hx hb hid fun b hb2 hne=>hk.same b (h.lt b hb2) (by simpa using hne)
 refine ⟨_,⟨ha,hk.mono fun b hb2=> ?_,fun b hb2 _=> ?_⟩,?_,rfl,rfl⟩
 .rw [KB.1 hb2]
  exact aZ.agr hc
 .have e1:({ S with le:=sU c (fun _=>x') S.le } :aZ).boxes=S.boxes:=by simp only [aZ.boxes,qb]
  exact ZbM
 .show ({ S.pure with L9:=(sU c (fun _=>x') S.le).map (·.1) } :aE)=_
  rw [h.L9.ah2 (f:=fun y=>y) (nb:=fun y:aB=>y.id) (F:=F) (fun _=>rfl) hx hF];rfl
def o4.ajl {x x':az} (F:az->az) (h:cJ w bj o S) (hx:(x,c)∈S.lb) (hb:w1.heap[c]? =o_ (c_ (cI x') 93)) (hF:x'=F x) (hid:x'.id=x.id) (hk:aI w w1 [c]): ∃ S',o4 o bj S w S' w1/\S'.pure= { S.pure with ag:=jP (·.id) x.id F S.pure.ag } /\S'.lp=S.lp/\S'.q=S.q:=by
 have hc:c∈S.boxes:=aZ.ag0 (LB _ (Lr.2 ⟨_,hx,rfl⟩));have ha:=h.ajl hx hb hid fun b hb2 hne=>hk.same b (h.lt b hb2) (by simpa using hne)
 refine ⟨_,⟨ha,hk.mono fun b hb2=> ?_,fun b hb2 _=> ?_⟩,?_,rfl,rfl⟩
 .rw [KB.1 hb2]
  exact aZ.agr hc
 .have e1:({ S with lb:=sU c (fun _=>x') S.lb } :aZ).boxes=S.boxes:=by simp only [aZ.boxes,qb]
  exact ZbM
 .show ({ S.pure with ag:=(sU c (fun _=>x') S.lb).map (·.1) } :aE)=_
  rw [h.ag.ah2 (f:=fun y=>y) (nb:=fun y:az=>y.id) (F:=F) (fun _=>rfl) hx hF];rfl
def o4.buffer {x x':au} (F:ci->ci) (h:cJ w bj o S) (hx:(x,c)∈S.lf) (hb:w1.heap[c]? =o_ (c_ (bQ x') 96)) (hm:aC.cO w1 bj x') (hF:x'.toci=F x.toci) (hid:x'.id=x.id) (hk:aI w w1 (c :: blk x.ak)) (hn: ∀ b∈blk x'.ak,b∈blk x.ak\/w.heap.size<=b): ∃ S',o4 o bj S w S' w1/\S'.pure= { S.pure with ae:=jP (·.id) x.id F S.pure.ae } /\S'.lp=S.lp/\S'.q=S.q/\(x',c)∈S'.lf:=by
 have hc:c∈S.boxes:=aZ.F9 (LB _ (Lr.2 ⟨_,hx,rfl⟩));have iH: ∀ b∈blk x.ak,b∈S.kids:=fun b hb2=>by
  unfold aZ.kids;simp only [Kg];exact .inr (.inl (Lq.2 ⟨_,hx,fZ.1 hb2⟩))
 have ha:=h.buffer hx hb hm hid (fun b hb2 hne hni=>hk.same b (h.lt b hb2) (by simp [hne,hni])) (fun b hb2=>(hn b hb2).imp_right fun h5 h6=>Nat.not_lt.2 h5 (h.lt b h6));refine ⟨_,⟨ha.1,hk.mono fun b hb2=> ?_,fun b hb2 hl=> ?_⟩,?_,rfl,rfl,show (x',c)∈sU c (fun _=>x') S.lf from yy.2 ⟨(x,c),hx,by simp⟩⟩
 .exact ZbY
 .exact Zbv
 .show ({ S.pure with ae:=(sU c (fun _=>x') S.lf).map (·.1.toci) } :aE)=_
  rw [h.ae.ah2 (f:=fun y:au=>y.toci) (nb:=fun y:ci=>y.id) (F:=F) (fun _=>rfl) hx hF];rfl
def o4.port {x x':aM} (F:dS->dS) (h:cJ w bj o S) (hx:(x,c)∈S.lq) (hb:w1.heap[c]? =o_ (c_ (cW x') 115)) (hm:aU.cO w1 bj x') (hF:x'.todS=F x.todS) (hid:x'.id=x.id) (hk:aI w w1 (c :: blk x.ak)) (hn: ∀ b∈blk x'.ak,b∈blk x.ak\/w.heap.size<=b): ∃ S',o4 o bj S w S' w1/\S'.pure= { S.pure with ai:=jP (·.id) x.id F S.pure.ai } /\S'.lp=S.lp/\S'.q=S.q/\(x',c)∈S'.lq:=by
 have hc:c∈S.boxes:=aZ.agV (LB _ (Lr.2 ⟨_,hx,rfl⟩));have iH: ∀ b∈blk x.ak,b∈S.kids:=fun b hb2=>by
  unfold aZ.kids;simp only [Kg];exact .inr (.inr (Lq.2 ⟨_,hx,fZ.1 hb2⟩))
 have ha:=h.port hx hb hm hid (fun b hb2 hne hni=>hk.same b (h.lt b hb2) (by simp [hne,hni])) (fun b hb2=>(hn b hb2).imp_right fun h5 h6=>Nat.not_lt.2 h5 (h.lt b h6));refine ⟨_,⟨ha.1,hk.mono fun b hb2=> ?_,fun b hb2 hl=> ?_⟩,?_,rfl,rfl,show (x',c)∈sU c (fun _=>x') S.lq from yy.2 ⟨(x,c),hx,by simp⟩⟩
 .exact ZbY
 .exact Zbv
 .show ({ S.pure with ai:=(sU c (fun _=>x') S.lq).map (·.1.todS) } :aE)=_
  rw [h.ai.ah2 (f:=fun y:aM=>y.todS) (nb:=fun y:dS=>y.id) (F:=F) (fun _=>rfl) hx hF];rfl
end
def agz (b:d_):v_:= .iface 287 (p_ (o_ b))
structure Ers (w:w_) (bj:Nat) (E:d_ × d_ × d_):Prop where
 past:w.cell? ⟨0,0,n_⟩=o_ (agz E.1)
 non:w.cell? ⟨2,0,n_⟩=o_ (agz E.2.1)
 not:w.cell? ⟨3,0,n_⟩=o_ (agz E.2.2)
 low:4<=bj
 ety:w.cell? ⟨1,0,n_⟩=o_ (.iface 250 (a_ #[p_ (o_ ⟨4,187,n_⟩)]))
 bx: ∀ b,b=E.1\/b=E.2.1\/b=E.2.2->b.block < bj/\ ∃ cs t,w.heap[b.block]? =o_ (c_ cs t)
 ne:E.1≠E.2.1/\E.1≠E.2.2/\E.2.1≠E.2.2
def Ers.below {w w':w_} {bj:Nat} {E:d_ × d_ × d_} (h:Ers w bj E) (hb:B_ bj w w'):Ers w' bj E:=by
 have hl:=h.low;exact ⟨(J1 (hb.block 0 zo)).trans h.past,(J1 (hb.block 2 zo)).trans h.non,(J1 (hb.block 3 zo)).trans h.not,hl,(J1 (hb.block 1 zo)).trans h.ety,fun b h5=>⟨(h.bx b h5).1,by obtain ⟨cs,t,h6⟩:=(h.bx b h5).2; exact ⟨cs,t,(hb.block b.block (h.bx b h5).1).trans h6⟩⟩,h.ne⟩
def aiB (E:d_ × d_ × d_) (c:Int):v_:=if c=0 then .nilIface else if c= -1 then agz E.1 else if c=3 then agz E.2.1 else if c=1 then agz E.2.2 else .iface 192 (a_ #[i_ j_ (c - 10)])
def agG {S:aZ} {g:Nat} {x:ao} {f:ao->ao} {nx:Int} (hx:(x,g)∈S.lp):g∈(S.ju g f nx).lp.map (·.2):=by
 show g∈(sU g f S.lp).map (·.2)
 rw [qb];exact Lr.2 ⟨_,hx,rfl⟩
def agf (E:d_ × d_ × d_) (o bj g:Nat) (S:aZ) (r:aE × Int) (w:w_) (e:Ending) (w':w_):Prop:= ∃ S',e=r_ (aiB E r.2)/\o4 o bj S w S' w'/\S'.pure=r.1/\(r.2= -1/\g∈S'.lp.map (·.2)\/afU g S S')
structure Job (w:w_) (bj o d g:Nat) (E:d_ × d_ × d_) (S:aZ) (x:ao) (op:dN) (bC:Int):Prop where
 dg:afb w bj o d g S op bC
 er:Ers w bj E
 hx:(x,g)∈S.lp
 right:aQ S.pure
 up:x.Md=1
 room:S.q.next<=999999990
 ok:kc op=true
 op:op=opAt x.toaD
 bC:0<=bC/\bC<=1000000000
section
variable {w:w_} {bj o d g:Nat} {E:d_ × d_ × d_} {S:aZ} {x:ao} {op:dN} {bC:Int}
def Job.wk (h:Job w bj o d g E S x op bC) (st:Int) (hs: ¬ st=0/\ ¬ st=1:=by decide):aij g S st:=
 ⟨h.right,by have:=h.room; omega,hs,fun y hy=>by rw [show y=x from congrArg Prod.fst (h.dg.at'.L8.one hy h.hx rfl)]; exact h.up⟩
def Job.nx (h:Job w bj o d g E S x op bC):0<=S.q.next/\S.q.next<=1000000000:=(h.wk 2).low
def Job.box (h:Job w bj o d g E S x op bC):w.heap[g]? =o_ (c_ (aX x) 41):=h.dg.at'.L8.box _ h.hx
def Job.ae9 (h:Job w bj o d g E S x op bC):o≠g:=(h.dg.at'.apart (aZ.ago (LB _ (Lr.2 ⟨_,h.hx,rfl⟩)))).1
def Job.dg' (h:Job w bj o d g E S x op bC):d≠g:=fun e=>h.dg.I (e ▸ aZ.agr (aZ.ago (LB _ (Lr.2 ⟨_,h.hx,rfl⟩))))
def Job.below {w1:w_} (h:Job w bj o d g E S x op bC) (hb:B_ w.heap.size w w1):Job w1 bj o d g E S x op bC:=
 ⟨h.dg.move (o4.below h.dg.at' hb),h.er.below ((o4.below h.dg.at' hb).cd h.dg.at' h.dg.low),h.hx,h.right,h.up,h.room,h.ok,h.op,h.bC⟩
def agf.pre {w1 w2:w_} {S1:aZ} {r:aE × Int} {e:Ending} (h:agf E o bj g S1 r w1 e w2) (hm:o4 o bj S w S1 w1) (hk:afU g S S1):agf E o bj g S r w e w2:=by
 obtain ⟨S',h1,h2,h3,h4⟩:=h;exact ⟨S',h1,hm.trans h2,h3,h4.imp_right fun h5=>hk.trans h5⟩
def agf.same {c:Int} {w1:w_} (h:Job w bj o d g E S x op bC) (hb:B_ w.heap.size w w1):agf E o bj g S (S.pure,c) w (r_ (aiB E c)) w1:=⟨S,rfl,o4.below h.dg.at' hb,rfl,.inr afU.refl⟩
def Job.ju {f:ao->ao} {f':aD->aD} {nx:Int} {w1:w_} (h:Job w bj o d g E S x op bC) (hf: ∀ y:ao,f y=⟨f' y.toaD,y.aY,y.bH⟩) (hf2: ∀ y,(f' y).id=y.id/\(f' y).prog=y.prog) (hc:w1.heap[g]? =o_ (c_ (aX (f x)) 41)) (ho:fa w1 o { S.q with next:=nx }) (hk:aI w w1 [g,o]):o4 o bj S w (S.ju g f nx) w1/\(S.ju g f nx).pure= { S.pure with next:=nx,L8:=ce x.id f' S.pure.L8 } :=by
 refine ⟨o4.ju h.dg.at' (fun y=>by rw [hf y]; exact ⟨(hf2 _).1,(hf2 _).2,rfl,rfl⟩) h.hx hc ho hk,?_⟩;exact aZ.Sb (agv h.right) (fun p hp hpg=>h.dg.at'.L8.one hp h.hx hpg) h.hx (fun y=>by rw [hf y])
end
end
section
open Go.Maps
attribute [local go_sem ↓] Kc Kd
def ajn {W:w_} {bj c:Nat} {a:Option d_} {l:List ByteArray} (t:ByteArray) (ho:W.ownsRow bj 9 1 (s_ a l.length c) l.length (bT.flat l)) (hl:l.length<=1000) (hb:bj<=W.heap.size):
  ∃ a' c' w',(Builtin.append_ #[94,94] 94 #[s_ a l.length c,s_ (o_ ⟨W.heap.size,0,n_⟩) 1 1]).run J3 (W.alloc (c_ #[t_ t] 9))= .ok (s_ a' (l.length+1) c') w'/\w'.ownsRow bj 9 1 (s_ a' (l ++ [t]).length c') (l ++ [t]).length (bT.flat (l ++ [t]))/\aI W w' (blk a)/\ ∀ g∈blk a',g∈blk a\/W.heap.size<=g:=by
 have hz:B_ W.heap.size W (W.alloc (c_ #[t_ t] 9)):=(Kp _ _).alloc (Ki _) _;obtain ⟨a',c',w',h1,h2,h3,h4⟩:=ou (W.alloc (c_ #[t_ t] 9)) bj a c l (ho.alloc _) (o_ ⟨W.heap.size,0,n_⟩) [t] 1 (jO (Kj _ _)) (by simp only [List.length_cons,List.length_nil]; omega) (LG hb hz.size);have e:(l ++ [t]).length=l.length+1:=by simp
 rw [e];exact ⟨a',c',w',h1,h2,aI.grown hz h3,fun g hg=>(h4 g hg).imp_right fun h5=>by rw [h5]; exact hz.size⟩
def agR {w w1:w_} {bj o c m:Nat} {S:aZ} {x:au} {l:List ByteArray} {a:Option d_} (h:cJ w bj o S) (hx:(x,c)∈S.lf) (hk:aI w w1 (blk x.ak)) (ho:w1.ownsRow bj 9 1 (s_ a l.length m) l.length (bT.flat l)) (hn: ∀ b∈blk a,b∈blk x.ak\/w.heap.size<=b):
  (∃ S',o4 o bj S w S' (w1.setCell ⟨c,2,n_⟩ (s_ a l.length m))/\S'.pure=cV x.id l S.pure/\S'.lp=S.lp/\S'.q=S.q/\(({ x with Ma:=l,ak:=a,aq:=m } :au),c)∈S'.lf)/\w1.heap[c]? =o_ (c_ (bQ x) 96):=by
 have hc:=h.apart (aZ.F9 (LB _ (Lr.2 ⟨_,hx,rfl⟩)));have iH: ∀ b∈blk x.ak,b∈S.kids:=fun b hb=>by
  unfold aZ.kids;simp only [Kg];exact .inr (.inl (Lq.2 ⟨_,hx,fZ.1 hb⟩))
 have lW:=h.ae.box _ hx;have hlt:=(J2.1 lW).1;have hb1:w1.heap[c]? =o_ (c_ (bQ x) 96):=(hk.same c hlt fun hm=>hc.2 c (iH c hm) rfl).trans lW;refine ⟨o4.buffer (x':= { x with Ma:=l,ak:=a,aq:=m }) (fun y=> { y with Ma:=l }) h hx (cx (i:=2) (v:=s_ a l.length m) hb1) (aL ho fun b hb=>aH fun e=> ?_) rfl rfl ((hk.mono (by simp +contextual)).trans (aI.cell.mono zw)) hn,hb1⟩;subst e;rcases hn _ hb with h5 | h5
 .exact hc.2 _ (iH _ h5) rfl
 .omega
def ahu {w w1:w_} {bj o c m:Nat} {S:aZ} {x:aM} {l:List ByteArray} {a:Option d_} (h:cJ w bj o S) (hx:(x,c)∈S.lq) (hk:aI w w1 (blk x.ak)) (ho:w1.ownsRow bj 9 1 (s_ a l.length m) l.length (bT.flat l)) (hn: ∀ b∈blk a,b∈blk x.ak\/w.heap.size<=b):
  (∃ S',o4 o bj S w S' (w1.setCell ⟨c,4,n_⟩ (s_ a l.length m))/\S'.pure=gU x.id l S.pure/\S'.lp=S.lp/\S'.q=S.q/\(({ x with Ma:=l,ak:=a,aq:=m } :aM),c)∈S'.lq)/\w1.heap[c]? =o_ (c_ (cW x) 115):=by
 have hc:=h.apart (aZ.agV (LB _ (Lr.2 ⟨_,hx,rfl⟩)));have iH: ∀ b∈blk x.ak,b∈S.kids:=fun b hb=>by
  unfold aZ.kids;simp only [Kg];exact .inr (.inr (Lq.2 ⟨_,hx,fZ.1 hb⟩))
 have lW:=h.ai.box _ hx;have hlt:=(J2.1 lW).1;have hb1:w1.heap[c]? =o_ (c_ (cW x) 115):=(hk.same c hlt fun hm=>hc.2 c (iH c hm) rfl).trans lW;refine ⟨o4.port (x':= { x with Ma:=l,ak:=a,aq:=m }) (fun y=> { y with Ma:=l }) h hx (cx (i:=4) (v:=s_ a l.length m) hb1) (aL ho fun b hb=>aH fun e=> ?_) rfl rfl ((hk.mono (by simp +contextual)).trans (aI.cell.mono zw)) hn,hb1⟩;subst e;rcases hn _ hb with h5 | h5
 .exact hc.2 _ (iH _ h5) rfl
 .omega
def ah7 (a:Option d_) (n c:Nat) (m:Int) (w:w_):k_ J3 188 #[s_ a n c,i_ j_ m] w fun e w'=>e=r_ (b_ (decide (m<=(n:Int))))/\w'=w:=by
 go_enter func188,ntmps188
 go_wp2;go_ret;exact ⟨rfl,rfl⟩
variable {w:w_} {bj o d g:Nat} {E:d_ × d_ × d_} {S:aZ} {x:ao} {op:dN} {bC:Int}
def aiK {b:au} {c:Nat} (h:aQ S.pure) (hb:(b,c)∈S.lf):(b.Ma.length:Int)<=b.max/\b.max<=5:=by
 have h1:=(cK h.ae b.toci (Lr.2 ⟨_,hb,rfl⟩)).2;simp only [ct,J7] at h1;exact ⟨(lv.1 h1.2).1,(bz.1 h1.1).2⟩
def aj3 {b:au} {c:Nat} (J:Job w bj o d g E S x op bC) (hs:(b,c)∈S.lf) (hid:b.id=op.2.1):
  k_ J3 154 #[p_ (o_ ⟨d,0,n_⟩),p_ (o_ ⟨c,0,n_⟩)] w fun e w'=>agf E o bj g S (ag8 op.2.1 op.2.2.2 S.pure b.toci) w e w':=by
 have iJ:=aiK J.right hs;have HL:bN (b.Ma.length<=1000):=by show _<=_; omega
 have HJ:=aA J;have HB:=aA hs;clear J hs
 go_enter func154,ntmps154
 go_wp2_with fail;refine (ahA o d g bj S op bC 6 w HJ.I.dg (HJ.I.wk 6)).mono ?_;rintro e w2 (⟨b1,rfl,hb2⟩ | ⟨y,S',b1,rfl,hm,hp,hkp⟩)
 .have H1:=aA b1
  .have HU:bN (B_ w.heap.size w w2.drew):=hb2.drew
   have hS:w2.drew.heap[d]? =o_ (c_ (dgV o g op bC) 142)/\w2.drew.heap[c]? =o_ (c_ (bQ b) 96):=⟨(HJ.I.below hb2).dg.box,(HJ.I.below hb2).dg.at'.ae.box _ HB.I⟩
   clear hb2 b1;go_wp2_with fail;refine Kr (S:=fun W=>W.heap[d]? =o_ (c_ (dgV o g op bC) 142)/\W.heap[c]? =o_ (c_ (bQ b) 96)) Zcq hS (fun _=> ?_)
   revert hS HU
   generalize w2.drew=V;intro HU hS;refine afJ 0 hS ?_;refine afJ 1 hS ?_;refine afJ 2 hS ?_;refine afJ 3 hS ?_;refine afJ 4 hS ?_;refine afJ 5 hS ?_;refine afJ 6 hS ?_;refine afJ 7 hS ?_;refine L7 8 (fun K hK=> ?_);go_wp2_with fail;refine (ah7 b.ak b.Ma.length b.aq b.max V).mono ?_;rintro e w3 ⟨rfl,hw3⟩;rw [hw3];clear hw3;go_wp2_with fail;refine hK.out _ _ hS (fun _=> ?_);clear hK K
   try simp only [pt,sb,s0,s1]
   refine K3 Zcq ?_ _;by_cases hfu:b.max<=(b.Ma.length:Int)
   .rw [decide_eq_true hfu]
    have HF:bN ((b.Ma.length:Int)=b.max):=by show _=_; omega
    clear hfu;go_wp2;go_ret;rw [show ag8 op.2.1 op.2.2.2 S.pure b.toci=(S.pure,15) by unfold ag8; rw [H1.I]; simp only [if_pos HF.I]];exact agf.same (c:=15) HJ.I HU.I
   rw [decide_eq_false hfu];have HF:bN (¬ (b.Ma.length:Int)=b.max):=by show ¬ _; omega
   have HT:bN (Job V.drew bj o d g E S x op bC/\B_ w.heap.size w V.drew):=⟨HJ.I.below HU.I.drew,HU.I.drew⟩
   have hS:V.drew.heap[d]? =o_ (c_ (dgV o g op bC) 142)/\V.drew.heap[c]? =o_ (c_ (bQ b) 96):=hS;clear hfu HU;go_wp2_with fail;refine Kr (S:=fun W=>W.heap[d]? =o_ (c_ (dgV o g op bC) 142)) Zcq hS.1 (fun _=> ?_)
   revert HT hS
   generalize V.drew=T;intro HT hS;have xD:=aA HT.I.2;replace HT:=aA HT.I.1;refine afJ 0 hS.1 ?_;refine afJ 1 hS.1 ?_;refine afJ 2 hS.1 ?_;refine afJ 3 hS.1 ?_;refine afJ 5 hS.1 ?_;refine afJ 6 hS.1 ?_;refine afJ 7 hS.1 ?_;refine afJ 8 hS.1 ?_;refine afJ 9 hS.1 ?_;have hz:B_ T.heap.size T (T.alloc (c_ #[t_ op.2.2.2] 9)):=(Kp _ _).alloc (Ki _) _;have y5:(T.alloc (c_ #[t_ op.2.2.2] 9)).heap[d]? =o_ (c_ (dgV o g op bC) 142)/\(T.alloc (c_ #[t_ op.2.2.2] 9)).heap[c]? =o_ (c_ (bQ b) 96):=⟨(hz.block _ (J2.1 hS.1).1).trans hS.1,(hz.block _ (J2.1 hS.2).1).trans hS.2⟩
   have af2:=(ia hS.2).2.2;have afy:=(ia y5.2).2.2;refine KW (rs:= [4,10]) Zcq zw ?_;refine KX rfl (fun K hK=> ?_) (KX rfl (fun K hK=> ?_) KY)
   .simp only [KZ,K0,K1]
    rw [if_pos (by rfl)];go_wp2_with fail;refine hK.out _ _ hS.1 (fun _=> ?_);clear hK K
    try simp only [pt,sb,s0,s1]
    refine L7 10 (fun K hK=> ?_);exact iv
   .simp only [KZ,K0,K1]
    rw [if_pos (by rfl)];go_wp2_with fail;refine hK.out _ _ y5.1 (fun _=> ?_);clear hK K
    try simp only [pt,sb,s0,s1]
    refine L7 4 (fun K hK=> ?_);exact iv
 .have HM:bN (jl 6 op.2.1 S.pure.L8=o_ y/\o4 o bj S w S' w2/\S'.pure=gF (lG op.2.2.2) S.pure y/\afU g S S'):=⟨b1,hm,hp,hkp⟩
  clear hm hp hkp b1;go_wp2;go_ret;rw [show ag8 op.2.1 op.2.2.2 S.pure b.toci=(gF (lG op.2.2.2) S.pure y,0) by unfold ag8; rw [HM.I.1]];exact ⟨S',rfl,HM.I.2.1,HM.I.2.2.1,.inr HM.I.2.2.2⟩
def aip {b:aM} {c:Nat} (h:aQ S.pure) (hb:(b,c)∈S.lq):(b.Ma.length:Int)<=b.max/\b.max<=5:=by
 have h1:=(cK h.ai b.todS (Lr.2 ⟨_,hb,rfl⟩)).2;simp only [dj,J7] at h1;exact ⟨(lv.1 h1.2).1,(bz.1 h1.1.1).2⟩
def ajE {b:aM} {c:Nat} (J:Job w bj o d g E S x op bC) (hs:(b,c)∈S.lq) (hid:b.id=op.2.1):
  k_ J3 161 #[p_ (o_ ⟨d,0,n_⟩),p_ (o_ ⟨c,0,n_⟩)] w fun e w'=>agf E o bj g S (agw op.2.1 op.2.2.2 S.pure b.todS) w e w':=by
 have iJ:=aip J.right hs;have HL:bN (b.Ma.length<=1000):=by show _<=_; omega
 obtain ⟨b0,b1,b2,b3,b4⟩:=gE (J.dg.at'.ai.box _ hs);have gn:=J.er.non;have gt:=J.er.not;have c5:=(agb J.dg.box).2.2.2.2.2.1;have HJ:=aA J;have HB:=aA hs;clear J hs;cases ho:b.I with
 | false=>
  rw [ho] at b1;rw [show agw op.2.1 op.2.2.2 S.pure b.todS=(S.pure,3) by unfold agw; rw [if_pos (show b.todS.I=false from ho)]]
  go_enter func161,ntmps161
  exact V_
 | true=>
 rw [ho] at b1;have HO:=aA ho;cases hq:b.Mf with
 | false=>
  rw [hq] at b2;rw [show agw op.2.1 op.2.2.2 S.pure b.todS=(gU op.2.1 [op.2.2.2] S.pure,0) by unfold agw; rw [if_neg (by rw [show b.todS.I=true from ho]; decide),if_pos (show b.todS.Mf=false from hq)]];have hz:B_ w.heap.size w (w.alloc (c_ #[t_ op.2.2.2] 9)):=(Kp _ _).alloc (Ki _) _;obtain ⟨hM,gh⟩:=ahu (l:= [op.2.2.2]) (a:=o_ ⟨w.heap.size,0,n_⟩) (m:=1) HJ.I.dg.at' HB.I (aI.dI hz) (cq (IN w op.2.2.2) HJ.I.dg.low) (fun b' hb'=> .inr (by have h5:=fZ.1 hb'; simp at h5; omega));have HM:=aA hM;have af2:=(gE gh).2.2.2.2;have afE:(w.alloc (c_ #[t_ op.2.2.2] 9)).frozen? ⟨c,4,n_⟩=false:=Ko _ _ _ _ _ gh;clear hM gh hz ho hq
  go_enter func161,ntmps161
  go_wp2;go_ret;obtain ⟨S',m1,m2,m3,-⟩:=HM.I;exact ⟨S',rfl,m1,by rw [<- hid]; exact m2,.inr (afU.of m3)⟩
 | true=>
 rw [hq] at b2;have HQ:=aA hq;clear ho hq
 go_enter func161,ntmps161
 .skip
  .have HU:bN (B_ w.heap.size w w.drew):=(Kp _ _).drew
   have hS:w.drew.heap[d]? =o_ (c_ (dgV o g op bC) 142)/\w.drew.heap[c]? =o_ (c_ (cW b) 115):=⟨HJ.I.dg.box,HJ.I.dg.at'.ai.box _ HB.I⟩
   have HG:bN (w.drew.cell? ⟨3,0,n_⟩=o_ (agz E.2.2)):=gt;go_wp2_with fail;clear b0 b1 b2 b3 b4 gn gt c5;refine Kr (S:=fun W=>W.heap[d]? =o_ (c_ (dgV o g op bC) 142)/\W.heap[c]? =o_ (c_ (cW b) 115)) Zcq hS (fun _=> ?_)
   revert hS HU HG
   generalize w.drew=V;intro HU hS HG;refine afJ 0 hS ?_;refine afJ 1 hS ?_;refine afJ 2 hS ?_;refine afJ 3 hS ?_;refine afJ 4 hS ?_;refine afJ 5 hS ?_;refine afJ 6 hS ?_;refine afJ 7 hS ?_;refine L7 8 (fun K hK=> ?_);go_wp2_with fail;refine (ah7 b.ak b.Ma.length b.aq b.max V).mono ?_;rintro e w3 ⟨rfl,hw3⟩;rw [hw3];clear hw3;go_wp2_with fail;refine hK.out _ _ hS (fun _=> ?_);clear hK K
   try simp only [pt,sb,s0,s1]
   refine tt 9 hS ?_;refine K3 Zcq ?_ _;by_cases hfu:b.max<=(b.Ma.length:Int)
   .rw [decide_eq_true hfu]
    have HF:bN ((b.Ma.length:Int)=b.max):=by show _=_; omega
    have gt:=HG.I;clear hfu;go_wp2;go_ret;rw [show agw op.2.1 op.2.2.2 S.pure b.todS=(S.pure,1) by unfold agw; rw [if_neg (by rw [show b.todS.I=true from HO.I]; decide),if_neg (by rw [show b.todS.Mf=true from HQ.I]; decide),if_pos HF.I]];exact agf.same (c:=1) HJ.I HU.I
   rw [decide_eq_false hfu];have HF:bN (¬ (b.Ma.length:Int)=b.max):=by show ¬ _; omega
   have HT:bN (Job V.drew bj o d g E S x op bC/\B_ w.heap.size w V.drew):=⟨HJ.I.below HU.I.drew,HU.I.drew⟩
   have hS:V.drew.heap[d]? =o_ (c_ (dgV o g op bC) 142)/\V.drew.heap[c]? =o_ (c_ (cW b) 115):=hS;clear hfu HU;go_wp2_with fail;refine Kr (S:=fun W=>W.heap[d]? =o_ (c_ (dgV o g op bC) 142)) Zcq hS.1 (fun _=> ?_)
   revert HT hS
   generalize V.drew=T;intro HT hS;have xD:=aA HT.I.2;replace HT:=aA HT.I.1;refine afJ 0 hS.1 ?_;refine afJ 1 hS.1 ?_;refine afJ 2 hS.1 ?_;refine afJ 3 hS.1 ?_;refine afJ 5 hS.1 ?_;refine afJ 6 hS.1 ?_;refine afJ 7 hS.1 ?_;refine afJ 8 hS.1 ?_;refine afJ 9 hS.1 ?_;have hz:B_ T.heap.size T (T.alloc (c_ #[t_ op.2.2.2] 9)):=(Kp _ _).alloc (Ki _) _;have y5:(T.alloc (c_ #[t_ op.2.2.2] 9)).heap[d]? =o_ (c_ (dgV o g op bC) 142)/\(T.alloc (c_ #[t_ op.2.2.2] 9)).heap[c]? =o_ (c_ (cW b) 115):=⟨(hz.block _ (J2.1 hS.1).1).trans hS.1,(hz.block _ (J2.1 hS.2).1).trans hS.2⟩
   have af2:=(gE hS.2).2.2.2.2;have afy:=(gE y5.2).2.2.2.2;refine KW (rs:= [4,10]) Zcq zw ?_;refine KX rfl (fun K hK=> ?_) (KX rfl (fun K hK=> ?_) KY)
   .simp only [KZ,K0,K1]
    rw [if_pos (by rfl)];go_wp2_with fail;refine hK.out _ _ hS.1 (fun _=> ?_);clear hK K
    try simp only [pt,sb,s0,s1]
    refine L7 10 (fun K hK=> ?_);exact ir
   .simp only [KZ,K0,K1]
    rw [if_pos (by rfl)];go_wp2_with fail;refine hK.out _ _ y5.1 (fun _=> ?_);clear hK K
    try simp only [pt,sb,s0,s1]
    refine L7 4 (fun K hK=> ?_);exact ir
variable {w:w_} {bj o d g:Nat} {E:d_ × d_ × d_} {S:aZ} {x:ao} {op:dN} {bC:Int}
def blockD (nx st on:Int) (held:ByteArray) (Mg:Int) (y:ao):ao:=⟨zb nx st on held Mg y.toaD,y.aY,y.bH⟩
def ai6 (nx Mg:Int) (y:ao):ao:=⟨ahr nx Mg y.toaD,y.aY,y.bH⟩
def ah4 {w1:w_} {y:ao} {f:ao->ao} (h:cJ w bj o S) (hx:(x,g)∈S.lp) (hk:aI w w1 [g]) (hb:w1.heap[g]? =o_ (c_ (aX y) 41)) (hf: ∀ x,(f x).id=x.id/\(f x).prog=x.prog/\(f x).aY=x.aY/\(f x).bH=x.bH) (hy:f x= { y with RU:=S.q.next }):
  o4 o bj S w (S.ju g f (S.q.next+1)) ((w1.setCell ⟨g,11,n_⟩ (i_ j_ S.q.next)).setCell ⟨o,1,n_⟩ (i_ j_ (S.q.next+1))):=by
 have ha:=(h.apart (aZ.ago (LB _ (Lr.2 ⟨_,hx,rfl⟩)))).1;have ho:w1.heap[o]? =_:=(hk.same o (h.lt o zw) (by simpa using ha)).trans h.opn;have DU:(w1.setCell ⟨g,11,n_⟩ (i_ j_ S.q.next)).heap[o]? =_:=(aH ha).trans ho;refine o4.ju h hf hx ?_ (cx (i:=1) (v:=i_ j_ (S.q.next+1)) DU) (((hk.trans aI.cell).mono zw).trans (aI.cell.mono zw));rw [hy];exact (aH fun e=>ha e.symm).trans (cx (i:=11) (v:=i_ j_ S.q.next) hb)
def ahI {w1:w_} {y:ao} (h:cJ w bj o S) (hx:(x,g)∈S.lp) (hk:aI w w1 [g]) (hb:w1.heap[g]? =o_ (c_ (aX y) 41)):w1.cell? ⟨o,1,n_⟩=o_ (i_ j_ S.q.next)/\w1.frozen? ⟨o,1,n_⟩=false/\(∃ u,w1.cell? ⟨g,11,n_⟩=o_ u)/\w1.frozen? ⟨g,11,n_⟩=false/\ ¬ o=g:=by
 have ha:=(h.apart (aZ.ago (LB _ (Lr.2 ⟨_,hx,rfl⟩)))).1;have ho:fa w1 o S.q:=(hk.same o (h.lt o zw) (by simpa using ha)).trans h.opn;exact ⟨ho.cell 1,Ko _ _ _ _ _ ho,⟨_,(bo hb).2.2.2.2.2.2.2.2.2.2.2⟩,Ko _ _ _ _ _ hb,ha⟩
def ajs (st:Int) (h:afb w bj o d g S op bC) (hx:(x,g)∈S.lp) (n0:0<=S.q.next) (n1:S.q.next<=1000000000) (m0: -1<=op.2.2.1) (m1:op.2.2.1<=1000) (hm: ¬ op.2.2.1=0) (w0':0<=bC) (w1':bC<=1000000000):
  k_ J3 113 #[p_ (o_ ⟨d,0,n_⟩),i_ j_ st] w fun e w'=>e=r_ (u_ #[])/\o4 o bj S w (S.ju g (blockD S.q.next st op.2.1 op.2.2.2 (kZ bC op.2.2.1)) (S.q.next+1)) w':=by
 have hS:=h.box;have hX:=h.at'.L8.box _ hx;have HD:bN (d≠g):=fun e=>h.I (e ▸ aZ.agr (aZ.ago (LB _ (Lr.2 ⟨_,hx,rfl⟩))))
 have H:bN (cJ w bj o S/\(x,g)∈S.lp):=⟨h.at',hx⟩
 obtain ⟨V,hV⟩: ∃ V,V=w.drew:=⟨_,rfl⟩
 have HV:bN (aI w V [g]):=by show aI w V [g]; rw [hV]; exact aI.dI (Kp _ w).drew
 have c1:=(agb hS).2.1;have hS:w.drew.heap[d]? =o_ (c_ (dgV o g op bC) 142):=hS;have hX:w.drew.heap[g]? =o_ (c_ (aX x) 41):=hX;clear h hx
 go_enter func113,ntmps113
 go_wp2_with fail;refine Kr (S:=fun W=>W.heap[d]? =o_ (c_ (dgV o g op bC) 142)) Zcq hS (fun _=> ?_);rw [<- hV] at hS hX;rw [<- hV];clear hV c1
 .skip
  refine afJ 0 hS ?_;refine afJ 1 hS ?_;refine afJ 2 hS ?_;refine afJ 3 hS ?_;refine afJ 4 hS ?_;refine afJ 5 hS ?_;refine afJ 6 hS ?_;refine afJ 7 hS ?_;refine afJ 8 hS ?_;refine afJ 9 hS ?_;refine afJ 10 hS ?_;refine afJ 11 hS ?_;refine afJ 12 hS ?_;refine afJ 13 hS ?_;refine afJ 14 hS ?_;refine afJ 15 hS ?_;refine afJ 16 hS ?_;have c3:=(bo hX).2.2.2.1;have f3:V.frozen? ⟨g,3,n_⟩=false:=Ko _ _ _ _ _ hX;refine L7 17 (fun K hK=> ?_);go_wp2;replace hX:(V.setCell ⟨g,3,n_⟩ (i_ j_ st)).heap[g]? =o_ (c_ (aX ({ x with Md:=st } :ao)) 41):=cx (i:=3) (v:=i_ j_ st) hX;replace hS:(V.setCell ⟨g,3,n_⟩ (i_ j_ st)).heap[d]? =o_ (c_ (dgV o g op bC) 142):=(aH HD.I).trans hS;refine hK.out _ _ hS (fun _=> ?_);clear hK K c3 f3
  try simp only [pt,sb,s0,s1]
  refine afJ 18 hS ?_;refine afJ 19 hS ?_;have c7:=(bo hX).2.2.2.2.2.2.2.1;have f7:(V.setCell ⟨g,3,n_⟩ (i_ j_ st)).frozen? ⟨g,7,n_⟩=false:=Ko _ _ _ _ _ hX;refine L7 20 (fun K hK=> ?_);go_wp2;replace hX:((V.setCell ⟨g,3,n_⟩ (i_ j_ st)).setCell ⟨g,7,n_⟩ (i_ j_ op.2.1)).heap[g]? =o_ (c_ (aX ({ x with Md:=st,on:=op.2.1 } :ao)) 41):=cx (i:=7) (v:=i_ j_ op.2.1) hX;replace hS:((V.setCell ⟨g,3,n_⟩ (i_ j_ st)).setCell ⟨g,7,n_⟩ (i_ j_ op.2.1)).heap[d]? =o_ (c_ (dgV o g op bC) 142):=(aH HD.I).trans hS;refine hK.out _ _ hS (fun _=> ?_);clear hK K c7 f7
  try simp only [pt,sb,s0,s1]
  refine afJ 21 hS ?_;refine afJ 22 hS ?_;have c8:=(bo hX).2.2.2.2.2.2.2.2.1;have f8:((V.setCell ⟨g,3,n_⟩ (i_ j_ st)).setCell ⟨g,7,n_⟩ (i_ j_ op.2.1)).frozen? ⟨g,8,n_⟩=false:=Ko _ _ _ _ _ hX;refine L7 23 (fun K hK=> ?_);go_wp2;replace hX:(((V.setCell ⟨g,3,n_⟩ (i_ j_ st)).setCell ⟨g,7,n_⟩ (i_ j_ op.2.1)).setCell ⟨g,8,n_⟩ (t_ op.2.2.2)).heap[g]? =o_ (c_ (aX ({ x with Md:=st,on:=op.2.1,held:=op.2.2.2 } :ao)) 41):=cx (i:=8) (v:=t_ op.2.2.2) hX;replace hS:(((V.setCell ⟨g,3,n_⟩ (i_ j_ st)).setCell ⟨g,7,n_⟩ (i_ j_ op.2.1)).setCell ⟨g,8,n_⟩ (t_ op.2.2.2)).heap[d]? =o_ (c_ (dgV o g op bC) 142):=(aH HD.I).trans hS;refine hK.out _ _ hS (fun _=> ?_);clear hK K c8 f8
  try simp only [pt,sb,s0,s1]
  refine afJ 24 hS ?_;refine afJ 25 hS ?_;have c6:=(bo hX).2.2.2.2.2.2.1;have f6:(((V.setCell ⟨g,3,n_⟩ (i_ j_ st)).setCell ⟨g,7,n_⟩ (i_ j_ op.2.1)).setCell ⟨g,8,n_⟩ (t_ op.2.2.2)).frozen? ⟨g,6,n_⟩=false:=Ko _ _ _ _ _ hX;refine L7 26 (fun K hK=> ?_);go_wp2;replace hX:((((V.setCell ⟨g,3,n_⟩ (i_ j_ st)).setCell ⟨g,7,n_⟩ (i_ j_ op.2.1)).setCell ⟨g,8,n_⟩ (t_ op.2.2.2)).setCell ⟨g,6,n_⟩ (i_ j_ (-1))).heap[g]? =o_ (c_ (aX ({ x with Md:=st,on:=op.2.1,held:=op.2.2.2,Mg:= -1 } :ao)) 41):=cx (i:=6) (v:=i_ j_ (-1)) hX;replace hS:((((V.setCell ⟨g,3,n_⟩ (i_ j_ st)).setCell ⟨g,7,n_⟩ (i_ j_ op.2.1)).setCell ⟨g,8,n_⟩ (t_ op.2.2.2)).setCell ⟨g,6,n_⟩ (i_ j_ (-1))).heap[d]? =o_ (c_ (dgV o g op bC) 142):=(aH HD.I).trans hS;refine hK.out _ _ hS (fun _=> ?_);clear hK K c6 f6
  try simp only [pt,sb,s0,s1]
  refine K3 Zcq ?_ _;have HK:bN (aI w ((((V.setCell ⟨g,3,n_⟩ (i_ j_ st)).setCell ⟨g,7,n_⟩ (i_ j_ op.2.1)).setCell ⟨g,8,n_⟩ (t_ op.2.2.2)).setCell ⟨g,6,n_⟩ (i_ j_ (-1))) [g]):=(((HV.I.trans aI.cell).trans aI.cell).trans aI.cell).trans aI.cell;clear HV
  revert hX hS HK
  generalize ((((V.setCell ⟨g,3,n_⟩ (i_ j_ st)).setCell ⟨g,7,n_⟩ (i_ j_ op.2.1)).setCell ⟨g,8,n_⟩ (t_ op.2.2.2)).setCell ⟨g,6,n_⟩ (i_ j_ (-1)))=U;intro hX hS HK;obtain ⟨q0,q1,q2,q3,q4,q5,q6⟩:=agb hS;by_cases hp:0 < op.2.2.1
  .have HW:bN (kZ bC op.2.2.1=bC+op.2.2.1):=by show kZ bC op.2.2.1=_; unfold kZ; rw [if_pos zo]
   have H6:bN (U.drew.cell? ⟨g,6,n_⟩=o_ (i_ j_ (-1))/\U.drew.frozen? ⟨g,6,n_⟩=false):=⟨(bo hX).2.2.2.2.2.2.1,Ko _ _ _ _ _ hX⟩
   have HX:bN ((U.drew.setCell ⟨g,6,n_⟩ (i_ j_ (bC+op.2.2.1))).heap[g]? =o_ (c_ (aX ({ x with Md:=st,on:=op.2.1,held:=op.2.2.2,Mg:=bC+op.2.2.1 } :ao)) 41)/\(U.drew.setCell ⟨g,6,n_⟩ (i_ j_ (bC+op.2.2.1))).heap[d]? =o_ (c_ (dgV o g op bC) 142)/\aI w (U.drew.setCell ⟨g,6,n_⟩ (i_ j_ (bC+op.2.2.1))) [g]):=⟨cx (i:=6) (v:=i_ j_ (bC+op.2.2.1)) hX,(aH HD.I).trans hS,(HK.I.trans (aI.dI (Kp _ U).drew)).trans aI.cell⟩
   clear hX hS HK;go_wp2_with fail;refine eD (fun w'=>w'=U.drew) 13 Zcq rfl ?_
   iterate 13 (refine ly 14 (v:= ?_) (o_ _) rfl rfl Zcq (fun _ _ _ h=>h) (bV Zcq ?_) ?_; rotate_left; (intro w0 hS0; subst hS0; go_simp; try with_reducible rfl); simp only [pt,sb,s0,s1])
   refine fL rfl Zcq Zcq Zcq ?_;intro w1 cm;subst cm;clear q0 q1 q2 q3 q4 q5 q6
   revert H6 HX
   generalize U.drew=T;intro H6 HX;obtain ⟨c6,f6⟩:=H6.I;have q0:=(agb HX.I.2.1).1;obtain ⟨l1,l2,l3,l4,l5⟩:=ahI H.I.1 H.I.2 HX.I.2.2 HX.I.1;have Mb:=wE o g S.q.next _ l1 l2 l3 l4 l5 n0 n1;clear l1 l2 l3 l4 l5;go_wp2_with fail;refine Mb.mono ?_;clear Mb c6 f6 q0;rintro e w2 ⟨rfl,rfl⟩;go_wp2
   go_end0
   exact ⟨rfl,ah4 H.I.1 H.I.2 HX.I.2.2 HX.I.1 (fun _=>⟨rfl,rfl,rfl,rfl⟩) (by rw [HW.I]; rfl)⟩
  .have HW:bN (kZ bC op.2.2.1= -1):=by show kZ bC op.2.2.1=_; unfold kZ; rw [if_neg zo]
   have HX:bN (U.heap[g]? =o_ (c_ (aX ({ x with Md:=st,on:=op.2.1,held:=op.2.2.2,Mg:= -1 } :ao)) 41)/\aI w U [g]):=⟨hX,HK.I⟩
   obtain ⟨l1,l2,l3,l4,l5⟩:=ahI H.I.1 H.I.2 HX.I.2 HX.I.1;have Mb:=wE o g S.q.next _ l1 l2 l3 l4 l5 n0 n1;clear l1 l2 l3 l4 l5 hX hS HK;go_wp2_with fail;refine Mb.mono ?_;clear Mb q0 q1 q2 q3 q4 q5 q6;rintro e w2 ⟨rfl,rfl⟩;go_wp2
   go_end0
   exact ⟨rfl,ah4 H.I.1 H.I.2 HX.I.2 HX.I.1 (fun _=>⟨rfl,rfl,rfl,rfl⟩) (by rw [HW.I]; rfl)⟩
def ajz (J:Job w bj o d g E S x op bC) (hk:op.1=2):
  k_ J3 145 #[p_ (o_ ⟨d,0,n_⟩)] w fun e w'=>agf E o bj g S (aiX bC x.toaD op S.pure) w e w':=by
 have hn:=(dv J.ok).2.1 zo;obtain ⟨m0,m1⟩:=hn;obtain ⟨w0',w1'⟩:=J.bC;obtain ⟨n0,n1⟩:=J.nx;have HD:bN (d≠g):=J.dg';have HJ:=aA J;obtain ⟨V,hV⟩: ∃ V,V=w.drew:=⟨_,rfl⟩
 have HV:bN (aI w V [g]):=by show aI w V [g]; rw [hV]; exact aI.dI (Kp _ w).drew
 have hS:w.drew.heap[d]? =o_ (c_ (dgV o g op bC) 142):=J.dg.box;have hX:w.drew.heap[g]? =o_ (c_ (aX x) 41):=J.box;unfold aiX;clear J
 go_enter func145,ntmps145
 go_wp2_with fail;refine Kr (S:=fun W=>W.heap[d]? =o_ (c_ (dgV o g op bC) 142)) Zcq hS (fun _=> ?_);rw [<- hV] at hS hX;rw [<- hV];clear hV
 .skip
  refine afJ 0 hS ?_;refine afJ 1 hS ?_;refine afJ 2 hS ?_;refine afJ 3 hS ?_;refine afJ 4 hS ?_;refine afJ 5 hS ?_;refine afJ 6 hS ?_;refine afJ 7 hS ?_;refine afJ 8 hS ?_;refine afJ 9 hS ?_;refine afJ 10 hS ?_;refine afJ 11 hS ?_;refine afJ 12 hS ?_;refine afJ 13 hS ?_;refine afJ 14 hS ?_;refine afJ 15 hS ?_;refine afJ 16 hS ?_;refine afJ 17 hS ?_;refine afJ 18 hS ?_;refine afJ 19 hS ?_;have c3:=(bo hX).2.2.2.1;have f3:V.frozen? ⟨g,3,n_⟩=false:=Ko _ _ _ _ _ hX;refine L7 20 (fun K hK=> ?_);go_wp2;replace hX:(V.setCell ⟨g,3,n_⟩ (i_ j_ 2)).heap[g]? =o_ (c_ (aX ({ x with Md:=2 } :ao)) 41):=cx (i:=3) (v:=i_ j_ 2) hX;replace hS:(V.setCell ⟨g,3,n_⟩ (i_ j_ 2)).heap[d]? =o_ (c_ (dgV o g op bC) 142):=(aH HD.I).trans hS;refine hK.out _ _ hS (fun _=> ?_);clear hK K c3 f3
  try simp only [pt,sb,s0,s1]
  refine afJ 21 hS ?_;refine afJ 22 hS ?_;have c6:=(bo hX).2.2.2.2.2.2.1;have f6:(V.setCell ⟨g,3,n_⟩ (i_ j_ 2)).frozen? ⟨g,6,n_⟩=false:=Ko _ _ _ _ _ hX;refine L7 23 (fun K hK=> ?_);go_wp2;replace hX:((V.setCell ⟨g,3,n_⟩ (i_ j_ 2)).setCell ⟨g,6,n_⟩ (i_ j_ (bC+op.2.1))).heap[g]? =o_ (c_ (aX ({ x with Md:=2,Mg:=bC+op.2.1 } :ao)) 41):=cx (i:=6) (v:=i_ j_ (bC+op.2.1)) hX;replace hS:((V.setCell ⟨g,3,n_⟩ (i_ j_ 2)).setCell ⟨g,6,n_⟩ (i_ j_ (bC+op.2.1))).heap[d]? =o_ (c_ (dgV o g op bC) 142):=(aH HD.I).trans hS;refine hK.out _ _ hS (fun _=> ?_);clear hK K c6 f6
  try simp only [pt,sb,s0,s1]
  refine K3 Zcq ?_ _;have HK:bN (aI w ((V.setCell ⟨g,3,n_⟩ (i_ j_ 2)).setCell ⟨g,6,n_⟩ (i_ j_ (bC+op.2.1))) [g]):=(HV.I.trans aI.cell).trans aI.cell;clear HV
  revert hX hS HK
  generalize ((V.setCell ⟨g,3,n_⟩ (i_ j_ 2)).setCell ⟨g,6,n_⟩ (i_ j_ (bC+op.2.1)))=U;intro hX hS HK;have HX:bN (U.drew.heap[g]? =o_ (c_ (aX ({ x with Md:=2,Mg:=bC+op.2.1 } :ao)) 41)/\aI w U.drew [g]):=⟨hX,HK.I.trans (aI.dI (Kp _ U).drew)⟩
  have hS:U.drew.heap[d]? =o_ (c_ (dgV o g op bC) 142):=hS;clear hX HK;go_wp2_with fail;refine Kr (S:=fun W=>W.heap[d]? =o_ (c_ (dgV o g op bC) 142)) Zcq hS (fun _=> ?_)
  revert HX hS
  generalize U.drew=T;intro HX hS;obtain ⟨l1,l2,l3,l4,l5⟩:=ahI HJ.I.dg.at' HJ.I.hx HX.I.2 HX.I.1;have Mb:=wE o g S.q.next _ l1 l2 l3 l4 l5 n0 n1;clear l1 l2 l3 l4 l5;refine afJ 0 hS ?_;refine afJ 1 hS ?_;refine afJ 2 hS ?_;refine afJ 3 hS ?_;refine afJ 4 hS ?_;refine afJ 5 hS ?_;refine afJ 6 hS ?_;refine afJ 7 hS ?_;refine L7 8 (fun K hK=> ?_);go_wp2_with fail;refine Mb.mono ?_;clear Mb;rintro e w2 ⟨rfl,rfl⟩;have HM:=aA (ah4 (f:=ai6 S.q.next (bC+op.2.1)) HJ.I.dg.at' HJ.I.hx HX.I.2 HX.I.1 (fun _=>⟨rfl,rfl,rfl,rfl⟩) rfl);have gp:=(HJ.I.er.below (HM.I.cd HJ.I.dg.at' HJ.I.dg.low)).past;have y5:=(HJ.I.dg.move HM.I).box;have HP:bN ((S.ju g (ai6 S.q.next (bC+op.2.1)) (S.q.next+1)).pure= { S.pure with next:=S.pure.next+1,L8:=ce x.toaD.id (ahr S.pure.next (bC+op.2.1)) S.pure.L8 }):=aZ.Sb (nx:=S.q.next+1) (f:=ai6 S.q.next (bC+op.2.1)) (f':=ahr S.q.next (bC+op.2.1)) (agv HJ.I.right) (fun p hp hpg=>HJ.I.dg.at'.L8.one hp HJ.I.hx hpg) HJ.I.hx (fun _=>rfl)
  revert HM gp y5
  generalize ((T.setCell ⟨g,11,n_⟩ (i_ j_ S.q.next)).setCell ⟨o,1,n_⟩ (i_ j_ (S.q.next+1)))=YC;intro HM gp y5;go_wp2;refine hK.out _ _ y5 (fun _=> ?_);clear hK K
  try simp only [pt,sb,s0,s1]
  refine K3 Zcq ?_ _;go_wp2;go_ret;exact ⟨_,rfl,HM.I,HP.I,.inl ⟨rfl,agG HJ.I.hx⟩⟩
end
end Go.Proofs.YtfncpmaefninjaaGreatDoor
