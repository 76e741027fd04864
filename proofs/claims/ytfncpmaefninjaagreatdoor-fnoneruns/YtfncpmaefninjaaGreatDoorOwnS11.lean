/- What the proof leans on, part 11. -/
import Derived.Test.YtfncpmaefninjaaGreatDoorOwnS10
set_option linter.defProp false
set_option linter.unusedVariables false
set_option maxRecDepth 100000
set_option maxHeartbeats 8000000
open Go.Proofs.Tryz
open Go renaming World->w_,Value->v_,Calls->k_,Addr->d_,TypeId->T_,below_setRow->q_
open Go.Ending renaming returned->r_
open Go.IntKind renaming i64->j_
open Go.Obj renaming cells->c_
open Go.RowKit renaming Below->B_
open Go.Value renaming int->i_,slice->s_,bool->b_,string->t_,agg->a_,pointer->p_,tuple->u_
open Option renaming some->o_,none->n_
open Array renaming getElem?_eq_some_iff->J2
open Bool renaming and_eq_true->J7,and_false->PP
open Function renaming comp_def->Ls
open Go renaming heap_alloc_new->Kj,setRow_other->KH,wpAnyH_done->K3,wpAnyH_ready->KW,wpList_load_row->LS,wp_at_succ->Kd,wp_at_zero->Kc,wp_region_held_drew->Kr
open Go.AllReadyH renaming cons->KX,nil->KY
open Go.IntKind renaming wrap_i64->K8
open Go.Proofs.Tryz renaming prog->J3
open Go.RowKit.Below renaming refl->Kp
open Go.World renaming cell?_of_block->J1
open List renaming append_assoc->Lm,filterMap_append->LW,filterMap_cons->LH,find?_cons_of_neg->aeD,find?_cons_of_pos->aeC,getElem?_eq_getElem->Kz,getElem?_eq_some_iff->Lj,getElem?_set_self->LU,getElem_cons_succ->K1,getElem_cons_zero->K0,getElem_toArray->KZ,length_append->Lf,length_cons->Lg,length_drop->Ql,length_filter_le->Qq,length_nil->K4,map_append->Kl,map_congr_left->Lw,map_cons->Lt,map_map->Lv,mem_append->Kg,mem_append_left->Lz,mem_append_right->Ly,mem_cons->Kt,mem_cons_of_mem->LB,mem_filter->L2,mem_filterMap->Lq,mem_map->Lr,mem_of_getElem?->KA,nil_append->Ll,nodup_append->Kf,nodup_cons->Lp,not_mem_nil->Ku,take_length->LQ
open Nat renaming le_refl->Ki,le_trans->LG,lt_of_lt_of_le->Kn,zero_add->Li
open Option renaming map_some->J9

namespace Go.Proofs.YtfncpmaefninjaaGreatDoor
section
open Go.RowKit Go.Maps
attribute [local go_sem ↓] Kc Kd
def yY (N:Int) (l k:List ByteArray) (p:aE):cV N l (cV N k p)=cV N l p:=by
 unfold cV jP;simp only [Lv]
 congr 1
 refine Lw fun z _=> ?_
 simp only [Ls];by_cases h:z.id=N <;> simp [h]
def Ig {W:w_} {base Y5 gp:Nat} {q:af} (h:ap W base q) (iE:q.am=o_ ⟨Y5,0,n_⟩) (l9:q.aN=o_ ⟨gp,0,n_⟩):Y5≠gp:=by
 have h1:=h.nodup;unfold af.Mc at h1;obtain ⟨-,-,h3⟩:=Kf.1 h1;exact fun e=>h3 gp (by rw [l9]; simp [blk]) Y5 (by simp only [Kg]; exact .inr (.inr (.inr (.inr (.inl (by rw [iE]; simp [blk])))))) e.symm
def C0 (q:af) (n base:Nat) (x:ao) (now:Int) (o:dN) (w:w_) (h:ap w base q) (hb:base<=w.heap.size) (hr:aQ q.pure) (hx:q.L8[n]? =o_ x) (hs:x.Md=1) (hn:q.next<=999999990) (eu:0<=now/\now<=1000000000) (ho:kc o=true) (hk:o.1=9):
  k_ J3 90 #[a_ q.cells,i_ j_ n,a_ (j9 o),i_ j_ now] w (jH w base q (ka o now x.id q.pure)):=by
 obtain ⟨-,f1,f2,f3,f4⟩:=dv ho;have hM:=bz.1 f2;obtain ⟨k,N,M,s⟩:=o;simp only at hk hM f1 f3 f4;subst hk;have HR:=aA (SD hr hx hs hn eu hM);have HF:=aA (dW hr);clear f2 hr hx hs hn eu hM ho;have S:=aA (Xf.start (o:=(9,N,M,s)) h hb);clear h hb
 go_enter func90,ntmps90
 go_upto_region 1 with fail;generalize ((w.alloc (c_ q.cells 31)).alloc (c_ (j9 (9,N,M,s)) 45)).alloc (c_ ar 31)=A at *;obtain ⟨-,o1,-,-⟩:=S.I.op.cells;simp only at o1;have hpf:=ef (num:=fun x:au=>x.id) N q.ae 0;have Mb:=lr q N A ZcZ S.I.fr.own.at;generalize place (q.ae.map (fun x=>x.id)) N 0=z at *;go_wp2_with (refine eT 4 S.I.fr.box ?_);refine Mb.mono ?_;clear Mb;rintro e A2 ⟨rfl,hb2⟩;replace S:=aA (S.I.reads hb2);clear hb2 o1;have hfm:=lJ (num:=fun x:ci=>x.id) (je:=fun x:au=>x.id) (g:=fun x:au=>x.toci) (fun _=>rfl) (id:=N) q.ae;rcases hpf with ⟨hz,hf⟩ | ⟨m,y,hz,hm,hid,hf⟩
 .subst hz
  rw [hf] at hfm;have HE:Hid (ka (9,N,M,s) now x.id q.pure=bu 3 x.id q.pure):=by show ka (9,N,M,s) now x.id q.pure=_; unfold ka; rw [show cg (fun x:ci=>x.id) N q.pure.ae=n_ from hfm]
  exact Zco
 rw [hf] at hfm;rw [Li] at hz;subst hz;have afO:decide ((m:Int) < 0)=false:=decide_eq_false zo;have HM:Hid (q.ae[m]? =o_ y/\y.id=N/\cg (fun x:ci=>x.id) N q.pure.ae=o_ y.toci):=⟨hm,hid,hfm⟩
 have hml:=(Lj.1 hm).1;have j0:(0:Int)<=(m:Int):=zo
 have j1:(m:Int) < (q.ae.length:Int):=zo
 clear hm hid hf hfm hml;obtain ⟨Y5,iE,hat⟩:=iA S.I.fr.own.at.2.2.2.2.1 HM.I.1;have m6:=S.I.fr.box.cells.2.2.2.2.2.2.1;rw [iE] at m6;have d0:=hat.1;have d1:=hat.2.1;have d2:=hat.2.2;have HG:Hid (q.am=o_ ⟨Y5,0,n_⟩):=iE;clear hat iE;have h5:=(Kp A2.heap.size A2).alloc (Ki _) (c_ #[i_ j_ y.id,i_ j_ y.max,s_ y.ak y.Ma.length y.aq] 96);have afa:Hid ((A2.alloc (c_ #[i_ j_ y.id,i_ j_ y.max,s_ y.ak y.Ma.length y.aq] 96)).heap[A2.heap.size]? =o_ (c_ #[i_ j_ y.id,i_ j_ y.max,s_ y.ak y.Ma.length y.aq] 96)/\w.heap.size+3<=A2.heap.size):=⟨Kj _ _,S.I.fr.sz.2.1⟩
 replace S:=aA (S.I.reads h5);clear h5;go_upto_region 5 with fail;generalize A2.alloc (c_ #[i_ j_ y.id,i_ j_ y.max,s_ y.ak y.Ma.length y.aq] 96)=B at *;generalize A2.heap.size=X at *;clear m6 d0 d1 d2 afO;obtain ⟨o0,-,-,-⟩:=S.I.op.cells;simp only at o0;have x2:B.cell? ⟨X,2,n_⟩=o_ (s_ y.ak y.Ma.length y.aq):=by simp [World.cell?,afa.I.1]
 have HF4:=aA (f4 (by decide) (by decide) (by decide));clear f1 f3 f4;cases hit:y.Ma with
 | nil=>
  rw [hit] at x2;have HE:Hid (ka (9,N,M,s) now x.id q.pure=mX 6 (9,N,M,s) now x.id (ez rM x.id q.pure)):=by show ka (9,N,M,s) now x.id q.pure=_; unfold ka; rw [show cg (fun x:ci=>x.id) N q.pure.ae=o_ y.toci from HM.I.2.2]; dsimp only; rw [show y.toci.Ma= [] from hit]
  clear afa hit;go_upto_region 15 with fail;clear x2 o0;obtain ⟨gp,l9,-⟩:=cn S.I.fr.own.at.1 HR.I.2.1;have m2:=S.I.fr.box.cells.2.2.1;have k1:(n:Int) < (q.L8.length:Int):=by have:=(Lj.1 HR.I.2.1).1; omega
  have k0:(0:Int)<=(n:Int):=zo
  rw [l9] at m2;obtain ⟨s1,⟨u,c⟩,f⟩:=eY (n:=n) (j:=9) (v:=t_ ⟨#[]⟩) (y:= { x with got:=rM }) S.I.fr.own HR.I.2.1 l9 ⟨rfl,rfl,rfl⟩ (by decide) rfl;replace S:=aA (S.I.call s1);clear s1 l9;go_upto_region 16 with fail;generalize B.setCell ⟨gp,n * 12+9,n_⟩ (t_ ⟨#[]⟩)=C at *;clear m2 c f u k0 k1;obtain ⟨q1,hq1,hq⟩:=kg HR.I.1 HR.I.2.1 jX;have HB:Hid (q1.next=q.next):=by rw [hq1]; exact rfl
  rw [<- hq1] at S;have HQ:=aA hq;clear hq1 hq;have Mb:=oR q1 n base { x with got:=rM } 6 now (9,N,M,s) C S.I.fr.own S.I.low HQ.I.2.2.1 HQ.I.2.2.2 Zc6 (by have:=HR.I.2.2.2.1; rw [HB.I]; omega) HR.I.2.2.2.2.1 HR.I.2.2.2.2.2;rw [HQ.I.1,HQ.I.2.1] at Mb;go_wp2_with (first | (refine eT 4 S.I.fr.box ?_) | (refine LS rfl 45 (.tmp 6) rfl (w.heap.size+1) (by rfl) 45 (j9 (9,N,M,s)) (0,0) _ S.I.op underlying45 rfl ZcS ?_));refine Mb.mono ?_;clear Mb;rintro e A2 ⟨q2,rfl,hp,ht⟩;replace S:=aA (S.I.call ht);have HP:Hid (q2.pure=_):=hp;clear hp ht;go_wp2_with (refine ec 8 88 q2.cells S.I.an ?_);refine gZ results90 S.I.an ?_;exact l_
 | cons t0 r=>
  have tI:Hid (y.Ma=t0 :: r/\bw t0=true/\(∀ u∈r,bw u=true)/\y.Ma.length<=5/\(y.Ma.length:Int)<=y.max):=by
   have h5:=(ji (o:=(9,N,M,s)) HR.I.1 HM.I.2.2).2.2; have h6:=uJ HR.I.1 (Lr.2 ⟨y,KA HM.I.1,rfl⟩);have h7:y.toci.Ma=y.Ma:=rfl;have h8:y.toci.max=y.max:=rfl;rw [h7] at h5;exact ⟨hit,h5.2 t0 (by rw [hit]; simp),fun u hu=>h5.2 u (by rw [hit]; simp [hu]),zo,by rw [<- h8]; exact h5.1⟩
  have il:(0:Int) < (y.Ma.length:Int):=by rw [hit]; simp
  have il3:0 < y.Ma.length:=by rw [hit]; simp
  have il4: ¬ y.Ma.length=0:=zo
  have il2:((y.Ma.length:Int) == 0)=false:=by rw [hit]; simp; omega
  clear hit;go_upto_region 17 with fail;clear x2 o0 il2;replace afa:Hid (B.drew.heap[X]? =o_ (c_ #[i_ j_ y.id,i_ j_ y.max,s_ y.ak y.Ma.length y.aq] 96)/\w.heap.size+3<=X):=afa.I;replace S:=aA (S.I.reads (Kp _ _).drew);refine eD (fun w1=>w1=B.drew) 9 ZcS rfl ?_;generalize B.drew=C at *;have HG1:=aA (kg HR.I.1 HR.I.2.1 tI.I.2.1);have x2:C.cell? ⟨X,2,n_⟩=o_ (s_ y.ak y.Ma.length y.aq):=by simp [World.cell?,afa.I.1]
  obtain ⟨abo,hgi,x3⟩:=zl (lj S.I.fr.own.at.2.2.2.2.1 HM.I.1) (show y.Ma[0]? =o_ t0 by rw [tI.I.1]; rfl);rw [hgi] at x2;obtain ⟨gp,l9,-⟩:=cn S.I.fr.own.at.1 HR.I.2.1;have m2:=S.I.fr.box.cells.2.2.1;have k1:(n:Int) < (q.L8.length:Int):=by have:=(Lj.1 HR.I.2.1).1; omega
  have k0:(0:Int)<=(n:Int):=zo
  rw [l9] at m2;have ud:Hid (q.aN=o_ ⟨gp,0,n_⟩):=l9;obtain ⟨s1,⟨u,c⟩,f⟩:=eY (n:=n) (j:=9) (v:=t_ t0) (y:= { x with got:=t0 }) S.I.fr.own HR.I.2.1 l9 ⟨rfl,rfl,rfl⟩ (by decide) rfl;have lW:(C.setCell ⟨gp,n * 12+9,n_⟩ (t_ t0)).heap[X]? =o_ (c_ #[i_ j_ y.id,i_ j_ y.max,s_ y.ak y.Ma.length y.aq] 96):=(aH (fun e=>by have h5:=(S.I.fr.lo gp (gD (.inl (by rw [l9]; simp [blk])))).2; have:=afa.I.2; omega)).trans afa.I.1;replace S:=aA (S.I.call s1);replace afa:=aA (And.intro lW afa.I.2);clear s1 l9 hgi lW
  iterate 9 (refine ly 10 (v:= ?_) (o_ _) rfl rfl ZcS (fun _ _ _ h=>h) (bV ZcS ?_) ?_; rotate_left; (intro w0 hS0; subst hS0; go_simp; try with_reducible rfl); simp only [pt,sb,s0,s1])
  refine fL rfl ZcS ZcS ZcS ?_;intro w1 cm;rw [cm];clear cm w1
  go_simp
  generalize C.setCell ⟨gp,n * 12+9,n_⟩ (t_ t0)=D at *;clear m2 x2 x3 c f u k0 k1 il il3 il4;obtain ⟨q1,hq1,hq⟩:=HG1.I;have HB:Hid (q1.ae=q.ae/\q1.next=q.next/\q1.am=q.am/\q1.pure.ae=q.pure.ae/\q1.aN=q.aN):=by rw [hq1]; exact ⟨rfl,rfl,rfl,rfl,rfl⟩
  rw [<- hq1] at S;have HQ:=aA hq;clear hq1 hq HG1;go_upto_region 18 with fail;replace S:=aA (S.I.reads (Kp _ _).drew);replace afa:Hid (D.drew.heap[X]? =o_ (c_ #[i_ j_ y.id,i_ j_ y.max,s_ y.ak y.Ma.length y.aq] 96)/\w.heap.size+3<=X):=afa.I;refine Kr (S:=fun w'=>av w' w.heap.size q/\w'.heap[X]? =o_ (c_ #[i_ j_ y.id,i_ j_ y.max,s_ y.ak y.Ma.length y.aq] 96)) ZcS ⟨S.I.fr.box,afa.I.1⟩ (fun hHeld=> ?_);generalize D.drew=V2 at *;have il:(1:Int)<=(y.Ma.length:Int):=by rw [tI.I.1]; simp; omega
  have af5:(y.Ma.length:Int)<=(y.aq:Int):=by have h5:y.Ma.length<=y.aq:=nV (S.I.fr.own.eE y (by rw [HB.I.1]; exact KA HM.I.1)); omega
  have ic2:(1:Int)<=(y.aq:Int):=zo
  obtain ⟨afs,hTA⟩: ∃ afs:Option d_,(if y.aq=1 then y.ak else Option.map (fun x:d_=>(⟨x.block,x.off+1,n_⟩:d_)) y.ak)=afs:=⟨_,rfl⟩
  refine agi 0 hHeld ?_;refine agi 1 hHeld ?_;refine agi 2 hHeld ?_;refine agi 4 hHeld ?_;refine agi 5 hHeld ?_;refine agi 6 hHeld ?_;clear hHeld il af5 ic2;have GO:Hid (q1.ae[m]? =o_ y):=by rw [HB.I.1]; exact HM.I.1
  have lW:=(J2.1 afa.I.1).1;have hS: ∀ W,B_ V2.heap.size V2 W->av W w.heap.size q/\W.heap[X]? =o_ (c_ #[i_ j_ y.id,i_ j_ y.max,s_ y.ak y.Ma.length y.aq] 96):=fun W hb=>⟨S.I.fr.box.below hb,(hb.block _ lW).trans afa.I.1⟩
  have b1:B_ V2.heap.size V2 (V2.alloc (c_ #[] 9)):=(Kp _ _).alloc (Ki _) _;refine L7 3 (fun K hK=> ?_);go_wp2_with fail;refine hK.out _ _ (hS _ b1) (fun hHeld=> ?_);clear hK K hHeld
  try simp only [pt,sb,s0,s1]
  have hlr:y.Ma.length - 1=r.length:=by rw [tI.I.1]; rfl
  have pI:y.Ma.drop 1=r:=by rw [tI.I.1]; rfl
  have hsrc:=vg (c:=y.aq) (nV (S.I.fr.own.eE y (KA GO.I))) (lj (S.I.fr.own.below b1).at.2.2.2.2.1 GO.I);rw [hTA] at hsrc;obtain ⟨a7,c7,w7,hap,mP,xI,-⟩:=ou (V2.alloc (c_ #[] 9)) V2.heap.size (o_ ⟨V2.heap.size,0,n_⟩) 0 [] (i6 (Kj _ _) (Ki _)) afs (y.Ma.drop 1) (y.aq - 1) hsrc (by rw [Ql]; have:=tI.I.2.2.2.1; show 0+_<=_; omega) b1.size;clear hsrc hTA;have gh:B_ V2.heap.size V2 w7:=b1.grown xI b1.size fun c e=>by cases e; exact Ki _
  rw [Ql,hlr] at hap mP;simp only [K4,Li,Ll,pI] at hap mP;rw [<- hlr] at hap;obtain ⟨s1,⟨u,c⟩,f⟩:=mB (n:=m) S.I.fr.own (aI.dI gh) GO.I (HB.I.2.2.1.trans HG.I) (cq mP S.I.low) (fun g hg=> .inr (cf mP hg).1);rw [<- hlr] at s1;have HLR:Hid (y.Ma.length - 1=r.length):=hlr;clear hlr;refine L7 7 (fun K hK=> ?_);refine cM _ _ _ rfl _ _ _ w7 rfl rfl hap ?_;refine hK.out _ _ ⟨S.I.fr.box.below gh,(gh.block _ lW).trans afa.I.1⟩ (fun hHeld=> ?_);clear hK K hHeld
  try simp only [pt,sb]
  have wj:av w7 w.heap.size q/\w7.heap[X]? =o_ (c_ #[i_ j_ y.id,i_ j_ y.max,s_ y.ak y.Ma.length y.aq] 96):=⟨S.I.fr.box.below gh,(gh.block _ lW).trans afa.I.1⟩
  replace S:=aA (S.I.call s1);clear hap mP xI gh s1 b1 hS;refine agi 8 wj ?_;refine agi 9 wj ?_;have uQ:(w7.setCell ⟨Y5,m * 3+2,n_⟩ (s_ a7 (y.Ma.length - 1) c7)).heap[X]? =o_ (c_ #[i_ j_ y.id,i_ j_ y.max,s_ y.ak y.Ma.length y.aq] 96):=(aH (fun e=>by have h5:=(S.I.fr.lo Y5 (gD (.inr <| .inr <| .inr <| .inr <| .inl <| by rw [HG.I]; simp [blk]))).2; have:=afa.I.2; omega)).trans wj.2;refine L7 10 (fun K hK=> ?_);go_wp2_with fail;refine hK.out _ _ ⟨S.I.fr.box,uQ⟩ (fun hHeld=> ?_);clear hK K hHeld;refine K3 ZcS ?_ _;clear c f u wj lW uQ;go_upto_region 19 with fail;generalize w7.setCell ⟨Y5,m * 3+2,n_⟩ (s_ a7 (y.Ma.length - 1) c7)=E at *;obtain ⟨y2,hy2⟩: ∃ y2:au,y2= { y with Ma:=r,ak:=a7,aq:=c7 } :=⟨_,rfl⟩
  obtain ⟨q2,pv⟩: ∃ q2:af,q2= { q1 with ae:=q1.ae.set m y2 } :=⟨_,rfl⟩
  have ky:Hid (q2.pure=cV N r (ez t0 x.id q.pure)/\q2.cells=q.cells/\aQ q2.pure/\q2.L8[n]? =o_ { x with got:=t0 } /\q2.ae[m]? =o_ y2/\q2.am=o_ ⟨Y5,0,n_⟩/\q2.next=q.next/\q2.aN=o_ ⟨gp,0,n_⟩):=by
   have h5:q2.pure=cV N r q1.pure:=by rw [pv,hy2]; exact oN HQ.I.2.2.1.ae GO.I HM.I.2.1
   have h6:aQ (cV N r q1.pure):=gN HQ.I.2.2.1 (fun z hz hk=>by rw [HB.I.2.2.2.1] at hz; rw [only HR.I.1.ae HM.I.2.2 hz hk]; have h7:=tI.I.2.2.2.2; rw [tI.I.1] at h7; have h8:y.toci.max=y.max:=rfl; simp only [Lg] at h7; omega) tI.I.2.2.1;exact ⟨by rw [h5,HQ.I.1],by rw [pv]; exact Eq.trans (by unfold af.cells; simp) HQ.I.2.1,by rw [h5]; exact h6,by rw [pv]; exact HQ.I.2.2.2,by rw [pv]; show (q1.ae.set m y2)[m]? =_; rw [LU (Lj.1 GO.I).1],by rw [pv]; exact HB.I.2.2.1.trans HG.I,by rw [pv]; exact HB.I.2.1,by rw [pv]; exact HB.I.2.2.2.2.trans ud.I⟩
  rw [<- hy2,<- pv] at S;have HY2:Hid (y2.Ma=r/\y2.id=N/\y2.max=y.max):=by rw [hy2]; exact ⟨rfl,HM.I.2.1,rfl⟩
  clear pv hy2 HLR pI afa;have HU:Hid (ka (9,N,M,s) now x.id q.pure=match jl 5 N q2.pure.L8 with | none=>bu 0 x.id (cV N r (ez t0 x.id q.pure)) | some v=>bu 0 x.id (gF (fun y=>y) (cV N (r ++ [v.held]) (ez t0 x.id q.pure)) v)):=by show ka (9,N,M,s) now x.id q.pure=_; unfold ka; rw [show cg (fun x:ci=>x.id) N q.pure.ae=o_ y.toci from HM.I.2.2]; dsimp only; rw [show y.toci.Ma=t0 :: r from tI.I.1]; dsimp only; rw [show q2.pure.L8=(ez t0 x.id q.pure).L8 by rw [ky.I.1]; rfl]; split <;> rename_i h5 <;> rw [h5]
  have Mb:=ij q2 5 N E (by have:=(dW ky.I.2.2.1).1; omega) S.I.fr.own.at;rw [ky.I.2.1] at Mb;obtain ⟨-,o1,-,-⟩:=S.I.op.cells;simp only at o1;go_wp2_with (refine eT 4 S.I.fr.box ?_);refine Mb.mono ?_;clear Mb o1;rintro e afP ⟨⟨z,rfl,gV⟩,hb2⟩;replace S:=aA (S.I.reads hb2);clear hb2;rcases pp gV with ⟨hz,hw⟩ | ⟨i,v,hz,hi,hw⟩
  .have HE:Hid (ka (9,N,M,s) now x.id q.pure=bu 0 x.id (cV N r (ez t0 x.id q.pure))):=by show ka (9,N,M,s) now x.id q.pure=_; rw [HU.I,hw]
   have afO:decide (z>=0)=false:=decide_eq_false zo;clear gV hz hw HU;have Mb:=bB (n:=n) 0 S.I.fr.own S.I.low ky.I.2.2.1 ky.I.2.2.2.1 Zc6;rw [ky.I.1,ky.I.2.1] at Mb;go_wp2_with (refine eT 4 S.I.fr.box ?_);refine Mb.mono ?_;clear Mb;rintro e A2 ⟨q3,rfl,hp,ht⟩;replace S:=aA (S.I.call ht);have HP:Hid (q3.pure=_):=hp;clear hp ht;go_wp2_with (refine ec 8 138 q3.cells S.I.an ?_);refine gZ results90 S.I.an ?_;exact ⟨q3,rfl,HP.I.trans HE.I.symm,S.I.done _⟩
  have HE:Hid (ka (9,N,M,s) now x.id q.pure=bu 0 x.id (gF (fun y=>y) (cV N (r ++ [v.held]) (ez t0 x.id q.pure)) v.toaD)):=by show ka (9,N,M,s) now x.id q.pure=_; rw [HU.I,hw]
  have HW:Hid (jl 5 N q2.pure.L8=o_ v.toaD/\q2.L8[i]? =o_ v/\v.Md=5):=⟨hw,hi,(ft hw).2.1⟩
  subst hz;have afO:decide ((i:Int)>=0)=true:=decide_eq_true zo;clear gV hw hi HU;go_upto_region 21 with fail;clear afO;replace S:=aA (S.I.reads (Kp _ _).drew);obtain ⟨g5,A7,hat⟩:=iA S.I.fr.own.at.2.2.2.2.1 ky.I.2.2.2.2.1;rw [ky.I.2.2.2.2.2.1] at A7;cases A7;obtain ⟨g6,hg6,hap⟩:=cn S.I.fr.own.at.1 HW.I.2.1;rw [ky.I.2.2.2.2.2.2.2] at hg6;cases hg6;have hS0:av afP.drew w.heap.size q/\afP.drew.cell? ⟨gp,i * 12+8,n_⟩=o_ (t_ v.held):=⟨S.I.fr.box,hap.2.2.2.2.2.2.2.2.1⟩
  have c8:afP.drew.cell? ⟨Y5,m * 3+2,n_⟩=o_ (s_ y2.ak y2.Ma.length y2.aq):=hat.2.2;clear hat hap;refine Kr (S:=fun w'=>av w' w.heap.size q/\w'.cell? ⟨gp,i * 12+8,n_⟩=o_ (t_ v.held)) ZcS hS0 (fun hHeld=> ?_);generalize afP.drew=V3 at *;have k1:(i:Int) < (q.L8.length:Int):=by have h5:=(Lj.1 HW.I.2.1).1; have h6:=congrArg (fun p:aE=>p.L8.length) ky.I.1; simp only [af.pure,List.length_map,cV,ez,ce] at h6; omega
  have k0:(0:Int)<=(i:Int):=zo
  refine agi 0 hHeld ?_;refine agi 1 hHeld ?_;refine agi 2 hHeld ?_;refine agi 3 hHeld ?_;refine agi 4 hHeld ?_;refine agi 5 hHeld ?_;refine agi 6 hHeld ?_;refine agi 7 hHeld ?_;refine agi 9 hHeld ?_;refine agi 10 hHeld ?_;refine agi 11 hHeld ?_;refine agi 12 hHeld ?_;refine agi 13 hHeld ?_;refine agi 14 hHeld ?_;clear hHeld k0 k1;have b1:B_ V3.heap.size V3 (V3.alloc (c_ #[t_ v.held] 9)):=(Kp _ _).alloc (Ki _) _;have iE:=cf S.I.fr.own.ae (g:=Y5) (by rw [ky.I.2.2.2.2.2.1]; simp [blk]);have l9:=cf S.I.fr.own.L8 (g:=gp) (by rw [ky.I.2.2.2.2.2.2.2]; simp [blk]);have cm:av (V3.alloc (c_ #[t_ v.held] 9)) w.heap.size q/\(V3.alloc (c_ #[t_ v.held] 9)).cell? ⟨gp,i * 12+8,n_⟩=o_ (t_ v.held):=⟨S.I.fr.box.below b1,(b1.cell (p:=⟨gp,i * 12+8,n_⟩) l9.2).trans hS0.2⟩
  have c9:World.cell? (V3.alloc (c_ #[t_ v.held] 9)) ⟨Y5,m * 3+2,n_⟩=o_ (s_ y2.ak y2.Ma.length y2.aq):=(b1.cell (p:=⟨Y5,m * 3+2,n_⟩) iE.2).trans c8;refine KW (rs:= [8,15]) ZcS zw ?_;refine KX rfl (fun K hK=> ?_) (KX rfl (fun K hK=> ?_) KY)
  focus
   simp only [KZ,K0,K1];rw [if_pos (by rfl)];go_wp2_with fail;refine hK.out _ _ hS0 (fun hHeld=> ?_);clear hK K hHeld
   try simp only [pt,sb,s0,s1]
   refine L7 15 (fun K hK=> ?_);go_wp2_with fail;refine hK.out _ _ cm (fun hHeld=> ?_);clear hK K hHeld
   try simp only [pt,sb,s0,s1]
  rotate_left
  focus
   simp only [KZ,K0,K1];rw [if_pos (by rfl)];go_wp2_with fail;refine hK.out _ _ cm (fun hHeld=> ?_);clear hK K hHeld
   try simp only [pt,sb,s0,s1]
   refine L7 8 (fun K hK=> ?_);go_wp2_with fail;refine hK.out _ _ cm (fun hHeld=> ?_);clear hK K hHeld
   try simp only [pt,sb,s0,s1]
  all_goals
   clear c8 c9;obtain ⟨a8,c8,w8,hap,ho8,hg8,yD⟩:=ou (V3.alloc (c_ #[t_ v.held] 9)) base y2.ak y2.aq y2.Ma ((S.I.fr.own.below b1).eE y2 (KA ky.I.2.2.2.2.1)) _ [v.held] 1 (jO (Kj _ _)) (by have h5:=tI.I.2.2.2.1; rw [tI.I.1] at h5; rw [HY2.I.1]; simp only [Lg,K4] at h5 ⊢; omega) (by have:=b1.size; have:=S.I.low; omega);have hkb:aI V3 w8 (blk y2.ak):=aI.grown b1 hg8;have hl8:(y2.Ma ++ [v.held]).length=y2.Ma.length+1:=by rw [Lf]; rfl
   simp only [Lg,K4,Li] at hap ho8;rw [<- hl8] at hap ho8;obtain ⟨s1,⟨u,c⟩,f⟩:=mB (n:=m) S.I.fr.own hkb ky.I.2.2.2.2.1 ky.I.2.2.2.2.2.1 ho8 (fun g hg=>(yD g hg).imp_right fun e=>by rw [e]; exact b1.size);rw [hl8] at hap s1;have HL8:Hid ((y2.Ma ++ [v.held]).length=y2.Ma.length+1):=hl8;clear hl8;have iH: ∀ g,g∈blk y2.ak->g∈q2.Mc/\g≠Y5/\g≠gp/\Y5≠gp:=fun g hg=>IY S.I.fr.own ky.I.2.2.2.2.1 ky.I.2.2.2.2.2.1 ky.I.2.2.2.2.2.2.2 hg
   have hne:Y5≠gp:=Ig S.I.fr.own ky.I.2.2.2.2.2.1 ky.I.2.2.2.2.2.2.2;have hS8:av w8 w.heap.size q/\w8.cell? ⟨gp,i * 12+8,n_⟩=o_ (t_ v.held):=⟨(hkb.same _ (av.lt S.I.fr.box) fun hm=>S.I.fr.yO (Ki _) zo (iH _ hm).1).trans S.I.fr.box,(J1 (a:=⟨gp,i * 12+8,n_⟩) (hkb.same gp l9.2 fun hm=>(iH _ hm).2.2.1 rfl)).trans hS0.2⟩
   refine L7 16 (fun K hK=> ?_);refine cM _ _ _ rfl _ _ _ w8 rfl rfl hap ?_;refine hK.out _ _ hS8 (fun hHeld=> ?_);clear hK K hHeld
   try simp only [pt,sb]
   replace S:=aA (S.I.call s1);clear hap ho8 hg8 yD hkb s1 b1 hS0 cm iH iE l9;refine agi 17 hS8 ?_;refine agi 18 hS8 ?_;have FW:(w8.setCell ⟨Y5,m * 3+2,n_⟩ (s_ a8 (y2.Ma.length+1) c8)).cell? ⟨gp,i * 12+8,n_⟩=o_ (t_ v.held):=(J1 (a:=⟨gp,i * 12+8,n_⟩) (aH hne.symm)).trans hS8.2;refine L7 19 (fun K hK=> ?_);go_wp2_with fail;refine hK.out _ _ ⟨S.I.fr.box,FW⟩ (fun hHeld=> ?_);clear hK K hHeld;refine K3 ZcS ?_ _;clear c f u hS8 FW hne;go_upto_region 22 with fail;generalize w8.setCell ⟨Y5,m * 3+2,n_⟩ (s_ a8 (y2.Ma.length+1) c8)=G at *;obtain ⟨q3,IJ⟩: ∃ q3:af,q3= { q2 with ae:=q2.ae.set m { y2 with Ma:=y2.Ma ++ [v.held],ak:=a8,aq:=c8 } } :=⟨_,rfl⟩
   have Ck:Hid (q3.pure=cV N (r ++ [v.held]) (ez t0 x.id q.pure)/\q3.cells=q.cells/\aQ q3.pure/\q3.L8[n]? =o_ { x with got:=t0 } /\q3.L8[i]? =o_ v/\q3.next=q.next):=by
    have h5:q3.pure=cV N (r ++ [v.held]) q2.pure:=by rw [IJ,<- HY2.I.1]; exact oN ky.I.2.2.1.ae ky.I.2.2.2.2.1 HY2.I.2.1
    have h6:cV N (r ++ [v.held]) q2.pure=cV N (r ++ [v.held]) (ez t0 x.id q.pure):=by rw [ky.I.1]; exact yY _ _ _ _
    have h7:aQ (cV N (r ++ [v.held]) (ez t0 x.id q.pure)):=by
     rw [<- HQ.I.1];refine gN HQ.I.2.2.1 (fun z hz hk=> ?_) (fun u hu=> ?_)
     .rw [HB.I.2.2.2.1] at hz; rw [only HR.I.1.ae HM.I.2.2 hz hk]; have h7:=tI.I.2.2.2.2; rw [tI.I.1] at h7; have h8:y.toci.max=y.max:=rfl; simp only [Lg,Lf,K4] at h7 ⊢; omega
     .exact (Kg.1 hu).elim (fun hu=>tI.I.2.2.1 u hu) (fun hu=>by simp only [Kt,Ku,or_false] at hu; rw [hu]; have h8:=iF (ky.I.2.2.1.proc (iu HW.I.2.1)).2.1; unfold jY at h8; simp only [J7] at h8; exact h8.1.1.2)
    exact ⟨by rw [h5,h6],by rw [IJ]; exact Eq.trans (by unfold af.cells; simp) ky.I.2.1,by rw [h5,h6]; exact h7,by rw [IJ]; exact ky.I.2.2.2.1,by rw [IJ]; exact HW.I.2.1,by rw [IJ]; exact ky.I.2.2.2.2.2.2.1⟩
   rw [<- IJ] at S;clear IJ HL8;have Mb:=lP (n:=i) S.I.fr.own S.I.low Ck.I.2.2.1 Ck.I.2.2.2.2.1 Zda (by rw [Ck.I.2.2.2.2.2]; have:=HR.I.2.2.2.1; omega);rw [Ck.I.1,Ck.I.2.1] at Mb;go_wp2_with (refine eT 4 S.I.fr.box ?_);refine Mb.mono ?_;clear Mb;rintro e G2 ⟨q4,rfl,hp,ht⟩;replace S:=aA (S.I.call ht);rw [<- Ck.I.1] at hp;obtain ⟨hr4,x4,hx4,sw⟩:=qp Ck.I.2.2.1 Ck.I.2.2.2.1 HR.I.2.2.1 Ck.I.2.2.2.2.1 Zda Zda (.inl rfl) (by rw [Ck.I.2.2.2.2.2]; have:=HR.I.2.2.2.1; omega) hp;have S2:=aA S.I.put;go_upto_region 23 with (refine ec 4 135 q4.cells S.I.fr.box ?_);generalize G2.setRow w.heap.size q4.cells=G3 at *;clear S;have S:=S2;clear S2;have Mb:=bB (n:=n) 0 S.I.fr.own S.I.low hr4 hx4 (by rw [show x4.Md=x.Md by have h5:=congrArg aD.Md sw; exact h5,HR.I.2.2.1]; decide);rw [show x4.id=x.id by have h5:=congrArg aD.id sw; exact h5,hp,Ck.I.1,<- HE.I] at Mb;clear hp ht hr4 hx4 sw;go_wp2_with (refine eT 4 S.I.fr.box ?_);refine Mb.mono ?_;clear Mb;rintro e G32 ⟨q5,rfl,hp,ht⟩;replace S:=aA (S.I.call ht);have HP:Hid (q5.pure=_):=hp;clear hp ht;go_wp2_with (refine ec 8 138 q5.cells S.I.an ?_);refine gZ results90 S.I.an ?_;exact ⟨q5,rfl,HP.I,S.I.done _⟩
def An {p:aE} {y:dS} (h:aQ p) (hy:y∈p.ai):y.max<=5:=by
 have h1:=(cK h.ai y hy).2;unfold dj at h1;simp only [J7] at h1;exact (bz.1 h1.1.1).2
def Av (q:af) (n base:Nat) (x:ao) (o:dN) (w:w_) (h:ap w base q) (hb:base<=w.heap.size) (hr:aQ q.pure) (hx:q.L8[n]? =o_ x) (hs:x.Md=1) (hn:q.next<=999999990) (ho:kc o=true) (hk:o.1=13):
  k_ J3 92 #[a_ q.cells,i_ j_ n,a_ (j9 o)] w (jH w base q (ig o x.id q.pure)):=by
 obtain ⟨-,f1,f2,f3,f4⟩:=dv ho;have hM:=bz.1 f2;obtain ⟨k,N,M,s⟩:=o;simp only at hk hM f1 f3 f4;subst hk;have HR:Hid (aQ q.pure/\q.L8[n]? =o_ x/\x.Md=1/\q.next<=999999990/\(-1<=M/\M<=1000)):=⟨hr,hx,hs,hn,hM⟩
 have HF:=aA (dW hr);clear f2 hr hx hs hn hM ho;have S:=aA (Xf.start (o:=(13,N,M,s)) h hb);clear h hb
 go_enter func92,ntmps92
 go_upto_region 1 with fail;generalize ((w.alloc (c_ q.cells 31)).alloc (c_ (j9 (13,N,M,s)) 45)).alloc (c_ ar 31)=A at *;obtain ⟨-,o1,-,-⟩:=S.I.op.cells;simp only at o1;have hpf:=ef (num:=fun x:aM=>x.id) N q.ai 0;have Mb:=uV q N A ZcZ S.I.fr.own.at;generalize place (q.ai.map (fun x=>x.id)) N 0=z at *;go_wp2_with (refine eT 3 S.I.fr.box ?_);refine Mb.mono ?_;clear Mb;rintro e A2 ⟨rfl,hb2⟩;replace S:=aA (S.I.reads hb2);clear hb2 o1;have hfm:=lJ (num:=fun x:dS=>x.id) (je:=fun x:aM=>x.id) (g:=fun x:aM=>x.todS) (fun _=>rfl) (id:=N) q.ai;rcases hpf with ⟨hz,hf⟩ | ⟨m,y,hz,hm,hid,hf⟩
 .subst hz
  rw [hf] at hfm;have HE:Hid (ig (13,N,M,s) x.id q.pure=bu 3 x.id q.pure):=by show ig (13,N,M,s) x.id q.pure=_; unfold ig; rw [show cg (fun x:dS=>x.id) N q.pure.ai=n_ from hfm]
  exact Zcq
 rw [hf] at hfm;rw [Li] at hz;subst hz;have afO:decide ((m:Int) < 0)=false:=decide_eq_false zo;have HM:Hid (q.ai[m]? =o_ y/\y.id=N/\cg (fun x:dS=>x.id) N q.pure.ai=o_ y.todS):=⟨hm,hid,hfm⟩
 have hml:=(Lj.1 hm).1;have j0:(0:Int)<=(m:Int):=zo
 have j1:(m:Int) < (q.ai.length:Int):=zo
 clear hm hid hf hfm hml;go_upto_region 2 with fail;replace S:=aA (S.I.reads (Kp _ _).drew);refine aT (fun w1=>w1=A2.drew) ZcS rfl ?_;generalize A2.drew=B at *;obtain ⟨Y5,iE,hat⟩:=lm S.I.fr.own.at.2.2.2.2.2 HM.I.1;have m7:=S.I.fr.box.cells.2.2.2.2.2.2.2;rw [iE] at m7;have d0:=hat.1;have d1:=hat.2.1;have d2:=hat.2.2.1;have d3:=hat.2.2.2.1;have d4:=hat.2.2.2.2;have HG:Hid (q.aK=o_ ⟨Y5,0,n_⟩):=iE;clear hat iE;obtain ⟨o0,-,-,-⟩:=S.I.op.cells;simp only at o0
 iterate 14 (refine agj ?_)
 refine bk ZcS ?_ _;intro w1 cm;rw [cm];clear cm w1 afO;have IB:Hid (bw s=true):=f3;clear f1 f3 f4;have tI:Hid ((∀ u∈y.Ma,bw u=true)/\y.Ma.length<=5/\(y.Ma.length:Int)<=y.max/\1<=y.max):=by
  have h5:=nB (o:=(13,N,M,s)) HR.I.1 HM.I.2.2; have h6:=An HR.I.1 (Lr.2 ⟨y,KA HM.I.1,rfl⟩);exact Zbk
 cases hu:y.I
 .rw [hu] at d1
  have HE:Hid (ig (13,N,M,s) x.id q.pure=bu 3 x.id q.pure):=by show ig (13,N,M,s) x.id q.pure=_; unfold ig; rw [show cg (fun x:dS=>x.id) N q.pure.ai=o_ y.todS from HM.I.2.2]; exact if_pos hu
  exact jp
 have HO:Hid (y.I=true):=hu;clear hu;rw [HO.I] at d1;have h5:=(Kp B.heap.size B).alloc (Ki _) (c_ #[i_ j_ y.id,b_ true,b_ y.Mf,i_ j_ y.max,s_ y.ak y.Ma.length y.aq] 115);have afa:Hid ((B.alloc (c_ #[i_ j_ y.id,b_ true,b_ y.Mf,i_ j_ y.max,s_ y.ak y.Ma.length y.aq] 115)).heap[B.heap.size]? =o_ (c_ #[i_ j_ y.id,b_ true,b_ y.Mf,i_ j_ y.max,s_ y.ak y.Ma.length y.aq] 115)/\w.heap.size+3<=B.heap.size):=⟨Kj _ _,S.I.fr.sz.2.1⟩
 replace S:=aA (S.I.reads h5);clear h5;go_upto_region 5 with fail;generalize B.alloc (c_ #[i_ j_ y.id,b_ true,b_ y.Mf,i_ j_ y.max,s_ y.ak y.Ma.length y.aq] 115)=C at *;generalize B.heap.size=X at *;clear m7 d0 d1 d2 d3 d4 o0;obtain ⟨o0,-,-,-⟩:=S.I.op.cells;simp only at o0;have x2:C.cell? ⟨X,2,n_⟩=o_ (b_ y.Mf):=by simp [World.cell?,afa.I.1]
 have x3:C.cell? ⟨X,3,n_⟩=o_ (i_ j_ y.max):=by simp [World.cell?,afa.I.1]
 have x4:C.cell? ⟨X,4,n_⟩=o_ (s_ y.ak y.Ma.length y.aq):=by simp [World.cell?,afa.I.1]
 cases nu:y.Mf
 .rw [nu] at x2
  have HE:Hid (ig (13,N,M,s) x.id q.pure=bu 0 x.id (gU N [s] q.pure)):=by show ig (13,N,M,s) x.id q.pure=_; unfold ig; rw [show cg (fun x:dS=>x.id) N q.pure.ai=o_ y.todS from HM.I.2.2]; dsimp only; rw [if_neg (show ¬ y.I=false by rw [HO.I]; decide),if_pos nu]
  clear nu afa;go_upto_region 7 with fail;clear x2 x3 x4 o0;have m7:=S.I.fr.box.cells.2.2.2.2.2.2.2;rw [HG.I] at m7;obtain ⟨-,-,-,o3⟩:=S.I.op.cells;simp only at o3;have b1:B_ C.heap.size C (C.alloc (c_ #[t_ s] 9)):=(Kp _ _).alloc (Ki _) _;have mP:World.ownsRow (C.alloc (c_ #[t_ s] 9)) C.heap.size 9 1 (s_ (o_ ⟨C.heap.size,0,n_⟩) [s].length 1) [s].length (bT.flat [s]):=IN _ _;have afS:World.cell? (C.alloc (c_ #[t_ s] 9)) ⟨w.heap.size,7,n_⟩=o_ (s_ (o_ ⟨Y5,0,n_⟩) q.ai.length q.aV):=(b1.cell (p:=⟨w.heap.size,7,n_⟩) (av.lt S.I.fr.box)).trans m7;obtain ⟨s1,⟨u,c⟩,f⟩:=pg (n:=m) S.I.fr.own (aI.dI b1) HM.I.1 HG.I (cq mP S.I.low) (fun g hg=> .inr (cf mP hg).1);replace S:=aA (S.I.call s1);clear s1 mP;simp only [Lg,K4,Li] at S c f;go_upto_region 8 with fail;generalize World.setCell (C.alloc (c_ #[t_ s] 9)) ⟨Y5,m * 5+4,n_⟩ (s_ (o_ ⟨C.heap.size,0,n_⟩) 1 1)=E at *;clear m7 afS c f u o3 b1;generalize C.heap.size=gx at *;have CK:Hid (∃ q1:af,q1= { q with ai:=q.ai.set m { y with Ma:= [s],ak:=(o_ ⟨gx,0,n_⟩),aq:=1 } } /\q1.pure=gU N [s] q.pure/\q1.cells=q.cells/\aQ q1.pure/\q1.L8[n]? =o_ x):=by
   have hq:({ q with ai:=q.ai.set m { y with Ma:= [s],ak:=(o_ ⟨gx,0,n_⟩),aq:=1 } } :af).pure=gU N [s] q.pure:=sq HR.I.1.ai HM.I.1 HM.I.2.1;have hr2:aQ (gU N [s] q.pure):=by
    refine jj HR.I.1 (fun z hz hk=> ?_) (fun t0 ht=> ?_)
    .rw [only HR.I.1.ai HM.I.2.2 hz hk]; exact tI.I.2.2.2
    .simp only [Kt,Ku,or_false] at ht; rw [ht]; exact IB.I
   exact Za4
  obtain ⟨q1,hq1,hq⟩:=CK.I;rw [<- hq1] at S;have HQ:=aA hq;clear hq1 hq CK;have Mb:=bB (n:=n) 0 S.I.fr.own S.I.low HQ.I.2.2.1 HQ.I.2.2.2 Zc1;rw [HQ.I.1,HQ.I.2.1] at Mb;go_wp2_with (refine eT 3 S.I.fr.box ?_);refine Mb.mono ?_;clear Mb;rintro e A2 ⟨q9,rfl,hp,ht⟩;replace S:=aA (S.I.call ht);have HP:Hid (q9.pure=_):=hp;clear hp ht;go_wp2_with (refine ec 6 51 q9.cells S.I.an ?_);exact ws
 rw [nu] at x2;have HU:Hid (ig (13,N,M,s) x.id q.pure=if (y.Ma.length:Int)=y.max then bu 1 x.id q.pure else bu 0 x.id (gU N (y.Ma ++ [s]) q.pure)):=by show ig (13,N,M,s) x.id q.pure=_; unfold ig; rw [show cg (fun x:dS=>x.id) N q.pure.ai=o_ y.todS from HM.I.2.2]; dsimp only; rw [if_neg (show ¬ y.I=false by rw [HO.I]; decide),if_neg (show ¬ y.Mf=false by rw [nu]; decide)]
 have CK:Hid (y.Mf=true):=nu;clear nu;by_cases hfl:(y.Ma.length:Int)=y.max
 .have HE:Hid (ig (13,N,M,s) x.id q.pure=bu 1 x.id q.pure):=HU.I.trans (if_pos hfl)
  have e1:((y.Ma.length:Int) == y.max)=true:=by simp [hfl]
  clear hfl;have Mb:=bB (n:=n) 1 S.I.fr.own S.I.low HR.I.1 HR.I.2.1 Zc1;go_wp2_with (refine eT 3 S.I.fr.box ?_);refine Mb.mono ?_;clear Mb;rintro e A2 ⟨q9,rfl,hp,ht⟩;replace S:=aA (S.I.call ht);have HP:Hid (q9.pure=_):=hp;clear hp ht;go_wp2_with (refine ec 6 60 q9.cells S.I.an ?_);exact ws
 have HE:Hid (ig (13,N,M,s) x.id q.pure=bu 0 x.id (gU N (y.Ma ++ [s]) q.pure)):=HU.I.trans (if_neg hfl);have e1:((y.Ma.length:Int) == y.max)=false:=by simp [hfl]
 have HN:Hid (¬ (y.Ma.length:Int)=y.max):=hfl;clear hfl HU;go_upto_region 11 with fail;clear e1 x2 x3 x4 o0;replace S:=aA (S.I.reads (Kp _ _).drew);replace afa:Hid (C.drew.heap[X]? =o_ (c_ #[i_ j_ y.id,b_ true,b_ y.Mf,i_ j_ y.max,s_ y.ak y.Ma.length y.aq] 115)/\w.heap.size+3<=X):=afa.I;refine Kr (S:=fun w'=>av w' w.heap.size q/\oo w' (w.heap.size+1) (13,N,M,s)/\w'.heap[X]? =o_ (c_ #[i_ j_ y.id,b_ true,b_ y.Mf,i_ j_ y.max,s_ y.ak y.Ma.length y.aq] 115)) ZcS ⟨S.I.fr.box,S.I.op,afa.I.1⟩ (fun hHeld=> ?_);generalize C.drew=V2 at *;refine agi 0 hHeld ?_;refine agi 1 hHeld ?_;refine agi 2 hHeld ?_;refine agi 4 hHeld ?_;refine agi 5 hHeld ?_;refine agi 7 hHeld ?_;refine agi 8 hHeld ?_;clear hHeld;have hbz:w.heap.size+3<=V2.heap.size:=S.I.fr.sz.2.1;have lW:=(J2.1 afa.I.1).1;have hS: ∀ W,B_ V2.heap.size V2 W->av W w.heap.size q/\oo W (w.heap.size+1) (13,N,M,s)/\W.heap[X]? =o_ (c_ #[i_ j_ y.id,b_ true,b_ y.Mf,i_ j_ y.max,s_ y.ak y.Ma.length y.aq] 115):=fun W hb=>⟨S.I.fr.box.below hb,(hb.block _ zo).trans S.I.op,(hb.block _ lW).trans afa.I.1⟩
 have hil:y.Ma.length<=5:=tI.I.2.1;have wg:Hid (∀ (W:w_) (g:Nat),B_ V2.heap.size V2 W->W.heap[g]? =o_ (c_ #[] 9)->V2.heap.size<=g-> ∃ a5 c5 w5,(Builtin.append_ #[94,94] 94 #[s_ (o_ ⟨g,0,n_⟩) 0 0,s_ y.ak y.Ma.length y.aq]).run J3 W= .ok (s_ a5 y.Ma.length c5) w5/\w5.ownsRow V2.heap.size 9 1 (s_ a5 y.Ma.length c5) y.Ma.length (bT.flat y.Ma)/\B_ V2.heap.size V2 w5/\ ∀ h,V2.heap.size<=h->h≠g->h < W.heap.size->w5.heap[h]? =W.heap[h]?):=fun W g hb hg hge=>by
  obtain ⟨a5,c5,w5,hap,oe,A7,-⟩:=tO W V2.heap.size g hg hge y.ak y.Ma y.aq (nJ (S.I.fr.own.below hb).at.2.2.2.2.2 HM.I.1) zo hb.size;exact Zbb
 have afR: ∀ (W:w_) (c:Obj),B_ V2.heap.size V2 W->B_ V2.heap.size V2 (W.alloc c):=fun W c hb=>hb.alloc hb.size _
 refine KW (rs:= [3,9]) ZcS zw ?_;refine KX rfl (fun K hK=> ?_) (KX rfl (fun K hK=> ?_) KY)
 focus
  have b1:B_ V2.heap.size V2 (V2.alloc (c_ #[] 9)):=afR _ _ (Kp _ _);simp only [KZ,K0,K1];rw [if_pos (by rfl)];go_wp2_with fail;refine hK.out _ _ (hS _ b1) (fun hHeld=> ?_);clear hK K hHeld
  try simp only [pt,sb,s0,s1]
  have b7:B_ V2.heap.size V2 ((V2.alloc (c_ #[] 9)).alloc (c_ #[t_ s] 9)):=afR _ _ b1;refine KW (rs:= [6,9]) ZcS zw ?_;refine KX rfl (fun K hK=> ?_) (KX rfl (fun K hK=> ?_) KY)
  focus
   clear b7;obtain ⟨a5,c5,w5,hap,oe,iJ,-⟩:=wg.I _ _ b1 (Kj _ _) (Ki _);simp only [KZ,K0,K1];rw [if_pos (by rfl)];refine cM _ _ _ rfl _ _ _ w5 rfl rfl hap ?_;refine hK.out _ _ (hS _ iJ) (fun hHeld=> ?_);clear hK K hHeld
   try simp only [pt,sb,s0,s1]
   refine L7 9 (fun K hK=> ?_);go_wp2_with fail;refine hK.out _ _ (hS _ (afR _ _ iJ)) (fun hHeld=> ?_);clear hK K hHeld
   try simp only [pt,sb,s0,s1]
   have qJ:Hid ((w5.alloc (c_ #[t_ s] 9)).ownsRow V2.heap.size 9 1 (s_ a5 y.Ma.length c5) y.Ma.length (bT.flat y.Ma)/\(w5.alloc (c_ #[t_ s] 9)).heap[w5.heap.size]? =o_ (c_ #[t_ s] 9)/\B_ V2.heap.size V2 (w5.alloc (c_ #[t_ s] 9))):=⟨cR oe ((Kp _ _).alloc (Ki _) _),Kj _ _,afR _ _ iJ⟩
   clear hap oe iJ b1 afR hS;generalize w5.alloc (c_ #[t_ s] 9)=w6 at *;generalize w5.heap.size=gx at *
  rotate_left
  focus
   obtain ⟨a5,c5,w6,om,qH,jQ,zU⟩:=wg.I _ _ b7 ((PU zw).trans (Kj _ _)) (Ki _);simp only [KZ,K0,K1];rw [if_pos (by rfl)];go_wp2_with fail;refine hK.out _ _ (hS _ b7) (fun hHeld=> ?_);clear hK K hHeld
   try simp only [pt,sb,s0,s1]
   refine L7 6 (fun K hK=> ?_);refine cM _ _ _ rfl _ _ _ w6 rfl rfl om ?_;refine hK.out _ _ (hS _ jQ) (fun hHeld=> ?_);clear hK K hHeld
   try simp only [pt,sb,s0,s1]
   have qJ:Hid (w6.ownsRow V2.heap.size 9 1 (s_ a5 y.Ma.length c5) y.Ma.length (bT.flat y.Ma)/\w6.heap[(V2.heap.size+1)]? =o_ (c_ #[t_ s] 9)/\B_ V2.heap.size V2 w6):=⟨qH,(zU _ zo zo (by simp <;> omega)).trans (by have h5:=Kj (V2.alloc (c_ #[] 9)) (c_ #[t_ s] 9); simpa using h5),jQ⟩
   clear om qH jQ zU b1 b7 afR hS
 rotate_left 2
 focus
  have b7:B_ V2.heap.size V2 (V2.alloc (c_ #[t_ s] 9)):=afR _ _ (Kp _ _);simp only [KZ,K0,K1];rw [if_pos (by rfl)];go_wp2_with fail;refine hK.out _ _ (hS _ b7) (fun hHeld=> ?_);clear hK K hHeld
  try simp only [pt,sb,s0,s1]
  have b1:B_ V2.heap.size V2 ((V2.alloc (c_ #[t_ s] 9)).alloc (c_ #[] 9)):=afR _ _ b7;refine L7 3 (fun K hK=> ?_);go_wp2_with fail;refine hK.out _ _ (hS _ b1) (fun hHeld=> ?_);clear hK K hHeld
  try simp only [pt,sb,s0,s1]
  obtain ⟨a5,c5,w6,om,qH,jQ,zU⟩:=wg.I ((V2.alloc (c_ #[t_ s] 9)).alloc (c_ #[] 9)) (V2.heap.size+1) b1 (heap_alloc2_new _ _ _) zo;refine L7 6 (fun K hK=> ?_);refine cM _ _ _ rfl _ _ _ w6 rfl rfl om ?_;refine hK.out _ _ (hS _ jQ) (fun hHeld=> ?_);clear hK K hHeld
  try simp only [pt,sb,s0,s1]
  have qJ:Hid (w6.ownsRow V2.heap.size 9 1 (s_ a5 y.Ma.length c5) y.Ma.length (bT.flat y.Ma)/\w6.heap[V2.heap.size]? =o_ (c_ #[t_ s] 9)/\B_ V2.heap.size V2 w6):=⟨qH,(zU _ zo zo (by simp <;> omega)).trans ((PU zw).trans (Kj _ _)),jQ⟩
  clear om qH jQ zU b1 b7 afR hS
 all_goals
  obtain ⟨a7,c7,w7,gT,mP,xI,-⟩:=ou w6 V2.heap.size a5 c5 y.Ma qJ.I.1 _ [s] 1 (jO qJ.I.2.1) (by simp only [Lg,K4]; omega) qJ.I.2.2.size;have mI:(y.Ma ++ [s]).length=y.Ma.length+1:=by rw [Lf]; rfl
  simp only [Lg,K4,Li] at gT mP;have gh:B_ V2.heap.size V2 w7:=qJ.I.2.2.grown xI qJ.I.2.2.size fun c e=>(cf qJ.I.1 (di e)).1
  rw [<- mI] at gT mP;obtain ⟨s1,⟨u,c⟩,f⟩:=pg (n:=m) S.I.fr.own (aI.dI gh) HM.I.1 HG.I (cq mP S.I.low) (fun g hg=> .inr (cf mP hg).1);rw [mI] at gT s1;refine L7 10 (fun K hK=> ?_);refine cM _ _ _ rfl _ _ _ w7 rfl rfl gT ?_;refine hK.out _ _ ⟨S.I.fr.box.below gh,(gh.block _ zo).trans S.I.op,(gh.block _ lW).trans afa.I.1⟩ (fun hHeld=> ?_);clear hK K hHeld
  try simp only [pt,sb]
  have wj:av w7 w.heap.size q/\oo w7 (w.heap.size+1) (13,N,M,s)/\w7.heap[X]? =o_ (c_ #[i_ j_ y.id,b_ true,b_ y.Mf,i_ j_ y.max,s_ y.ak y.Ma.length y.aq] 115):=⟨S.I.fr.box.below gh,(gh.block _ zo).trans S.I.op,(gh.block _ lW).trans afa.I.1⟩
  replace S:=aA (S.I.call s1);clear gT mP xI gh qJ wg s1;refine agi 11 wj ?_;refine agi 12 wj ?_;refine KW (rs:= [13]) ZcS zw ?_;refine KX rfl (fun K hK=> ?_) KY;have uQ:(w7.setCell ⟨Y5,m * 5+4,n_⟩ (s_ a7 (y.Ma.length+1) c7)).heap[X]? =o_ (c_ #[i_ j_ y.id,b_ true,b_ y.Mf,i_ j_ y.max,s_ y.ak y.Ma.length y.aq] 115):=(aH (fun e=> ?_)).trans wj.2.2;rotate_left
  .have h5:=(S.I.fr.lo Y5 (gD (.inr <| .inr <| .inr <| .inr <| .inr <| (by rw [HG.I]; simp [blk])))).2; have:=afa.I.2; omega
  simp only [KZ,K0,K1];rw [if_pos (by rfl)];go_wp2_with fail;refine hK.out _ _ ⟨S.I.fr.box,S.I.op,uQ⟩ (fun hHeld=> ?_);clear hK K hHeld;refine K3 ZcS ?_ _;clear c f u wj uQ lW hbz;go_upto_region 12 with fail;generalize w7.setCell ⟨Y5,m * 5+4,n_⟩ (s_ a7 (y.Ma.length+1) c7)=C at *;have CK:Hid (∃ q1:af,q1= { q with ai:=q.ai.set m { y with Ma:=(y.Ma ++ [s]),ak:=a7,aq:=c7 } } /\q1.pure=gU N (y.Ma ++ [s]) q.pure/\q1.cells=q.cells/\aQ q1.pure/\q1.L8[n]? =o_ x):=by
   have hq:({ q with ai:=q.ai.set m { y with Ma:=(y.Ma ++ [s]),ak:=a7,aq:=c7 } } :af).pure=gU N (y.Ma ++ [s]) q.pure:=sq HR.I.1.ai HM.I.1 HM.I.2.1;have hr2:aQ (gU N (y.Ma ++ [s]) q.pure):=by
    refine jj HR.I.1 (fun z hz hk=> ?_) (fun t0 ht=> ?_)
    .rw [only HR.I.1.ai HM.I.2.2 hz hk,mI]; have:=HN.I; have h7:=tI.I.2.2.1; have h8:y.todS.max=y.max:=rfl; push_cast; omega
    .exact (Kg.1 ht).elim (fun ht=>tI.I.1 t0 ht) (fun ht=>by simp only [Kt,Ku,or_false] at ht; rw [ht]; exact IB.I)
   exact Za4
  obtain ⟨q1,hq1,hq⟩:=CK.I;rw [<- hq1] at S;have HQ:=aA hq;clear hq1 hq CK;have Mb:=bB (n:=n) 0 S.I.fr.own S.I.low HQ.I.2.2.1 HQ.I.2.2.2 Zc1;rw [HQ.I.1,HQ.I.2.1] at Mb;go_wp2_with (refine eT 3 S.I.fr.box ?_);refine Mb.mono ?_;clear Mb;rintro e A2 ⟨q9,rfl,hp,ht⟩;replace S:=aA (S.I.call ht);have HP:Hid (q9.pure=_):=hp;clear hp ht;go_wp2_with (refine ec 6 76 q9.cells S.I.an ?_);refine gZ results92 S.I.an ?_;exact ⟨q9,rfl,HP.I.trans HE.I.symm,S.I.done _⟩
end
section
open Go.RowKit Go.Maps
def aZ.al (S:aZ) (o:Nat):List Nat:=o :: (S.boxes ++ S.kids)
section
variable {α:Type} {vs:α->Array v_} {num:α->Int} {T:T_}
def Shelf.far {w:w_} {base b g:Nat} {l:List (α × Nat)} {cs:Array v_} {abH:T_} (h:Shelf vs num T w base b l) (hg:w.heap[g]? =o_ (c_ cs abH)) (hT:T≠abH): ∀ c∈b :: l.map (·.2),c≠g:=fun c hc e=>by
 subst e;rcases Kt.1 hc with rfl | hc
 .obtain ⟨es,clock,h5,-⟩:=h.map.1
  rw [hg] at h5;cases h5
 .obtain ⟨p,hp,rfl⟩:=Lr.1 hc
  have h5:=h.box p hp;rw [hg] at h5;cases h5;exact hT rfl
def Shelf.onk {w:w_} {base b:Nat} {l:List (α × Nat)} (h:Shelf vs num T w base b l) {p p':α × Nat} (hp:p∈l) (hp':p'∈l) (e:num p.1=num p'.1):p=p':=by
 have hr:(RW num l).Pairwise (fun p q=>p.1 < q.1):=h.map.2;unfold RW at hr;rw [List.pairwise_map] at hr;obtain ⟨i,hi⟩:=List.mem_iff_getElem?.1 hp;obtain ⟨j,hj⟩:=List.mem_iff_getElem?.1 hp';obtain ⟨hi1,rfl⟩:=Lj.1 hi;obtain ⟨DS,rfl⟩:=Lj.1 hj;rw [List.pairwise_iff_getElem] at hr;rcases Nat.lt_trichotomy i j with hlt | heq | hgt
 .have h7:=hr i j hi1 DS hlt
  simp only at h7;omega
 .subst heq; rfl
 .have h7:=hr j i DS hi1 hgt
  simp only at h7;omega
def agQ {β:Type} {f:α->β} {nb:β->Int} {l:List (α × Nat)} (hn: ∀ x,nb (f x)=num x) (k:Int):(cz (RW num l) k=n_/\cg nb k (l.map fun p=>f p.1)=n_)\/ ∃ x g,(x,g)∈l/\num x=k/\cz (RW num l) k=o_ g/\cg nb k (l.map fun p=>f p.1)=o_ (f x):=by
 unfold cz cg RW
 induction l with
 | nil=>exact .inl ⟨rfl,rfl⟩
 | cons y r ih=>
  simp only [Lt];by_cases e:num y.1=k
  .refine .inr ⟨y.1,y.2,by simp,e,?_,?_⟩
   .rw [aeC (by simp [e])]; rfl
   .rw [aeC (by simp [hn,e])]
  .rw [aeD (by simp [e]),aeD (by simp [hn,e])]
   rcases ih with h1 | ⟨x,g,h1,h2⟩
   .exact .inl h1
   .exact .inr ⟨x,g,LB _ h1,h2⟩
def Shelf.ah2 {β:Type} {f:α->β} {nb:β->Int} {w:w_} {base b c:Nat} {l:List (α × Nat)} {x x':α} {F:β->β} (h:Shelf vs num T w base b l) (hn: ∀ x,nb (f x)=num x) (hx:(x,c)∈l) (hf:f x'=F (f x)):((YtfncpmaefninjaaGreatDoor.sU c (fun _=>x') l).map fun p=>f p.1)=jP nb (num x) F (l.map fun p=>f p.1):=by
 unfold YtfncpmaefninjaaGreatDoor.sU jP;rw [Lv,Lv];refine Lw fun p hp=> ?_
 simp only [Ls,hn];by_cases e:p.2=c
 .have:=h.one hp hx e
  subst this;rw [if_pos rfl,if_pos rfl];exact hf
 .rw [if_neg e,if_neg fun e2=>e (by rw [h.onk hp hx e2])]
def aiO {c:Nat} {f:α->α} {l:List (α × Nat)} (h:c∉l.map (·.2)):sU c f l=l:=by
 unfold sU
 conv=>rhs; rw [<- List.map_id l]
 refine Lw fun p hp=> ?_
 rw [if_neg fun e=>h (Lr.2 ⟨p,hp,e⟩)];rfl
def ah3 {c:Nat} {x x':α} {l:List (α × Nat)} (hx:(x,c)∈l) (hn:(l.map (·.2)).Nodup): ∃ A B,l=A ++ (x,c) :: B/\sU c (fun _=>x') l=A ++ (x',c) :: B:=by
 obtain ⟨A,B,rfl⟩:=List.append_of_mem hx;refine ⟨A,B,rfl,?_⟩;rw [Kl,Lt] at hn;have h1:=Kf.1 hn;have h2:=Lp.1 h1.2.1;have e1:sU c (fun _=>x') A=A:=aiO fun hm=>h1.2.2 c hm c zw rfl
 have e2:sU c (fun _=>x') B=B:=aiO h2.1;unfold sU at e1 e2 ⊢;rw [Kl,Lt,e1,e2];simp
end
def ais {P Q Q' R:List Nat} (h:(P ++ (Q ++ R)).Nodup) (hq:Q'.Nodup) (hd: ∀ g∈Q',g∈Q\/(g∉P/\g∉R)):(P ++ (Q' ++ R)).Nodup:=by
 have h1:=Kf.1 h;have h2:=Kf.1 h1.2.1;refine Kf.2 ⟨h1.1,Kf.2 ⟨hq,h2.2.1,fun a ha b hb e=> ?_⟩,fun a ha b hb e=> ?_⟩
 .subst e
  rcases hd a ha with h5 | h5
  .exact h2.2.2 a h5 a hb rfl
  .exact h5.2 hb
 .subst e
  rcases Kg.1 hb with hb | hb
  .rcases hd a hb with h5 | h5
   .exact h1.2.2 a ha a (Lz _ h5) rfl
   .exact h5.1 ha
  .exact h1.2.2 a ha a (Ly _ hb) rfl
section
variable {w w':w_} {base o g:Nat} {S:aZ}
def aZ.ago {b:Nat} (h:b∈S.q.bp :: S.lp.map (·.2)):b∈S.boxes:=by unfold aZ.boxes; simp only [Kg]; exact .inl h
def aZ.ahS {b:Nat} (h:b∈S.q.bs :: S.ls.map (·.2)):b∈S.boxes:=by unfold aZ.boxes; simp only [Kg]; exact .inr (.inl h)
def aZ.agZ {b:Nat} (h:b∈S.q.be :: S.le.map (·.2)):b∈S.boxes:=by unfold aZ.boxes; simp only [Kg]; exact .inr (.inr (.inl h))
def aZ.ag0 {b:Nat} (h:b∈S.q.bb :: S.lb.map (·.2)):b∈S.boxes:=by unfold aZ.boxes; simp only [Kg]; exact .inr (.inr (.inr (.inl h)))
def aZ.F9 {b:Nat} (h:b∈S.q.bf :: S.lf.map (·.2)):b∈S.boxes:=by unfold aZ.boxes; simp only [Kg]; exact .inr (.inr (.inr (.inr (.inl h))))
def aZ.agV {b:Nat} (h:b∈S.q.bq :: S.lq.map (·.2)):b∈S.boxes:=by unfold aZ.boxes; simp only [Kg]; exact .inr (.inr (.inr (.inr (.inr (h)))))
def aZ.agr {b:Nat} (h:b∈S.boxes):b∈S.al o:=LB _ (Lz _ h)
def aZ.ag4 {b:Nat} (h:b∈S.kids):b∈S.al o:=LB _ (Ly _ h)
def cJ.apart (h:cJ w base o S) (hg:g∈S.boxes):o≠g/\ ∀ b∈S.kids,b≠g:=by
 have h1:=Lp.1 h.nodup;have h2:=(Kf.1 h1.2).2.2;exact ⟨fun e=>h1.1 (e ▸ Lz _ hg),fun b hb e=>h2 g hg b hb e.symm⟩
def cJ.sem {x x':bD} (h:cJ w base o S) (hx:(x,g)∈S.ls) (hb:w'.heap[g]? =o_ (c_ (eH x') 89)) (hid:x'.id=x.id) (hs: ∀ b∈S.al o,b≠g->w'.heap[b]? =w.heap[b]?):cJ w' base o { S with ls:=sU g (fun _=>x') S.ls } :=by
 have hg:=h.aj.box _ hx;have hgb:g∈S.boxes:=aZ.ahS (LB _ (Lr.2 ⟨_,hx,rfl⟩));have ha:=h.apart hgb;have kk: ∀ b∈S.kids,w'.heap[b]? =w.heap[b]? :=fun b hb2=>hs b (aZ.ag4 hb2) (ha.2 b hb2)
 have km: ∀ (b:Nat),(b∈kids aR S.lp\/b∈kids aC S.lf\/b∈kids aU S.lq)->b∈S.kids:=fun b hb=>by simp only [aZ.kids,Kg]; exact hb
 refine ⟨(hs o ZdW ha.1).trans h.opn,h.L8.same fun b hb2=>hs b (aZ.agr (aZ.ago hb2)) (h.L8.far hg (by decide) b hb2),h.aj.sU (f:=fun _=>x') (fun p hp e=>by rw [h.aj.one hp hx e]; exact hid) (fun _ _ _=>hb) (hs _ (aZ.agr (aZ.ahS zw)) (fun e=>(Lp.1 h.aj.nodup).1 (e ▸ Lr.2 ⟨_,hx,rfl⟩))) (fun b hb2 hne=>hs b (aZ.agr (aZ.ahS (LB _ hb2))) hne),h.L9.same fun b hb2=>hs b (aZ.agr (aZ.agZ hb2)) (h.L9.far hg (by decide) b hb2),h.ag.same fun b hb2=>hs b (aZ.agr (aZ.ag0 hb2)) (h.ag.far hg (by decide) b hb2),h.ae.same fun b hb2=>hs b (aZ.agr (aZ.F9 hb2)) (h.ae.far hg (by decide) b hb2),h.ai.same fun b hb2=>hs b (aZ.agr (aZ.agV hb2)) (h.ai.far hg (by decide) b hb2),fun p hp=>(h.eI p hp).same fun b hb2=>kk b (km b (.inl (Lq.2 ⟨p,hp,hb2⟩))),fun p hp=>(h.eE p hp).same fun b hb2=>kk b (km b (.inr (.inl (Lq.2 ⟨p,hp,hb2⟩)))),fun p hp=>(h.eR p hp).same fun b hb2=>kk b (km b (.inr (.inr (Lq.2 ⟨p,hp,hb2⟩)))),?_,h.low⟩;have e1:({ S with ls:=sU g (fun _=>x') S.ls } :aZ).boxes=S.boxes:=by simp only [aZ.boxes,qb]
 rw [e1];exact h.nodup
def cJ.event {x x':aB} (h:cJ w base o S) (hx:(x,g)∈S.le) (hb:w'.heap[g]? =o_ (c_ (cG x') 91)) (hid:x'.id=x.id) (hs: ∀ b∈S.al o,b≠g->w'.heap[b]? =w.heap[b]?):cJ w' base o { S with le:=sU g (fun _=>x') S.le } :=by
 have hg:=h.L9.box _ hx;have hgb:g∈S.boxes:=aZ.agZ (LB _ (Lr.2 ⟨_,hx,rfl⟩));have ha:=h.apart hgb;have kk: ∀ b∈S.kids,w'.heap[b]? =w.heap[b]? :=fun b hb2=>hs b (aZ.ag4 hb2) (ha.2 b hb2)
 have km: ∀ (b:Nat),(b∈kids aR S.lp\/b∈kids aC S.lf\/b∈kids aU S.lq)->b∈S.kids:=fun b hb=>by simp only [aZ.kids,Kg]; exact hb
 refine ⟨(hs o ZdW ha.1).trans h.opn,h.L8.same fun b hb2=>hs b (aZ.agr (aZ.ago hb2)) (h.L8.far hg (by decide) b hb2),h.aj.same fun b hb2=>hs b (aZ.agr (aZ.ahS hb2)) (h.aj.far hg (by decide) b hb2),h.L9.sU (f:=fun _=>x') (fun p hp e=>by rw [h.L9.one hp hx e]; exact hid) (fun _ _ _=>hb) (hs _ (aZ.agr (aZ.agZ zw)) (fun e=>(Lp.1 h.L9.nodup).1 (e ▸ Lr.2 ⟨_,hx,rfl⟩))) (fun b hb2 hne=>hs b (aZ.agr (aZ.agZ (LB _ hb2))) hne),h.ag.same fun b hb2=>hs b (aZ.agr (aZ.ag0 hb2)) (h.ag.far hg (by decide) b hb2),h.ae.same fun b hb2=>hs b (aZ.agr (aZ.F9 hb2)) (h.ae.far hg (by decide) b hb2),h.ai.same fun b hb2=>hs b (aZ.agr (aZ.agV hb2)) (h.ai.far hg (by decide) b hb2),fun p hp=>(h.eI p hp).same fun b hb2=>kk b (km b (.inl (Lq.2 ⟨p,hp,hb2⟩))),fun p hp=>(h.eE p hp).same fun b hb2=>kk b (km b (.inr (.inl (Lq.2 ⟨p,hp,hb2⟩)))),fun p hp=>(h.eR p hp).same fun b hb2=>kk b (km b (.inr (.inr (Lq.2 ⟨p,hp,hb2⟩)))),?_,h.low⟩;have e1:({ S with le:=sU g (fun _=>x') S.le } :aZ).boxes=S.boxes:=by simp only [aZ.boxes,qb]
 rw [e1];exact h.nodup
def cJ.ajl {x x':az} (h:cJ w base o S) (hx:(x,g)∈S.lb) (hb:w'.heap[g]? =o_ (c_ (cI x') 93)) (hid:x'.id=x.id) (hs: ∀ b∈S.al o,b≠g->w'.heap[b]? =w.heap[b]?):cJ w' base o { S with lb:=sU g (fun _=>x') S.lb } :=by
 have hg:=h.ag.box _ hx;have hgb:g∈S.boxes:=aZ.ag0 (LB _ (Lr.2 ⟨_,hx,rfl⟩));have ha:=h.apart hgb;have kk: ∀ b∈S.kids,w'.heap[b]? =w.heap[b]? :=fun b hb2=>hs b (aZ.ag4 hb2) (ha.2 b hb2)
 have km: ∀ (b:Nat),(b∈kids aR S.lp\/b∈kids aC S.lf\/b∈kids aU S.lq)->b∈S.kids:=fun b hb=>by simp only [aZ.kids,Kg]; exact hb
 refine ⟨(hs o ZdW ha.1).trans h.opn,h.L8.same fun b hb2=>hs b (aZ.agr (aZ.ago hb2)) (h.L8.far hg (by decide) b hb2),h.aj.same fun b hb2=>hs b (aZ.agr (aZ.ahS hb2)) (h.aj.far hg (by decide) b hb2),h.L9.same fun b hb2=>hs b (aZ.agr (aZ.agZ hb2)) (h.L9.far hg (by decide) b hb2),h.ag.sU (f:=fun _=>x') (fun p hp e=>by rw [h.ag.one hp hx e]; exact hid) (fun _ _ _=>hb) (hs _ (aZ.agr (aZ.ag0 zw)) (fun e=>(Lp.1 h.ag.nodup).1 (e ▸ Lr.2 ⟨_,hx,rfl⟩))) (fun b hb2 hne=>hs b (aZ.agr (aZ.ag0 (LB _ hb2))) hne),h.ae.same fun b hb2=>hs b (aZ.agr (aZ.F9 hb2)) (h.ae.far hg (by decide) b hb2),h.ai.same fun b hb2=>hs b (aZ.agr (aZ.agV hb2)) (h.ai.far hg (by decide) b hb2),fun p hp=>(h.eI p hp).same fun b hb2=>kk b (km b (.inl (Lq.2 ⟨p,hp,hb2⟩))),fun p hp=>(h.eE p hp).same fun b hb2=>kk b (km b (.inr (.inl (Lq.2 ⟨p,hp,hb2⟩)))),fun p hp=>(h.eR p hp).same fun b hb2=>kk b (km b (.inr (.inr (Lq.2 ⟨p,hp,hb2⟩)))),?_,h.low⟩;have e1:({ S with lb:=sU g (fun _=>x') S.lb } :aZ).boxes=S.boxes:=by simp only [aZ.boxes,qb]
 rw [e1];exact h.nodup
def cJ.buffer {x x':au} (h:cJ w base o S) (hx:(x,g)∈S.lf) (hb:w'.heap[g]? =o_ (c_ (bQ x') 96)) (hm:aC.cO w' base x') (hid:x'.id=x.id) (hs: ∀ b∈S.al o,b≠g->b∉blk x.ak->w'.heap[b]? =w.heap[b]?) (hk: ∀ b∈blk x'.ak,b∈blk x.ak\/b∉S.al o):
  cJ w' base o { S with lf:=sU g (fun _=>x') S.lf } /\ ∀ b∈({ S with lf:=sU g (fun _=>x') S.lf } :aZ).al o,b∈S.al o\/b∈blk x'.ak:=by
 have hg:=h.ae.box _ hx;have hgb:g∈S.boxes:=aZ.F9 (LB _ (Lr.2 ⟨_,hx,rfl⟩));have ha:=h.apart hgb;obtain ⟨A,B,hl,hu⟩:=ah3 (x':=x') hx (Lp.1 h.ae.nodup).2;have adw: ∀ (z:au),kids aC (A ++ (z,g) :: B)=kids aC A ++ (blk z.ak ++ kids aC B):=fun z=>by
  have e:aC.bt z=z.ak.map (·.block):=rfl;unfold kids blk;rw [LW,LH];simp only [e];cases z.ak <;> simp
 obtain ⟨P,hP⟩: ∃ P,P=o :: (S.boxes ++ (kids aR S.lp ++ kids aC A)):=⟨_,rfl⟩
 obtain ⟨R,hR⟩: ∃ R,R=kids aC B ++ kids aU S.lq:=⟨_,rfl⟩
 have e1:S.al o=P ++ (blk x.ak ++ R):=by
  unfold aZ.al aZ.kids;rw [hP,hR]
  conv=>lhs; rw [hl,adw]
  simp [Lm]
 have eb:({ S with lf:=sU g (fun _=>x') S.lf } :aZ).boxes=S.boxes:=by simp only [aZ.boxes,qb]
 have e2:({ S with lf:=sU g (fun _=>x') S.lf } :aZ).al o=P ++ (blk x'.ak ++ R):=by
  exact Zb8
 have hn:(P ++ (blk x.ak ++ R)).Nodup:=by rw [<- e1]; exact h.nodup
 have n1:=Kf.1 hn;have n2:=Kf.1 n1.2.1;have inP: ∀ b,b=o\/b∈S.boxes\/b∈kids aR S.lp\/b∈kids aC A->b∈P:=fun b hb'=>by rw [hP]; simp only [Kt,Kg]; exact hb'
 have aff: ∀ b∈blk x.ak,b∈S.kids:=fun b hb2=>by
  unfold aZ.kids;rw [hl,adw];simp [hb2]
 have bs: ∀ b∈S.boxes,b≠g->w'.heap[b]? =w.heap[b]? :=fun b hb2 hne=>hs b (aZ.agr hb2) hne fun hm2=>(h.apart hb2).2 b (aff b hm2) rfl
 have kk: ∀ b,b∈P\/b∈R->b∈S.kids->w'.heap[b]? =w.heap[b]? :=fun b hb2 hb3=>hs b (aZ.ag4 hb3) (ha.2 b hb3) fun hm2=>by
  exact ZbS
 have km: ∀ (b:Nat),(b∈kids aR S.lp\/b∈kids aC S.lf\/b∈kids aU S.lq)->b∈S.kids:=fun b hb=>by simp only [aZ.kids,Kg]; exact hb
 refine ⟨⟨(hs o ZdW ha.1 fun hm2=>(Lp.1 h.nodup).1 (Ly _ (aff o hm2))).trans h.opn,h.L8.same fun b hb2=>bs b (aZ.ago hb2) (h.L8.far hg (by decide) b hb2),h.aj.same fun b hb2=>bs b (aZ.ahS hb2) (h.aj.far hg (by decide) b hb2),h.L9.same fun b hb2=>bs b (aZ.agZ hb2) (h.L9.far hg (by decide) b hb2),h.ag.same fun b hb2=>bs b (aZ.ag0 hb2) (h.ag.far hg (by decide) b hb2),h.ae.sU (f:=fun _=>x') (fun p hp e=>by rw [h.ae.one hp hx e]; exact hid) (fun _ _ _=>hb) (bs _ (aZ.F9 zw) (fun e=>(Lp.1 h.ae.nodup).1 (e ▸ Lr.2 ⟨_,hx,rfl⟩))) (fun b hb2 hne=>bs b (aZ.F9 (LB _ hb2)) hne),h.ai.same fun b hb2=>bs b (aZ.agV hb2) (h.ai.far hg (by decide) b hb2),fun p hp=>(h.eI p hp).same fun b hb2=>kk b (.inl (inP b (.inr (.inr (.inl (Lq.2 ⟨p,hp,hb2⟩)))))) (km b (.inl (Lq.2 ⟨p,hp,hb2⟩))),fun p hp=> ?_,fun p hp=>(h.eR p hp).same fun b hb2=>kk b (.inr (by rw [hR]; exact Ly _ (Lq.2 ⟨p,hp,hb2⟩))) (km b (.inr (.inr (Lq.2 ⟨p,hp,hb2⟩)))),?_,h.low⟩,fun b hb2=> ?_⟩
 .have hp':p∈A ++ (x',g) :: B:=by rw [<- hu]; exact hp
  rcases Kg.1 hp' with h5 | h5
  .have h6:p∈S.lf:=by rw [hl]; exact Lz _ h5
   exact (h.eE p h6).same fun b hb2=>kk b (.inl (inP b (.inr (.inr (.inr (Lq.2 ⟨p,h5,hb2⟩)))))) (km b (.inr (.inl (Lq.2 ⟨p,h6,hb2⟩))))
  .rcases Kt.1 h5 with rfl | h5
   .exact hm
   .have h6:p∈S.lf:=by rw [hl]; exact Ly _ (LB _ h5)
    exact (h.eE p h6).same fun b hb2=>kk b (.inr (by rw [hR]; exact Lz _ (Lq.2 ⟨p,h5,hb2⟩))) (km b (.inr (.inl (Lq.2 ⟨p,h6,hb2⟩))))
 .show (({ S with lf:=sU g (fun _=>x') S.lf } :aZ).al o).Nodup
  exact Zaw
 .exact Za2
def cJ.port {x x':aM} (h:cJ w base o S) (hx:(x,g)∈S.lq) (hb:w'.heap[g]? =o_ (c_ (cW x') 115)) (hm:aU.cO w' base x') (hid:x'.id=x.id) (hs: ∀ b∈S.al o,b≠g->b∉blk x.ak->w'.heap[b]? =w.heap[b]?) (hk: ∀ b∈blk x'.ak,b∈blk x.ak\/b∉S.al o):
  cJ w' base o { S with lq:=sU g (fun _=>x') S.lq } /\ ∀ b∈({ S with lq:=sU g (fun _=>x') S.lq } :aZ).al o,b∈S.al o\/b∈blk x'.ak:=by
 have hg:=h.ai.box _ hx;have hgb:g∈S.boxes:=aZ.agV (LB _ (Lr.2 ⟨_,hx,rfl⟩));have ha:=h.apart hgb;obtain ⟨A,B,hl,hu⟩:=ah3 (x':=x') hx (Lp.1 h.ai.nodup).2;have adw: ∀ (z:aM),kids aU (A ++ (z,g) :: B)=kids aU A ++ (blk z.ak ++ kids aU B):=fun z=>by
  have e:aU.bt z=z.ak.map (·.block):=rfl;unfold kids blk;rw [LW,LH];simp only [e];cases z.ak <;> simp
 obtain ⟨P,hP⟩: ∃ P,P=o :: (S.boxes ++ (kids aR S.lp ++ (kids aC S.lf ++ kids aU A))):=⟨_,rfl⟩
 obtain ⟨R,hR⟩: ∃ R,R=kids aU B:=⟨_,rfl⟩
 have e1:S.al o=P ++ (blk x.ak ++ R):=by
  unfold aZ.al aZ.kids;rw [hP,hR]
  conv=>lhs; rw [hl,adw]
  simp [Lm]
 have eb:({ S with lq:=sU g (fun _=>x') S.lq } :aZ).boxes=S.boxes:=by simp only [aZ.boxes,qb]
 have e2:({ S with lq:=sU g (fun _=>x') S.lq } :aZ).al o=P ++ (blk x'.ak ++ R):=by
  exact Zb8
 have hn:(P ++ (blk x.ak ++ R)).Nodup:=by rw [<- e1]; exact h.nodup
 have n1:=Kf.1 hn;have n2:=Kf.1 n1.2.1;have inP: ∀ b,b=o\/b∈S.boxes\/b∈kids aR S.lp\/b∈kids aC S.lf\/b∈kids aU A->b∈P:=fun b hb'=>by rw [hP]; simp only [Kt,Kg]; exact hb'
 have aff: ∀ b∈blk x.ak,b∈S.kids:=fun b hb2=>by
  unfold aZ.kids;rw [hl,adw];simp [hb2]
 have bs: ∀ b∈S.boxes,b≠g->w'.heap[b]? =w.heap[b]? :=fun b hb2 hne=>hs b (aZ.agr hb2) hne fun hm2=>(h.apart hb2).2 b (aff b hm2) rfl
 have kk: ∀ b,b∈P\/b∈R->b∈S.kids->w'.heap[b]? =w.heap[b]? :=fun b hb2 hb3=>hs b (aZ.ag4 hb3) (ha.2 b hb3) fun hm2=>by
  exact ZbS
 have km: ∀ (b:Nat),(b∈kids aR S.lp\/b∈kids aC S.lf\/b∈kids aU S.lq)->b∈S.kids:=fun b hb=>by simp only [aZ.kids,Kg]; exact hb
 refine ⟨⟨(hs o ZdW ha.1 fun hm2=>(Lp.1 h.nodup).1 (Ly _ (aff o hm2))).trans h.opn,h.L8.same fun b hb2=>bs b (aZ.ago hb2) (h.L8.far hg (by decide) b hb2),h.aj.same fun b hb2=>bs b (aZ.ahS hb2) (h.aj.far hg (by decide) b hb2),h.L9.same fun b hb2=>bs b (aZ.agZ hb2) (h.L9.far hg (by decide) b hb2),h.ag.same fun b hb2=>bs b (aZ.ag0 hb2) (h.ag.far hg (by decide) b hb2),h.ae.same fun b hb2=>bs b (aZ.F9 hb2) (h.ae.far hg (by decide) b hb2),h.ai.sU (f:=fun _=>x') (fun p hp e=>by rw [h.ai.one hp hx e]; exact hid) (fun _ _ _=>hb) (bs _ (aZ.agV zw) (fun e=>(Lp.1 h.ai.nodup).1 (e ▸ Lr.2 ⟨_,hx,rfl⟩))) (fun b hb2 hne=>bs b (aZ.agV (LB _ hb2)) hne),fun p hp=>(h.eI p hp).same fun b hb2=>kk b (.inl (inP b (.inr (.inr (.inl (Lq.2 ⟨p,hp,hb2⟩)))))) (km b (.inl (Lq.2 ⟨p,hp,hb2⟩))),fun p hp=>(h.eE p hp).same fun b hb2=>kk b (.inl (inP b (.inr (.inr (.inr (.inl (Lq.2 ⟨p,hp,hb2⟩))))))) (km b (.inr (.inl (Lq.2 ⟨p,hp,hb2⟩)))),fun p hp=> ?_,?_,h.low⟩,fun b hb2=> ?_⟩
 .have hp':p∈A ++ (x',g) :: B:=by rw [<- hu]; exact hp
  rcases Kg.1 hp' with h5 | h5
  .have h6:p∈S.lq:=by rw [hl]; exact Lz _ h5
   exact (h.eR p h6).same fun b hb2=>kk b (.inl (inP b (.inr (.inr (.inr (.inr (Lq.2 ⟨p,h5,hb2⟩))))))) (km b (.inr (.inr (Lq.2 ⟨p,h6,hb2⟩))))
  .rcases Kt.1 h5 with rfl | h5
   .exact hm
   .have h6:p∈S.lq:=by rw [hl]; exact Ly _ (LB _ h5)
    exact (h.eR p h6).same fun b hb2=>kk b (.inr (by rw [hR]; exact Lq.2 ⟨p,h5,hb2⟩)) (km b (.inr (.inr (Lq.2 ⟨p,h6,hb2⟩))))
 .show (({ S with lq:=sU g (fun _=>x') S.lq } :aZ).al o).Nodup
  exact Zaw
 .exact Za2
end
end
section
open Go.RowKit Go.Maps
attribute [local go_sem ↓] Kc Kd
def BS (q:af) (n base:Nat) (x:ao) (o:dN) (w:w_) (h:ap w base q) (hb:base<=w.heap.size) (hr:aQ q.pure) (hx:q.L8[n]? =o_ x) (hs:x.Md=1) (hn:q.next<=999999990) (ho:kc o=true) (hk:o.1=14):
  k_ J3 92 #[a_ q.cells,i_ j_ n,a_ (j9 o)] w (jH w base q (gC o x.id q.pure)):=by
 obtain ⟨-,f1,f2,f3,f4⟩:=dv ho;have hM:=bz.1 f2;obtain ⟨k,N,M,s⟩:=o;simp only at hk hM f1 f3 f4;subst hk;have HR:Hid (aQ q.pure/\q.L8[n]? =o_ x/\x.Md=1/\q.next<=999999990/\(-1<=M/\M<=1000)):=⟨hr,hx,hs,hn,hM⟩
 have HF:=aA (dW hr);clear f2 hr hx hs hn hM ho;have S:=aA (Xf.start (o:=(14,N,M,s)) h hb);clear h hb
 go_enter func92,ntmps92
 go_upto_region 1 with fail;generalize ((w.alloc (c_ q.cells 31)).alloc (c_ (j9 (14,N,M,s)) 45)).alloc (c_ ar 31)=A at *;obtain ⟨-,o1,-,-⟩:=S.I.op.cells;simp only at o1;have hpf:=ef (num:=fun x:aM=>x.id) N q.ai 0;have Mb:=uV q N A ZcZ S.I.fr.own.at;generalize place (q.ai.map (fun x=>x.id)) N 0=z at *;go_wp2_with (refine eT 3 S.I.fr.box ?_);refine Mb.mono ?_;clear Mb;rintro e A2 ⟨rfl,hb2⟩;replace S:=aA (S.I.reads hb2);clear hb2 o1;have hfm:=lJ (num:=fun x:dS=>x.id) (je:=fun x:aM=>x.id) (g:=fun x:aM=>x.todS) (fun _=>rfl) (id:=N) q.ai;rcases hpf with ⟨hz,hf⟩ | ⟨m,y,hz,hm,hid,hf⟩
 .subst hz
  rw [hf] at hfm;have HE:Hid (gC (14,N,M,s) x.id q.pure=bu 3 x.id q.pure):=by show gC (14,N,M,s) x.id q.pure=_; unfold gC; rw [show cg (fun x:dS=>x.id) N q.pure.ai=n_ from hfm]
  exact Zcq
 rw [hf] at hfm;rw [Li] at hz;subst hz;have afO:decide ((m:Int) < 0)=false:=decide_eq_false zo;have HM:Hid (q.ai[m]? =o_ y/\y.id=N/\cg (fun x:dS=>x.id) N q.pure.ai=o_ y.todS):=⟨hm,hid,hfm⟩
 have hml:=(Lj.1 hm).1;have j0:(0:Int)<=(m:Int):=zo
 have j1:(m:Int) < (q.ai.length:Int):=zo
 clear hm hid hf hfm hml;go_upto_region 2 with fail;replace S:=aA (S.I.reads (Kp _ _).drew);refine aT (fun w1=>w1=A2.drew) ZcS rfl ?_;generalize A2.drew=B at *;obtain ⟨Y5,iE,hat⟩:=lm S.I.fr.own.at.2.2.2.2.2 HM.I.1;have m7:=S.I.fr.box.cells.2.2.2.2.2.2.2;rw [iE] at m7;have d0:=hat.1;have d1:=hat.2.1;have d2:=hat.2.2.1;have d3:=hat.2.2.2.1;have d4:=hat.2.2.2.2;have HG:Hid (q.aK=o_ ⟨Y5,0,n_⟩):=iE;clear hat iE;obtain ⟨o0,-,-,-⟩:=S.I.op.cells;simp only at o0
 iterate 14 (refine agj ?_)
 refine bk ZcS ?_ _;intro w1 cm;rw [cm];clear cm w1 afO;clear f1 f3 f4;have tI:Hid ((∀ u∈y.Ma,bw u=true)/\y.Ma.length<=5/\(y.Ma.length:Int)<=y.max/\1<=y.max):=by
  have h5:=nB (o:=(14,N,M,s)) HR.I.1 HM.I.2.2; have h6:=An HR.I.1 (Lr.2 ⟨y,KA HM.I.1,rfl⟩);exact Zbk
 cases hu:y.I;rotate_left
 .rw [hu] at d1
  have HE:Hid (gC (14,N,M,s) x.id q.pure=bu 3 x.id q.pure):=by show gC (14,N,M,s) x.id q.pure=_; unfold gC; rw [show cg (fun x:dS=>x.id) N q.pure.ai=o_ y.todS from HM.I.2.2]; exact if_pos hu
  exact jp
 have HO:Hid (y.I=false):=hu;clear hu;rw [HO.I] at d1;have h5:=(Kp B.heap.size B).alloc (Ki _) (c_ #[i_ j_ y.id,b_ false,b_ y.Mf,i_ j_ y.max,s_ y.ak y.Ma.length y.aq] 115);have afa:Hid ((B.alloc (c_ #[i_ j_ y.id,b_ false,b_ y.Mf,i_ j_ y.max,s_ y.ak y.Ma.length y.aq] 115)).heap[B.heap.size]? =o_ (c_ #[i_ j_ y.id,b_ false,b_ y.Mf,i_ j_ y.max,s_ y.ak y.Ma.length y.aq] 115)/\w.heap.size+3<=B.heap.size):=⟨Kj _ _,S.I.fr.sz.2.1⟩
 replace S:=aA (S.I.reads h5);clear h5;go_upto_region 5 with fail;generalize B.alloc (c_ #[i_ j_ y.id,b_ false,b_ y.Mf,i_ j_ y.max,s_ y.ak y.Ma.length y.aq] 115)=C at *;generalize B.heap.size=X at *;clear m7 d0 d1 d2 d3 d4 o0;obtain ⟨o0,-,-,-⟩:=S.I.op.cells;simp only at o0;go_upto_region 13 with fail;clear o0;obtain ⟨gp,l9,-⟩:=cn S.I.fr.own.at.1 HR.I.2.1;have m2:=S.I.fr.box.cells.2.2.1;have k1:(n:Int) < (q.L8.length:Int):=by have:=(Lj.1 HR.I.2.1).1; omega
 have k0:(0:Int)<=(n:Int):=zo
 rw [l9] at m2;have ud:Hid (q.aN=o_ ⟨gp,0,n_⟩):=l9;clear l9;obtain ⟨s1,⟨u,c⟩,f⟩:=eY (n:=n) (j:=9) (v:=t_ ⟨#[]⟩) (y:= { x with got:=rM }) S.I.fr.own HR.I.2.1 ud.I ⟨rfl,rfl,rfl⟩ (by decide) rfl;have lW:(C.setCell ⟨gp,n * 12+9,n_⟩ (t_ ⟨#[]⟩)).heap[X]? =o_ (c_ #[i_ j_ y.id,b_ false,b_ y.Mf,i_ j_ y.max,s_ y.ak y.Ma.length y.aq] 115):=(aH (fun e=>by have h5:=(S.I.fr.lo gp (gD (.inl (by rw [ud.I]; simp [blk])))).2; have:=afa.I.2; omega)).trans afa.I.1;replace S:=aA (S.I.call s1);replace afa:=aA (And.intro lW afa.I.2);clear s1 lW;go_upto_region 14 with fail;generalize C.setCell ⟨gp,n * 12+9,n_⟩ (t_ ⟨#[]⟩)=D at *;clear m2 c f u;have x4:D.cell? ⟨X,4,n_⟩=o_ (s_ y.ak y.Ma.length y.aq):=by simp [World.cell?,afa.I.1]
 cases hit:y.Ma with
 | nil=>
  rw [hit] at x4;have HE:Hid (gC (14,N,M,s) x.id q.pure=bu 1 x.id (ez rM x.id q.pure)):=by show gC (14,N,M,s) x.id q.pure=_; unfold gC; rw [show cg (fun x:dS=>x.id) N q.pure.ai=o_ y.todS from HM.I.2.2]; dsimp only; rw [if_neg (show ¬ y.I=true by rw [HO.I]; decide),show y.todS.Ma= [] from hit]
  clear afa hit;obtain ⟨q1,hq1,hq⟩:=kg HR.I.1 HR.I.2.1 jX;rw [<- hq1] at S;have HQ:=aA hq;clear hq1 hq;have Mb:=bB (n:=n) 1 S.I.fr.own S.I.low HQ.I.2.2.1 HQ.I.2.2.2 Zc6;rw [HQ.I.1,HQ.I.2.1] at Mb;go_wp2_with (refine eT 3 S.I.fr.box ?_);refine Mb.mono ?_;clear Mb;rintro e A2 ⟨q9,rfl,hp,ht⟩;replace S:=aA (S.I.call ht);have HP:Hid (q9.pure=_):=hp;clear hp ht;go_wp2_with (refine ec 6 88 q9.cells S.I.an ?_);exact ws
 | cons t0 r=>
  have jA:Hid (y.Ma=t0 :: r/\bw t0=true/\ ∀ u∈r,bw u=true):=⟨hit,tI.I.1 t0 (by rw [hit]; simp),fun u hu=>tI.I.1 u (by rw [hit]; simp [hu])⟩
  have il:(0:Int) < (y.Ma.length:Int):=by rw [hit]; simp
  have il3:0 < y.Ma.length:=by rw [hit]; simp
  have il4: ¬ y.Ma.length=0:=zo
  have il2:((y.Ma.length:Int) == 0)=false:=by rw [hit]; simp; omega
  have HU:Hid (gC (14,N,M,s) x.id q.pure=bu 0 x.id (if y.Mf then gU N r (ez t0 x.id q.pure) else ez t0 x.id q.pure)):=by show gC (14,N,M,s) x.id q.pure=_; unfold gC; rw [show cg (fun x:dS=>x.id) N q.pure.ai=o_ y.todS from HM.I.2.2]; dsimp only; rw [if_neg (show ¬ y.I=true by rw [HO.I]; decide),show y.todS.Ma=t0 :: r from hit]
  clear hit;go_upto_region 16 with fail;clear x4 il2;replace afa:Hid (D.drew.heap[X]? =o_ (c_ #[i_ j_ y.id,b_ false,b_ y.Mf,i_ j_ y.max,s_ y.ak y.Ma.length y.aq] 115)/\w.heap.size+3<=X):=afa.I;replace S:=aA (S.I.reads (Kp _ _).drew);refine eD (fun w1=>w1=D.drew) 9 ZcS rfl ?_;generalize D.drew=E at *;have x4:E.cell? ⟨X,4,n_⟩=o_ (s_ y.ak y.Ma.length y.aq):=by simp [World.cell?,afa.I.1]
  obtain ⟨abo,hgi,x5⟩:=zl (nJ S.I.fr.own.at.2.2.2.2.2 HM.I.1) (show y.Ma[0]? =o_ t0 by rw [jA.I.1]; rfl);rw [hgi] at x4;have m2:=S.I.fr.box.cells.2.2.1;rw [ud.I] at m2;obtain ⟨s1,⟨u,c⟩,f⟩:=eY (n:=n) (j:=9) (v:=t_ t0) (x:= { x with got:=rM }) (y:= { x with got:=t0 }) S.I.fr.own (by show (q.L8.set n _)[n]? =_; rw [LU (Lj.1 HR.I.2.1).1]) ud.I ⟨rfl,rfl,rfl⟩ (by decide) rfl;have lW:(E.setCell ⟨gp,n * 12+9,n_⟩ (t_ t0)).heap[X]? =o_ (c_ #[i_ j_ y.id,b_ false,b_ y.Mf,i_ j_ y.max,s_ y.ak y.Ma.length y.aq] 115):=(aH (fun e=>by have h5:=(S.I.fr.lo gp (gD (.inl (by rw [ud.I]; simp [blk])))).2; have:=afa.I.2; omega)).trans afa.I.1;replace S:=aA (S.I.call s1);replace afa:=aA (And.intro lW afa.I.2);clear s1 lW hgi;simp only [List.set_set] at S
  iterate 9 (refine ly 10 (v:= ?_) (o_ _) rfl rfl ZcS (fun _ _ _ h=>h) (bV ZcS ?_) ?_; rotate_left; (intro w0 hS0; subst hS0; go_simp; try with_reducible rfl); simp only [pt,sb,s0,s1])
  refine fL rfl ZcS ZcS ZcS ?_;intro w1 cm;rw [cm];clear cm w1
  go_simp
  generalize E.setCell ⟨gp,n * 12+9,n_⟩ (t_ t0)=G at *;clear m2 x4 x5 c f u k0 k1 il il3 il4;obtain ⟨q1,hq1,hq⟩:=kg HR.I.1 HR.I.2.1 jA.I.2.1;have HB:Hid (q1.ai=q.ai/\q1.aK=q.aK/\q1.pure.ai=q.pure.ai):=by rw [hq1]; exact ⟨rfl,rfl,rfl⟩
  rw [<- hq1] at S;have HQ:=aA hq;clear hq1 hq;have x2:G.cell? ⟨X,2,n_⟩=o_ (b_ y.Mf):=by simp [World.cell?,afa.I.1]
  cases nu:y.Mf
  .rw [nu] at x2
   have HE:Hid (gC (14,N,M,s) x.id q.pure=bu 0 x.id (ez t0 x.id q.pure)):=by show gC (14,N,M,s) x.id q.pure=_; rw [HU.I,nu]; rfl
   clear nu afa HU;have Mb:=bB (n:=n) 0 S.I.fr.own S.I.low HQ.I.2.2.1 HQ.I.2.2.2 Zc6;rw [HQ.I.1,HQ.I.2.1] at Mb;exact Zcv
  rw [nu] at x2;have HE:Hid (gC (14,N,M,s) x.id q.pure=bu 0 x.id (gU N r (ez t0 x.id q.pure))):=by show gC (14,N,M,s) x.id q.pure=_; rw [HU.I,nu]; rfl
  clear nu HU;go_upto_region 18 with fail;clear x2;replace S:=aA (S.I.reads (Kp _ _).drew);replace afa:Hid (G.drew.heap[X]? =o_ (c_ #[i_ j_ y.id,b_ false,b_ y.Mf,i_ j_ y.max,s_ y.ak y.Ma.length y.aq] 115)/\w.heap.size+3<=X):=afa.I;refine Kr (S:=fun w'=>av w' w.heap.size q/\w'.heap[X]? =o_ (c_ #[i_ j_ y.id,b_ false,b_ y.Mf,i_ j_ y.max,s_ y.ak y.Ma.length y.aq] 115)) ZcS ⟨S.I.fr.box,afa.I.1⟩ (fun hHeld=> ?_);generalize G.drew=V2 at *;have GO:Hid (q1.ai[m]? =o_ y):=by rw [HB.I.1]; exact HM.I.1
  have il:(1:Int)<=(y.Ma.length:Int):=by rw [jA.I.1]; simp; omega
  have af5:(y.Ma.length:Int)<=(y.aq:Int):=by have h5:y.Ma.length<=y.aq:=nV (S.I.fr.own.eR y (KA GO.I)); omega
  have ic2:(1:Int)<=(y.aq:Int):=zo
  obtain ⟨afs,hTA⟩: ∃ afs:Option d_,(if y.aq=1 then y.ak else Option.map (fun x:d_=>(⟨x.block,x.off+1,n_⟩:d_)) y.ak)=afs:=⟨_,rfl⟩
  refine agi 0 hHeld ?_;refine agi 1 hHeld ?_;refine agi 2 hHeld ?_;refine agi 4 hHeld ?_;refine agi 5 hHeld ?_;refine agi 6 hHeld ?_;clear hHeld il af5 ic2;have lW:=(J2.1 afa.I.1).1;have hS: ∀ W,B_ V2.heap.size V2 W->av W w.heap.size q/\W.heap[X]? =o_ (c_ #[i_ j_ y.id,b_ false,b_ y.Mf,i_ j_ y.max,s_ y.ak y.Ma.length y.aq] 115):=fun W hb=>⟨S.I.fr.box.below hb,(hb.block _ lW).trans afa.I.1⟩
  have b1:B_ V2.heap.size V2 (V2.alloc (c_ #[] 9)):=(Kp _ _).alloc (Ki _) _;refine L7 3 (fun K hK=> ?_);go_wp2_with fail;refine hK.out _ _ (hS _ b1) (fun hHeld=> ?_);clear hK K hHeld
  try simp only [pt,sb,s0,s1]
  have hlr:y.Ma.length - 1=r.length:=by rw [jA.I.1]; rfl
  have pI:y.Ma.drop 1=r:=by rw [jA.I.1]; rfl
  have hsrc:=vg (c:=y.aq) (nV (S.I.fr.own.eR y (KA GO.I))) (nJ (S.I.fr.own.below b1).at.2.2.2.2.2 GO.I);rw [hTA] at hsrc;obtain ⟨a7,c7,w7,hap,mP,xI,-⟩:=ou (V2.alloc (c_ #[] 9)) V2.heap.size (o_ ⟨V2.heap.size,0,n_⟩) 0 [] (i6 (Kj _ _) (Ki _)) afs (y.Ma.drop 1) (y.aq - 1) hsrc (by rw [Ql]; have:=tI.I.2.1; show 0+_<=_; omega) b1.size;clear hsrc hTA;have gh:B_ V2.heap.size V2 w7:=b1.grown xI b1.size fun c e=>by cases e; exact Ki _
  rw [Ql,hlr] at hap mP;simp only [K4,Li,Ll,pI] at hap mP;rw [<- hlr] at hap;obtain ⟨s1,⟨u,c⟩,f⟩:=pg (n:=m) S.I.fr.own (aI.dI gh) GO.I (HB.I.2.1.trans HG.I) (cq mP S.I.low) (fun g hg=> .inr (cf mP hg).1);rw [<- hlr] at s1;have HLR:Hid (y.Ma.length - 1=r.length):=hlr;clear hlr;refine L7 7 (fun K hK=> ?_);refine cM _ _ _ rfl _ _ _ w7 rfl rfl hap ?_;refine hK.out _ _ ⟨S.I.fr.box.below gh,(gh.block _ lW).trans afa.I.1⟩ (fun hHeld=> ?_);clear hK K hHeld
  try simp only [pt,sb]
  have wj:av w7 w.heap.size q/\w7.heap[X]? =o_ (c_ #[i_ j_ y.id,b_ false,b_ y.Mf,i_ j_ y.max,s_ y.ak y.Ma.length y.aq] 115):=⟨S.I.fr.box.below gh,(gh.block _ lW).trans afa.I.1⟩
  replace S:=aA (S.I.call s1);clear hap mP xI gh s1 b1 hS;refine agi 8 wj ?_;refine agi 9 wj ?_;have uQ:(w7.setCell ⟨Y5,m * 5+4,n_⟩ (s_ a7 (y.Ma.length - 1) c7)).heap[X]? =o_ (c_ #[i_ j_ y.id,b_ false,b_ y.Mf,i_ j_ y.max,s_ y.ak y.Ma.length y.aq] 115):=(aH (fun e=>by have h5:=(S.I.fr.lo Y5 (gD (.inr <| .inr <| .inr <| .inr <| .inr <| by rw [HG.I]; simp [blk]))).2; have:=afa.I.2; omega)).trans wj.2;refine L7 10 (fun K hK=> ?_);go_wp2_with fail;refine hK.out _ _ ⟨S.I.fr.box,uQ⟩ (fun hHeld=> ?_);clear hK K hHeld;refine K3 ZcS ?_ _;clear c f u wj lW uQ;go_upto_region 19 with fail;generalize w7.setCell ⟨Y5,m * 5+4,n_⟩ (s_ a7 (y.Ma.length - 1) c7)=J at *;obtain ⟨q2,pv⟩: ∃ q2:af,q2= { q1 with ai:=q1.ai.set m { y with Ma:=r,ak:=a7,aq:=c7 } } :=⟨_,rfl⟩
  have ky:Hid (q2.pure=gU N r (ez t0 x.id q.pure)/\q2.cells=q.cells/\aQ q2.pure/\q2.L8[n]? =o_ { x with got:=t0 }):=by
   have h5:q2.pure=gU N r q1.pure:=by rw [pv]; exact sq HQ.I.2.2.1.ai GO.I HM.I.2.1
   have h6:aQ (gU N r q1.pure):=jj HQ.I.2.2.1 (fun z hz hk=>by rw [HB.I.2.2] at hz; rw [only HR.I.1.ai HM.I.2.2 hz hk]; have h7:=tI.I.2.2.1; rw [jA.I.1] at h7; have h8:y.todS.max=y.max:=rfl; simp only [Lg] at h7; omega) jA.I.2.2;exact ⟨by rw [h5,HQ.I.1],by rw [pv]; exact Eq.trans (by unfold af.cells; simp) HQ.I.2.1,by rw [h5]; exact h6,by rw [pv]; exact HQ.I.2.2.2⟩
  rw [<- pv] at S;clear pv HLR pI afa;have Mb:=bB (n:=n) 0 S.I.fr.own S.I.low ky.I.2.2.1 ky.I.2.2.2 Zc6;rw [ky.I.1,ky.I.2.1] at Mb;exact Zcv
end
section
open Go.RowKit Go.Maps
structure o4 (o base:Nat) (S:aZ) (w:w_) (S':aZ) (w':w_):Prop where
 at':cJ w' base o S'
 kept:aI w w' (S.al o)
 new: ∀ b∈S'.al o,b < w.heap.size->b∈S.al o
def afU (g:Nat) (S S':aZ):Prop:= ∀ x,(x,g)∈S.lp-> ∃ x',(x',g)∈S'.lp/\x'.id=x.id/\x'.pc=x.pc/\x'.prog=x.prog/\x'.Md=x.Md
section
variable {o base g d:Nat} {S S1 S2:aZ} {w w1 w2:w_}
def afU.refl:afU g S S:=fun x hx=>⟨x,hx,rfl,rfl,rfl,rfl⟩
def afU.of (h:S1.lp=S.lp):afU g S S1:=fun x hx=>⟨x,by rw [h]; exact hx,rfl,rfl,rfl,rfl⟩
def afU.trans (h:afU g S S1) (h2:afU g S1 S2):afU g S S2:=fun x hx=>by
 obtain ⟨y,hy,a1,a2,a3,a4⟩:=h x hx;obtain ⟨z,hz,b1,b2,b3,b4⟩:=h2 y hy;exact ⟨z,hz,b1.trans a1,b2.trans a2,b3.trans a3,b4.trans a4⟩
def o4.refl (h:cJ w base o S):o4 o base S w S w:=⟨h,aI.refl _ _,fun _ hb _=>hb⟩
def o4.below (h:cJ w base o S) (hb:B_ w.heap.size w w1):o4 o base S w S w1:=⟨h.below hb,aI.dI hb,fun _ hb _=>hb⟩
def o4.trans (h:o4 o base S w S1 w1) (h2:o4 o base S1 w1 S2 w2):o4 o base S w S2 w2:=
 ⟨h2.at',⟨h2.kept.os.trans h.kept.os,h2.kept.tape.trans h.kept.tape,h2.kept.output.trans h.kept.output,LG h.kept.size h2.kept.size,fun b hb hn=>(h2.kept.same b (Kn hb h.kept.size) fun hm=>hn (h.new b hm hb)).trans (h.kept.same b hb hn)⟩,fun b hb hl=>h.new b (h2.new b hb (Kn hl h.kept.size)) hl⟩
def cJ.lows (h:cJ w base o S): ∀ c∈S.al o,base<=c:=fun c hc=>by
 simp only [aZ.al,aZ.boxes,aZ.kids,Kt,Kg] at hc;rcases hc with rfl | ((hc | hc | hc | hc | hc | hc) | hc | hc | hc)
 .exact h.low
 .exact h.L8.low c (Kt.2 hc)
 .exact h.aj.low c (Kt.2 hc)
 .exact h.L9.low c (Kt.2 hc)
 .exact h.ag.low c (Kt.2 hc)
 .exact h.ae.low c (Kt.2 hc)
 .exact h.ai.low c (Kt.2 hc)
 .obtain ⟨r,hr,hk⟩:=Lq.1 hc
  exact ((h.eI r hr).lt hk).1
 .obtain ⟨r,hr,hk⟩:=Lq.1 hc
  exact ((h.eE r hr).lt hk).1
 .obtain ⟨r,hr,hk⟩:=Lq.1 hc
  exact ((h.eR r hr).lt hk).1
def o4.cd (h:o4 o base S w S1 w1) (h0:cJ w base o S) (hb:base<=w.heap.size):B_ base w w1:=h.kept.below hb h0.lows
def dgV (o g:Nat) (op:dN) (now:Int):Array v_:= #[dt o,dt g,i_ j_ op.1,i_ j_ op.2.1,i_ j_ op.2.2.1,t_ op.2.2.2,i_ j_ now]
structure afb (w:w_) (base o d g:Nat) (S:aZ) (op:dN) (now:Int):Prop where
 at':cJ w base o S
 box:w.heap[d]? =o_ (c_ (dgV o g op now) 142)
 I:d∉S.al o
 low:base<=w.heap.size
def afb.move {op:dN} {now:Int} (h:afb w base o d g S op now) (hm:o4 o base S w S1 w1):afb w1 base o d g S1 op now:=by
 have hl:=(J2.1 h.box).1;exact ⟨hm.at',(hm.kept.same d hl h.I).trans h.box,fun hd=>h.I (hm.new d hd hl),LG h.low hm.kept.size⟩
def agb {op:dN} {now:Int} (h:w.heap[d]? =o_ (c_ (dgV o g op now) 142)):w.cell? ⟨d,0,n_⟩=o_ (p_ (o_ ⟨o,0,n_⟩))/\w.cell? ⟨d,1,n_⟩=o_ (p_ (o_ ⟨g,0,n_⟩))/\w.cell? ⟨d,2,n_⟩=o_ (i_ j_ op.1)/\w.cell? ⟨d,3,n_⟩=o_ (i_ j_ op.2.1)/\w.cell? ⟨d,4,n_⟩=o_ (i_ j_ op.2.2.1)/\w.cell? ⟨d,5,n_⟩=o_ (t_ op.2.2.2)/\w.cell? ⟨d,6,n_⟩=o_ (i_ j_ now):=by
 simp [World.cell?,h,dgV,dt]
def ahk {f:ao->ao} {nx:Int} (hf: ∀ x,(f x).aY=x.aY):(S.ju g f nx).al o=S.al o:=by
 have e1:(S.ju g f nx).boxes=S.boxes:=by simp only [aZ.boxes,aZ.ju,qb]
 have e2:(S.ju g f nx).kids=S.kids:=by simp only [aZ.kids,aZ.ju,GW (f:=f) fun x=>(by show (f x).aY.map (·.block)=x.aY.map (·.block); rw [hf x])]
 unfold aZ.al;rw [e1,e2]
def o4.ju {f:ao->ao} {nx:Int} {x:ao} (h:cJ w base o S) (hf: ∀ x,(f x).id=x.id/\(f x).prog=x.prog/\(f x).aY=x.aY/\(f x).bH=x.bH) (hx:(x,g)∈S.lp) (hc:w1.heap[g]? =o_ (c_ (aX (f x)) 41)) (ho:fa w1 o { S.q with next:=nx }) (hk:aI w w1 [g,o]):o4 o base S w (S.ju g f nx) w1:=by
 have bR:g∈S.lp.map (·.2):=Lr.2 ⟨_,hx,rfl⟩;refine ⟨h.SA hf (fun p hp e=> ?_) bR ho fun b hb h5 h6=>hk.same b (h.lt b (LB _ hb)) (by simp [h5,h6]),hk.mono fun b hb=> ?_,fun b hb _=> ?_⟩
 .have e5:=h.L8.one hp hx e
  subst e5;exact hc
 .simp only [Kt,Ku,or_false] at hb
  rcases hb with rfl | rfl
  .exact aZ.agr (aZ.ago (LB _ bR))
  .simp [aZ.al]
 .rw [ahk fun x=>(hf x).2.2.1] at hb
  exact hb
def afU.ju {f:ao->ao} {nx:Int} {g2:Nat} (hf:g2=g-> ∀ x,(f x).id=x.id/\(f x).pc=x.pc/\(f x).prog=x.prog/\(f x).Md=x.Md):afU g S (S.ju g2 f nx):=fun x hx=>by
 by_cases e:g2=g
 .subst e
  exact ⟨f x,yy.2 ⟨(x,g2),hx,by simp⟩,hf rfl x⟩
 .exact ⟨x,yy.2 ⟨(x,g),hx,by rw [if_neg fun e2:g=g2=>e e2.symm]⟩,rfl,rfl,rfl,rfl⟩
end
end
section
open Go.RowKit Go.Maps
attribute [local go_sem ↓] Kc Kd
def opP_1 {now:Int} {x:aD} {o:dN} {p:aE} (h:o.1=1):lX now x o p=GY x o p:=by unfold lX; simp [h]
def opP_2 {now:Int} {x:aD} {o:dN} {p:aE} (h:o.1=2):lX now x o p=kC 2 0 rM (now+o.2.1) x.id p:=by unfold lX; simp [h]
def opP_3 {now:Int} {x:aD} {o:dN} {p:aE} (h:o.1=3):lX now x o p=mh o now x.id p:=by unfold lX; simp [h]
def opP_4 {now:Int} {x:aD} {o:dN} {p:aE} (h:o.1=4):lX now x o p=gJ o x.id p:=by unfold lX; simp [h]
def opP_5 {now:Int} {x:aD} {o:dN} {p:aE} (h:o.1=5):lX now x o p=dE o now x.id p:=by unfold lX; simp [h]
def opP_6 {now:Int} {x:aD} {o:dN} {p:aE} (h:o.1=6):lX now x o p=dE o now x.id p:=by unfold lX; simp [h]
def opP_7 {now:Int} {x:aD} {o:dN} {p:aE} (h:o.1=7):lX now x o p=dE o now x.id p:=by unfold lX; simp [h]
def opP_8 {now:Int} {x:aD} {o:dN} {p:aE} (h:o.1=8):lX now x o p=lc o now x.id p:=by unfold lX; simp [h]
def opP_9 {now:Int} {x:aD} {o:dN} {p:aE} (h:o.1=9):lX now x o p=ka o now x.id p:=by unfold lX; simp [h]
def opP_10 {now:Int} {x:aD} {o:dN} {p:aE} (h:o.1=10):lX now x o p=dC o now x.id p:=by unfold lX; simp [h]
def opP_11 {now:Int} {x:aD} {o:dN} {p:aE} (h:o.1=11):lX now x o p=dC o now x.id p:=by unfold lX; simp [h]
def opP_12 {now:Int} {x:aD} {o:dN} {p:aE} (h:o.1=12):lX now x o p=dC o now x.id p:=by unfold lX; simp [h]
def opP_13 {now:Int} {x:aD} {o:dN} {p:aE} (h:o.1=13):lX now x o p=ig o x.id p:=by unfold lX; simp [h]
def opP_14 {now:Int} {x:aD} {o:dN} {p:aE} (h:o.1=14):lX now x o p=gC o x.id p:=by unfold lX; simp [h]
def opP_15 {now:Int} {x:aD} {o:dN} {p:aE} (h:o.1=15):lX now x o p=jU o x.id p:=by unfold lX; simp [h]
def opP_16 {now:Int} {x:aD} {o:dN} {p:aE} (h:o.1=16):lX now x o p=lg o x.id p:=by unfold lX; simp [h]
def opP_17 {now:Int} {x:aD} {o:dN} {p:aE} (h:o.1=17):lX now x o p= { p with L8:=ce x.id (fun y=> { y with pc:=0 }) p.L8 } :=by unfold lX; simp [h]
def nR (w:w_) (o:Obj):(w.alloc o).heap.size=w.heap.size+1:=by simp
def Fr.more {w W:w_} {M M2 base:Nat} {q0 z q:af} (h:Fr w M base q0 z q W) (hq: ∀ g∈q.Mc,g∈q0.Mc) (hM:M<=M2/\M2<=W.heap.size):Fr w M2 base q0 z q W:=⟨h.box,h.own,h.kept,fun g hg=> .inl (hq g hg),h.lo,by have:=h.sz; omega,hM.2,h.sz.2.2⟩
def G6 (q:af) (n base:Nat) (x:ao) (now:Int) (w:w_) (h:ap w base q) (hb:base<=w.heap.size) (hr:aQ q.pure) (hx:q.L8[n]? =o_ x) (hs:x.Md=1) (hn:q.next<=999999990) (eu:0<=now/\now<=1000000000):
  k_ J3 45 #[a_ q.cells,i_ j_ n,i_ j_ now] w (jH w base q (lX now x.toaD (opAt x.toaD) q.pure)):=by
 have ho:=(AW (now:=now) hr (iu hx) hs hn eu).1;have k1:=(hr.proc (iu hx)).2.1;have hop:=iT k1 (by rw [show x.toaD.Md=1 from hs]; decide);have hlen:x.prog.length<=20:=by have h5:=iF k1; unfold jY at h5; simp only [J7] at h5; exact (lK h5.1.1.1.2).2
 obtain ⟨k,hk⟩: ∃ k:Nat,x.pc=(k:Int):=⟨x.pc.toNat,by have:=hop.1; omega⟩
 have hkl:k < x.prog.length:=by have:=hop.2; have e:x.toaD.pc=x.pc:=rfl; omega
 have hoa:x.prog[k]? =o_ (opAt x.toaD):=by unfold opAt; rw [show x.toaD.pc.toNat=k by rw [show x.toaD.pc=(k:Int) from hk]; rfl,Kz hkl]; rfl
 have hl:x.left=x.toaD.left:=rfl;have hlb:(opAt x.toaD).1=1->0<=x.left/\x.left < (opAt x.toaD).2.1:=fun e=>by
  rw [fG,J7] at k1;have h3:=k1.2;unfold bO at h3;rw [if_neg (by rw [show x.toaD.Md=1 from hs]; decide),if_pos hs] at h3;simp only [J7] at h3;have h4:=h3.1.1.1.2;unfold jJ at h4;rw [if_pos e] at h4;simp only [J7,decide_eq_true_eq] at h4;exact h4
 generalize opAt x.toaD=o at *;have HR:Hid (aQ q.pure/\q.L8[n]? =o_ x/\x.Md=1/\q.next<=999999990/\(0<=now/\now<=1000000000)/\kc o=true/\x.prog[k]? =o_ o/\(o.1=1->0<=x.left/\x.left < o.2.1)):=⟨hr,hx,hs,hn,eu,ho,hoa,hlb⟩
 have b1:=dT w (c_ q.cells 31) (c_ ar 31);have h2:=cZ w (c_ q.cells 31) (c_ ar 31);have S:Hid (Fr w (w.heap.size+2) base q q q ((w.alloc (c_ q.cells 31)).alloc (c_ ar 31))/\((w.alloc (c_ q.cells 31)).alloc (c_ ar 31)).heap[w.heap.size+1]? =o_ (c_ ar 31)/\((w.alloc (c_ q.cells 31)).alloc (c_ ar 31)).heap.size=w.heap.size+2):=⟨Fr.start h hb h2.1 b1 ⟨zo,by have:=(J2.1 h2.2).1; omega⟩,h2.2,by rw [nR,nR]⟩
 have j0:(0:Int)<=(n:Int):=zo
 have j1:(n:Int) < (q.L8.length:Int):=by have:=(Lj.1 hx).1; omega
 have j2:(0:Int)<=(k:Int):=zo
 have Xg:(k:Int) < (x.prog.length:Int):=zo
 obtain ⟨n0,n1⟩:=eu;have HK:Hid (x.pc=(k:Int)):=hk;clear h hb hr hx hs hn b1 h2 ho hop hlen hkl hoa hlb hl hk k1
 go_enter func45,ntmps45
 go_upto_region 1 with fail;generalize (w.alloc (c_ q.cells 31)).alloc (c_ ar 31)=A at *;obtain ⟨gs,ha,hat⟩:=cn S.I.1.own.at.1 HR.I.2.1;have m2:=S.I.1.box.cells.2.2.1;rw [ha] at m2;obtain ⟨d0,d1,d2,d3,d4,d5,d6,d7,d8,d9,tH,tS⟩:=hat;have HA:Hid (q.aN=o_ ⟨gs,0,n_⟩):=ha;clear ha;have h5:=(Kp A.heap.size A).alloc (Ki _) (c_ x.row 41);have hxb:=Kj A (c_ x.row 41);have hsz:=S.I.2.2;rw [hsz] at hxb;have h6:=S.I.1.reads h5;have S2:=aA (And.intro h6.1 (And.intro ((h6.2 (w.heap.size+1) zo).trans S.I.2.1) (And.intro hxb (show (A.alloc (c_ x.row 41)).heap.size=w.heap.size+3 by rw [nR,hsz]))));have HSZ:Hid (A.heap.size=w.heap.size+2):=hsz;clear h5 h6 hxb hsz S;go_upto_region 2 with fail;rw [HSZ.I];generalize A.alloc (c_ x.row 41)=B at *;clear m2 d0 d1 d2 d3 d4 d5 d6 d7 d8 d9 tH tS HSZ;obtain ⟨-,-,x2,-,x4,x5,-⟩:=bo (x:=x) S2.I.2.2.1;rw [HK.I] at x4;obtain ⟨afz,hgq,hoc⟩:=Kind.bU.at (K:=fk) ⟨lA S2.I.1.own.at.1 HR.I.2.1,by simp [fk]⟩ HR.I.2.2.2.2.2.2.1;rw [hgq] at x2;have o0:=hoc 0 _ rfl;have o1:=hoc 1 _ rfl;have o2:=hoc 2 _ rfl;have o3:=hoc 3 _ rfl;rw [show fk.n=4 from rfl] at o0 o1 o2 o3;simp only [Nat.add_zero] at o0;have h5:=(Kp B.heap.size B).alloc (Ki _) (c_ (j9 o) 45);have hob:=Kj B (c_ (j9 o) 45);have hsz:=S2.I.2.2.2;rw [hsz] at hob;have h6:=S2.I.1.reads h5;have S:=aA (And.intro (h6.1.more (M2:=w.heap.size+4) (fun g hg=>hg) ⟨zo,by rw [nR,hsz]; omega⟩) (And.intro ((h6.2 (w.heap.size+1) zo).trans S2.I.2.1) (And.intro ((h5.block (w.heap.size+2) zo).trans S2.I.2.2.1) hob)));have HSZ:Hid (B.heap.size=w.heap.size+3):=hsz;clear h5 h6 hob hsz S2 hgq hoc;unfold j9 at S;go_upto_region 3 with fail;rw [HSZ.I];generalize B.alloc (c_ #[i_ j_ o.1,i_ j_ o.2.1,i_ j_ o.2.2.1,t_ o.2.2.2] 45)=C at *;clear o0 o1 o2 o3 x2 x4 x5 j2 Xg HSZ;have HO:Hid (oo C (w.heap.size+3) o):=S.I.2.2.2;obtain ⟨-,-,-,-,-,x5,-⟩:=bo (x:=x) S.I.2.2.1;obtain ⟨f0,f1,f2,f3,f4⟩:=dv HR.I.2.2.2.2.2.1;have hM:=bz.1 f2;obtain ⟨kd,N,M,s⟩:=o;simp only at f0 f1 hM;obtain ⟨o0,o1,o2,o3⟩:=HO.I.cells;simp only at o0 o1 o2 o3;clear f2 f3 f4;have zN:Hid (kd=1\/kd=2\/kd=3\/kd=4\/kd=5\/kd=6\/kd=7\/kd=8\/kd=9\/kd=10\/kd=11\/kd=12\/kd=13\/kd=14\/kd=15\/kd=16\/kd=17):=by show _\/_; omega
 clear f0;rcases zN.I with rfl | rfl | rfl | rfl | rfl | rfl | rfl | rfl | rfl | rfl | rfl | rfl | rfl | rfl | rfl | rfl | rfl
 focus
  have hlb:=HR.I.2.2.2.2.2.2.2 rfl;simp only at hlb;have hN:=f1 (by decide);clear f1 zN;have HE:=aA (opP_1 (now:=now) (x:=x.toaD) (o:=(1,N,M,s)) (p:=q.pure) rfl);have IC:Hid (lX now x.toaD (1,N,M,s) q.pure=if (if x.left=0 then N else x.left)=1 then bu 0 x.id q.pure else { q.pure with L8:=ce x.id (fun y=> { y with left:=(if x.left=0 then N else x.left) - 1 }) q.pure.L8 }):=HE.I;clear HE;obtain ⟨lf,hlf⟩: ∃ lf:Int,lf=if x.left=0 then N else x.left:=⟨_,rfl⟩
  rw [<- hlf] at IC;have hlb2:1<=lf/\lf<=1000:=by rw [hlf]; split <;> omega
  have HL:Hid (1<=lf/\lf<=1000):=hlb2;go_upto_region 5 with fail;clear o0;have hgo: ∀ e0:Bool,(x.left == 0)=e0->lf=if e0 then N else x.left:=fun e0 he=>by rw [hlf]; subst he; by_cases h7:x.left=0 <;> simp [h7]
  cases e0:(x.left == 0)
  .have hv:=hgo _ e0
   simp only [Bool.false_eq_true,if_false] at hv;clear hgo hlf hlb hlb2 hN;by_cases h1:lf=1
   .have e1:(x.left == 1)=true:=by rw [<- hv]; simp [h1]
    exact Zci
   have e1:(x.left == 1)=false:=by rw [<- hv]; simp [h1]
   have HE:Hid (lX now x.toaD (1,N,M,s) q.pure= { q.pure with L8:=ce x.id (fun y=> { y with left:=lf - 1 }) q.pure.L8 }):=IC.I.trans (if_neg h1);have hw:IntKind.wrap j_ (x.left - 1)=x.left - 1:=by rw [K8]; have:=HL.I; omega
   have HV:Hid (lf=x.left):=hv;obtain ⟨s1,⟨u,c⟩,f⟩:=eY (n:=n) (j:=5) (v:=i_ j_ (x.left - 1)) (y:= { x with left:=x.left - 1 }) S.I.1.own HR.I.2.1 HA.I ⟨rfl,rfl,rfl⟩ (by decide) rfl;have m2:=S.I.1.box.cells.2.2.1;rw [HA.I] at m2;have h5:=S.I.1.call s1;have H5:=aA (And.intro h5.1 ((h5.2 (w.heap.size+1) zo zo).trans S.I.2.1));clear h1 hv IC s1 h5;go_upto_region 11 with fail;generalize C.setCell ⟨gs,n * 12+5,n_⟩ (i_ j_ (x.left - 1))=D at *;clear m2 c f u hw;have HP:Hid (({ q with L8:=q.L8.set n { x with left:=x.left - 1 } } :af).pure= { q.pure with L8:=ce x.id (fun y=> { y with left:=lf - 1 }) q.pure.L8 }):=by rw [HV.I]; exact g7 (nx:=q.next) HR.I.1.kW HR.I.2.1 rfl
   exact ZcI
  .have hv:=hgo _ e0
   simp only [if_true] at hv;clear hgo hlf hlb hlb2 hN;by_cases h1:lf=1
   .have e1:(N == 1)=true:=by rw [<- hv]; simp [h1]
    exact Zci
   have e1:(N == 1)=false:=by rw [<- hv]; simp [h1]
   have HE:Hid (lX now x.toaD (1,N,M,s) q.pure= { q.pure with L8:=ce x.id (fun y=> { y with left:=lf - 1 }) q.pure.L8 }):=IC.I.trans (if_neg h1);have hw:IntKind.wrap j_ (N - 1)=N - 1:=by rw [K8]; have:=HL.I; omega
   have HV:Hid (lf=N):=hv;obtain ⟨s1,⟨u,c⟩,f⟩:=eY (n:=n) (j:=5) (v:=i_ j_ (N - 1)) (y:= { x with left:=N - 1 }) S.I.1.own HR.I.2.1 HA.I ⟨rfl,rfl,rfl⟩ (by decide) rfl;have m2:=S.I.1.box.cells.2.2.1;rw [HA.I] at m2;have h5:=S.I.1.call s1;have H5:=aA (And.intro h5.1 ((h5.2 (w.heap.size+1) zo zo).trans S.I.2.1));clear h1 hv IC s1 h5;go_upto_region 11 with fail;generalize C.setCell ⟨gs,n * 12+5,n_⟩ (i_ j_ (N - 1))=D at *;clear m2 c f u hw;have HP:Hid (({ q with L8:=q.L8.set n { x with left:=N - 1 } } :af).pure= { q.pure with L8:=ce x.id (fun y=> { y with left:=lf - 1 }) q.pure.L8 }):=by rw [HV.I]; exact g7 (nx:=q.next) HR.I.1.kW HR.I.2.1 rfl
   exact ZcI
 focus
  have hN:=f1 (by decide);have HE:=aA (opP_2 (now:=now) (x:=x.toaD) (o:=(2,N,M,s)) (p:=q.pure) rfl);have Mb:=sT q n base x 2 0 N now ⟨#[]⟩ C S.I.1.own ZcY HR.I.1 HR.I.2.1 Zdl HR.I.2.2.2.2.1 ⟨zo,hN.2⟩;rw [show kZ now N=now+N by unfold kZ; rw [if_pos zo]] at Mb;clear f1 zN hN hM;go_wp2_with (refine eT 3 S.I.1.box ?_);refine Mb.mono ?_;clear Mb;rintro e D ⟨q2,rfl,hp2,ht⟩;have h5:=S.I.1.call ht;have H5:=aA (And.intro h5.1 ((h5.2 (w.heap.size+1) zo zo).trans S.I.2.1));have HP:Hid (q2.pure=_):=hp2;clear hp2 ht h5;go_wp2_with (refine ec 6 51 q2.cells H5.I.2 ?_);exact gz
 focus
  have HE:=aA (opP_3 (now:=now) (x:=x.toaD) (o:=(3,N,M,s)) (p:=q.pure) rfl);have Mb:=CR q n base x now (3,N,M,s) C S.I.1.own ZcY HR.I.1 HR.I.2.1 HR.I.2.2.1 HR.I.2.2.2.1 HR.I.2.2.2.2.1 HR.I.2.2.2.2.2.1 rfl;clear f1 zN hM;go_wp2_with (first | (refine eT 3 S.I.1.box ?_) | (refine LS rfl 45 (.tmp 8) rfl (w.heap.size+3) (by rfl) 45 (j9 (3,N,M,s)) (0,0) _ S.I.2.2.2 underlying45 rfl ZcS ?_));exact Zcb
 focus
  have HE:=aA (opP_4 (now:=now) (x:=x.toaD) (o:=(4,N,M,s)) (p:=q.pure) rfl);have Mb:=zE q n base x now (4,N,M,s) C S.I.1.own ZcY HR.I.1 HR.I.2.1 HR.I.2.2.1 HR.I.2.2.2.1 HR.I.2.2.2.2.1 HR.I.2.2.2.2.2.1 rfl;clear f1 zN hM;go_wp2_with (first | (refine eT 3 S.I.1.box ?_) | (refine LS rfl 45 (.tmp 8) rfl (w.heap.size+3) (by rfl) 45 (j9 (4,N,M,s)) (0,0) _ S.I.2.2.2 underlying45 rfl ZcS ?_));exact Zcb
 focus
  have HE:=aA (opP_5 (now:=now) (x:=x.toaD) (o:=(5,N,M,s)) (p:=q.pure) rfl);have Mb:=Ey q n base x now (5,N,M,s) C S.I.1.own ZcY HR.I.1 HR.I.2.1 HR.I.2.2.1 HR.I.2.2.2.1 HR.I.2.2.2.2.1 HR.I.2.2.2.2.2.1 rfl;clear f1 zN hM;go_wp2_with (first | (refine eT 3 S.I.1.box ?_) | (refine LS rfl 45 (.tmp 8) rfl (w.heap.size+3) (by rfl) 45 (j9 (5,N,M,s)) (0,0) _ S.I.2.2.2 underlying45 rfl ZcS ?_));exact Zcb
 focus
  have HE:=aA (opP_6 (now:=now) (x:=x.toaD) (o:=(6,N,M,s)) (p:=q.pure) rfl);have Mb:=Ab q n base x now (6,N,M,s) C S.I.1.own ZcY HR.I.1 HR.I.2.1 HR.I.2.2.1 HR.I.2.2.2.1 HR.I.2.2.2.2.1 HR.I.2.2.2.2.2.1 rfl;clear f1 zN hM;go_wp2_with (first | (refine eT 3 S.I.1.box ?_) | (refine LS rfl 45 (.tmp 8) rfl (w.heap.size+3) (by rfl) 45 (j9 (6,N,M,s)) (0,0) _ S.I.2.2.2 underlying45 rfl ZcS ?_));exact Zcb
 focus
  have HE:=aA (opP_7 (now:=now) (x:=x.toaD) (o:=(7,N,M,s)) (p:=q.pure) rfl);have Mb:=BE q n base x now (7,N,M,s) C S.I.1.own ZcY HR.I.1 HR.I.2.1 HR.I.2.2.1 HR.I.2.2.2.1 HR.I.2.2.2.2.1 HR.I.2.2.2.2.2.1 rfl;clear f1 zN hM;go_wp2_with (first | (refine eT 3 S.I.1.box ?_) | (refine LS rfl 45 (.tmp 8) rfl (w.heap.size+3) (by rfl) 45 (j9 (7,N,M,s)) (0,0) _ S.I.2.2.2 underlying45 rfl ZcS ?_));exact Zcb
 focus
  have HE:=aA (opP_8 (now:=now) (x:=x.toaD) (o:=(8,N,M,s)) (p:=q.pure) rfl);have Mb:=CD q n base x now (8,N,M,s) C S.I.1.own ZcY HR.I.1 HR.I.2.1 HR.I.2.2.1 HR.I.2.2.2.1 HR.I.2.2.2.2.1 HR.I.2.2.2.2.2.1 rfl;clear f1 zN hM;go_wp2_with (first | (refine eT 3 S.I.1.box ?_) | (refine LS rfl 45 (.tmp 8) rfl (w.heap.size+3) (by rfl) 45 (j9 (8,N,M,s)) (0,0) _ S.I.2.2.2 underlying45 rfl ZcS ?_));exact Zcs
 focus
  have HE:=aA (opP_9 (now:=now) (x:=x.toaD) (o:=(9,N,M,s)) (p:=q.pure) rfl);have Mb:=C0 q n base x now (9,N,M,s) C S.I.1.own ZcY HR.I.1 HR.I.2.1 HR.I.2.2.1 HR.I.2.2.2.1 HR.I.2.2.2.2.1 HR.I.2.2.2.2.2.1 rfl;clear f1 zN hM;go_wp2_with (first | (refine eT 3 S.I.1.box ?_) | (refine LS rfl 45 (.tmp 8) rfl (w.heap.size+3) (by rfl) 45 (j9 (9,N,M,s)) (0,0) _ S.I.2.2.2 underlying45 rfl ZcS ?_));exact Zcs
 focus
  have HE:=aA (opP_10 (now:=now) (x:=x.toaD) (o:=(10,N,M,s)) (p:=q.pure) rfl);have Mb:=CA q n base x now (10,N,M,s) C S.I.1.own ZcY HR.I.1 HR.I.2.1 HR.I.2.2.1 HR.I.2.2.2.1 HR.I.2.2.2.2.1 HR.I.2.2.2.2.2.1 rfl;clear f1 zN hM;go_wp2_with (first | (refine eT 3 S.I.1.box ?_) | (refine LS rfl 45 (.tmp 8) rfl (w.heap.size+3) (by rfl) 45 (j9 (10,N,M,s)) (0,0) _ S.I.2.2.2 underlying45 rfl ZcS ?_));exact Zch
 focus
  have HE:=aA (opP_11 (now:=now) (x:=x.toaD) (o:=(11,N,M,s)) (p:=q.pure) rfl);have Mb:=AS q n base x now (11,N,M,s) C S.I.1.own ZcY HR.I.1 HR.I.2.1 HR.I.2.2.1 HR.I.2.2.2.1 HR.I.2.2.2.2.1 HR.I.2.2.2.2.2.1 rfl;clear f1 zN hM;go_wp2_with (first | (refine eT 3 S.I.1.box ?_) | (refine LS rfl 45 (.tmp 8) rfl (w.heap.size+3) (by rfl) 45 (j9 (11,N,M,s)) (0,0) _ S.I.2.2.2 underlying45 rfl ZcS ?_));exact Zch
 focus
  have HE:=aA (opP_12 (now:=now) (x:=x.toaD) (o:=(12,N,M,s)) (p:=q.pure) rfl);have Mb:=Cl q n base x now (12,N,M,s) C S.I.1.own ZcY HR.I.1 HR.I.2.1 HR.I.2.2.1 HR.I.2.2.2.1 HR.I.2.2.2.2.1 HR.I.2.2.2.2.2.1 rfl;clear f1 zN hM;go_wp2_with (first | (refine eT 3 S.I.1.box ?_) | (refine LS rfl 45 (.tmp 8) rfl (w.heap.size+3) (by rfl) 45 (j9 (12,N,M,s)) (0,0) _ S.I.2.2.2 underlying45 rfl ZcS ?_));exact Zch
 focus
  have HE:=aA (opP_13 (now:=now) (x:=x.toaD) (o:=(13,N,M,s)) (p:=q.pure) rfl);have Mb:=Av q n base x (13,N,M,s) C S.I.1.own ZcY HR.I.1 HR.I.2.1 HR.I.2.2.1 HR.I.2.2.2.1 HR.I.2.2.2.2.2.1 rfl;clear f1 zN hM;go_wp2_with (first | (refine eT 3 S.I.1.box ?_) | (refine LS rfl 45 (.tmp 8) rfl (w.heap.size+3) (by rfl) 45 (j9 (13,N,M,s)) (0,0) _ S.I.2.2.2 underlying45 rfl ZcS ?_));exact Zct
 focus
  have HE:=aA (opP_14 (now:=now) (x:=x.toaD) (o:=(14,N,M,s)) (p:=q.pure) rfl);have Mb:=BS q n base x (14,N,M,s) C S.I.1.own ZcY HR.I.1 HR.I.2.1 HR.I.2.2.1 HR.I.2.2.2.1 HR.I.2.2.2.2.2.1 rfl;clear f1 zN hM;go_wp2_with (first | (refine eT 3 S.I.1.box ?_) | (refine LS rfl 45 (.tmp 8) rfl (w.heap.size+3) (by rfl) 45 (j9 (14,N,M,s)) (0,0) _ S.I.2.2.2 underlying45 rfl ZcS ?_));exact Zct
 focus
  have HE:=aA (opP_15 (now:=now) (x:=x.toaD) (o:=(15,N,M,s)) (p:=q.pure) rfl);have Mb:=BU q n base x (15,N,M,s) C S.I.1.own ZcY HR.I.1 HR.I.2.1 HR.I.2.2.1 HR.I.2.2.2.1 HR.I.2.2.2.2.2.1 rfl;clear f1 zN hM;go_wp2_with (first | (refine eT 3 S.I.1.box ?_) | (refine LS rfl 45 (.tmp 8) rfl (w.heap.size+3) (by rfl) 45 (j9 (15,N,M,s)) (0,0) _ S.I.2.2.2 underlying45 rfl ZcS ?_));exact Zcu
 focus
  have HE:=aA (opP_16 (now:=now) (x:=x.toaD) (o:=(16,N,M,s)) (p:=q.pure) rfl);have Mb:=C9 q n base x (16,N,M,s) C S.I.1.own ZcY HR.I.1 HR.I.2.1 HR.I.2.2.1 HR.I.2.2.2.1 HR.I.2.2.2.2.2.1 rfl;clear f1 zN hM;go_wp2_with (first | (refine eT 3 S.I.1.box ?_) | (refine LS rfl 45 (.tmp 8) rfl (w.heap.size+3) (by rfl) 45 (j9 (16,N,M,s)) (0,0) _ S.I.2.2.2 underlying45 rfl ZcS ?_));exact Zcu
 have HE:=aA (opP_17 (now:=now) (x:=x.toaD) (o:=(17,N,M,s)) (p:=q.pure) rfl);clear f1 zN hM;obtain ⟨s1,⟨u,c⟩,f⟩:=eY (n:=n) (j:=4) (v:=i_ j_ 0) (y:= { x with pc:=0 }) S.I.1.own HR.I.2.1 HA.I ⟨rfl,rfl,rfl⟩ (by decide) rfl;have m2:=S.I.1.box.cells.2.2.1;rw [HA.I] at m2;have h5:=S.I.1.call s1;have H5:=aA (And.intro h5.1 ((h5.2 (w.heap.size+1) zo zo).trans S.I.2.1));clear s1 h5;go_upto_region 34 with fail;generalize C.setCell ⟨gs,n * 12+4,n_⟩ (i_ j_ 0)=D at *;clear m2 c f u;have HP:Hid (({ q with L8:=q.L8.set n { x with pc:=0 } } :af).pure= { q.pure with L8:=ce x.id (fun y=> { y with pc:=0 }) q.pure.L8 }):=g7 (nx:=q.next) HR.I.1.kW HR.I.2.1 rfl;go_wp2_with (first | (refine eT 3 H5.I.1.box ?_) | (refine ec 6 99 q.cells H5.I.2 ?_));exact U_
def age (st on:Int) (l:List (ao × Nat)):List (ao × Nat):=l.filter fun p=>ie st on p.1.toaD
def agD {st on:Int} {x:aD} :ie st on x=true↔x.Md=st/\x.on=on:=by simp [ie]
def ahT (st on:Int) (l:List (ao × Nat)) (p:ao × Nat):age st on (l ++ [p])=age st on l ++ (if ie st on p.1.toaD=true then [p] else []):=by
 simp only [age,List.filter_append,List.filter_cons,List.filter_nil]
def ah9 {st on:Int} (l:List (ao × Nat)):(li (age st on l)).map (fun p=>p.1.toaD)=jl st on (l.map fun p=>p.1.toaD):=by
 rw [vj];unfold jl age;rw [List.filter_map];rfl
def agK (o d g base:Nat) (S:aZ) (op:dN) (now st:Int) (w:w_) (h:afb w base o d g S op now) (hf:S.Fits):
  k_ J3 190 #[p_ (o_ ⟨d,0,n_⟩),i_ j_ st] w fun e w'=>e=r_ (u_ #[qz ((li (age st op.2.1 S.lp)).map (·.2)),b_ (decide (0 < (age st op.2.1 S.lp).length))])/\B_ w.heap.size w w':=by
 obtain ⟨i0,hi,e0⟩:=Option.map_eq_some_iff.1 sQ;simp only [Prod.mk.injEq] at e0;have HI:Hid (Tryz.prog.info? 64=o_ i0/\i0.zero=o_ (p_ n_)/\i0.size=1/\i0.bytes=8):=⟨hi,e0⟩
 have hl:S.lp.length<=1048576:=hf.dl;have H:Hid (Shelf aX (fun x:ao=>x.id) 41 w base S.q.bp S.lp/\(∀ p∈RW (fun x:ao=>x.id) S.lp,(Lit.int j_ p.1).wf=true)/\w.heap[d]? =o_ (c_ (dgV o g op now) 142)):=⟨h.at'.L8,hf.Jl,h.box⟩
 have HLR:Hid ((age st op.2.1 S.lp).length<=1048576):=LG (Qq _ _) hl;have c0:=(agb h.box).1;have c2:w.cell? ⟨o,2,n_⟩=o_ (i_ j_ 6):=h.at'.opn.cell 2;have c3:w.cell? ⟨o,3,n_⟩=o_ (.map (o_ S.q.bp)):=h.at'.opn.cell 3;have HK:Hid ((RW (fun x:ao=>x.id) S.lp).length=S.lp.length):=bZ S.lp;obtain ⟨lp,hlp⟩: ∃ lp,lp=S.lp:=⟨_,rfl⟩
 obtain ⟨q,hq⟩: ∃ q,q=S.q:=⟨_,rfl⟩
 obtain ⟨on,hon⟩: ∃ on,on=op.2.1:=⟨_,rfl⟩
 have c3d:=fun (W:w_) (hb:W.heap[d]? =o_ (c_ (dgV o g op now) 142))=>(agb hb).2.2.2.1
 rw [<- hon] at c3d HLR ⊢;rw [<- hlp] at hl H HLR HK ⊢;rw [<- hq] at H c3;clear h hf hi e0 hlp hq hon
 go_enter func190,ntmps190
 go_wp2_with fail;refine (mq 6 q.bp (RW (fun x:ao=>x.id) lp) w H.I.1.map Zc8 H.I.2.1).mono ?_;rintro e w2 ⟨a,cap,rfl,hown,hb2⟩;obtain ⟨a',cap',hv,hrow⟩:=cr hown;cases hv;have HR:Hid (Row w2 a ((RW (fun x:ao=>x.id) lp).map fun p=>dt p.2)):=hrow;have HO:Hid (Shelf aX (fun x:ao=>x.id) 41 w2 base q.bp lp/\B_ w.heap.size w w2/\w2.heap[d]? =o_ (c_ (dgV o g op now) 142)):=⟨H.I.1.below hb2,hb2,(hb2.block _ (J2.1 H.I.2.2).1).trans H.I.2.2⟩
 rw [HK.I];clear hown hrow hb2 c2 c3 c0;go_wp2_with fail
 go_loopw [6,18] (fun l i wr=> ∃ (k n:Nat),k<=lp.length/\n<=k/\i=i_ j_ k/\ ∃ a' cap',l=s_ a' n cap'/\Hid (n=(age st on (lp.take k)).length/\wr.ownsRow w2.heap.size 64 1 (s_ a' n cap') n ((age st on (lp.take k)).map fun p=>dt p.2)/\B_ w2.heap.size w2 wr)) (fun _ i _=>lp.length - (intOf i).toNat)
 case atStart=>exact ⟨0,0,Nat.zero_le _,Ki _,rfl,n_,0,rfl,⟨rfl,World.ownsRow_nil _ _ _ _,Kp _ _⟩⟩
 case round=>
  obtain ⟨k,n,hk,hn,rfl,a',cap',rfl,HA⟩:=hrel;by_cases hlt:k < lp.length
  .have qE:(0:Int)<=(k:Int):=zo
   have i1:(k:Int) < (lp.length:Int):=zo
   obtain ⟨p,hp⟩: ∃ p,lp[k]? =o_ p:=⟨_,Kz hlt⟩
   obtain ⟨g',ha,hc⟩:=(HR.I.below HA.I.2.2) k (dt p.2) Zdc;subst ha;unfold dt at hc;have HP:Hid (lp[k]? =o_ p):=hp;have lW:wr.heap[p.2]? =o_ (c_ (aX p.1) 41):=(HO.I.1.below HA.I.2.2).box p (KA hp);obtain ⟨-,-,-,s3,-,-,-,s7,-⟩:=bo lW;have s9:=c3d wr ((HA.I.2.2.block _ (J2.1 HO.I.2.2).1).trans HO.I.2.2);have kT:=HA.I.2.2.size;have HA2:Hid (n=(age st on (lp.take k)).length/\wr.drew.ownsRow w2.heap.size 64 1 (s_ a' n cap') n ((age st on (lp.take k)).map fun p=>dt p.2)/\B_ w2.heap.size w2 wr.drew):=⟨HA.I.1,HA.I.2.1,HA.I.2.2.drew⟩
   clear hp lW;by_cases hs:ie st on p.1.toaD=true
   .have hs2:=agD.1 hs
    have e1:(p.1.Md == st)=true:=by simp [hs2.1]
    have e2:(p.1.on == on)=true:=by simp [hs2.2]
    have SC:Hid ((age st on (lp.take (k+1)))=(age st on (lp.take k)) ++ [p]):=by show _=_; rw [cj HP.I,ahT,if_pos hs]
    clear hs hs2;go_wp2_with fail;refine aT (fun w'=>w'=wr.drew) ZcS rfl ?_
    iterate 18 (refine agj ?_)
    refine bk ZcS ?_ _;intro w1 cm;subst cm
    revert HA2
    generalize wr.drew=W;intro HA2;have anE:=HA2.I.2.2.size;go_wp2_with (at_builtin; refine wpList_append_own_at _ rfl _ _ 130 rfl w2.heap.size 64 i0 (p_ n_) 1 8 underlying130 HI.I.1 HI.I.2.1 HI.I.2.2.1 HI.I.2.2.2 rfl (by decide) (s_ a' n cap') n ((age st on (lp.take k)).map fun p=>dt p.2) rfl (HA2.I.2.1.alloc _) ⟨W.heap.size,0,n_⟩ 1 1 [p_ (o_ ⟨p.2,0,n_⟩)] (by rfl) rfl (World.news_of_block (cs:= #[p_ (o_ ⟨p.2,0,n_⟩)]) (t:=64) (fr:=(0,0)) (Kj W _)) Zc3 ZcW zo ZcT ?_; intro v' w5 hown' hgrow hnil jV; obtain ⟨a5,im,rfl,-⟩:=cr hown'; have HN:Hid (n+1=(age st on (lp.take (k+1))).length/\w5.ownsRow w2.heap.size 64 1 (s_ a5 (n+1) im) (n+1) ((age st on (lp.take (k+1))).map fun p=>dt p.2)/\B_ w2.heap.size w2 w5):=⟨by rw [SC.I,Lf,<- HA2.I.1]; rfl,by rw [SC.I,Kl]; exact hown',(HA2.I.2.2.alloc anE _).grown hgrow ZcT (fun q hq=>(HA2.I.2.1.lt q hq).1)⟩; clear hown' hgrow hnil jV);exact Zar
   .have SC:Hid ((age st on (lp.take (k+1)))=(age st on (lp.take k))):=by show _=_; rw [cj HP.I,ahT,if_neg hs,List.append_nil]
    have hs2: ¬ (p.1.Md=st/\p.1.on=on):=fun e=>hs (agD.2 e)
    by_cases Ix:p.1.Md=st
    .have e1:(p.1.Md == st)=true:=by simp [Ix]
     have e2:(p.1.on == on)=false:=by simpa using fun e=>hs2 ⟨Ix,e⟩
     clear hs hs2 Ix;go_wp2_with fail;refine aT (fun w'=>w'=wr.drew) ZcS rfl ?_
     iterate 18 (refine agj ?_)
     exact Zau
    .have e1:(p.1.Md == st)=false:=by simpa using Ix
     clear hs hs2 Ix;go_wp2_with fail;refine aT (fun w'=>w'=wr.drew) ZcS rfl ?_
     iterate 7 (refine agj ?_)
     iterate 10 (refine nl ?_; simp only [pt,sb,s0,s1])
     iterate 1 (refine agj ?_)
     exact Zau
  .have i1: ¬ (k:Int) < (lp.length:Int):=zo
   have HE:Hid (n=(age st on lp).length/\Row wr a' ((age st on lp).map fun p=>dt p.2)):=by
    have h5:=HA.I;rw [List.take_of_length_le zo] at h5;exact Zbl
   have cy:Hid (B_ w.heap.size w wr):=HO.I.2.1.trans (HA.I.2.2.mono HO.I.2.1.size);go_wp2_with fail;rw [HE.I.1];refine (wn a' (age st on lp) cap' wr HLR.I HE.I.2 (fun p hp=>(HO.I.1.below HA.I.2.2).box p (L2.1 hp).1)).mono ?_;rintro e w3 ⟨rfl,hb3⟩;have oh:Hid (B_ w.heap.size w w3):=cy.I.trans (hb3.mono cy.I.size);clear hb3;go_wp2;go_ret2;exact ⟨rfl,oh.I⟩
structure WkJ (now:Int) (base:Nat) (w:w_) (afH:aZ) (o k:Nat) (S:aZ) (wr:w_):Prop where
 at':cJ wr base o S
 fits:S.Fits
 wk:af9 now S.pure
 same:gj now S.pure=gj now afH.pure
 cnt:(lF now S.pure.L8).length=k
 short: ∀ p∈S.lp,p.1.prog.length<=1048576
 mv:o4 o base afH w S wr
def WdEnd (o base:Nat) (S:aZ) (now:Int) (w:w_) (e:Ending) (w':w_):Prop:= ∃ S2:aZ,e=r_ (b_ (cv now 0 1000000000 && decide (S.q.next<=999999980)))/\S2.Fits/\((cv now 0 1000000000 && decide (S.q.next<=999999980))=true->S2.pure=gj now S.pure)/\o4 o base S w S2 w'
def aiS {w w':w_} {base o g:Nat} {S:aZ} {x:ao} {nx c n:Int} (hx:(x,g)∈S.lp) (h:cJ w' base o (S.ju g (pF nx c) n)) (hk:aI w w' [g,o]):o4 o base S w (S.ju g (pF nx c) n) w':=by
 refine ⟨h,hk.mono fun b hb=> ?_,fun b hb _=> ?_⟩
 .simp only [Kt,Ku,or_false] at hb
  rcases hb with rfl | rfl
  .exact aZ.agr (aZ.ago (LB _ (Lr.2 ⟨_,hx,rfl⟩)))
  .simp [aZ.al]
 .rw [ahk (f:=pF nx c) fun _=>rfl] at hb
  exact hb
def ajo (o base:Nat) (S:aZ) (now:Int) (w:w_) (h:cJ w base o S) (lY:base<=w.heap.size) (hf:S.Fits) (hr:aQ S.pure):
  k_ J3 32 #[p_ (o_ ⟨o,0,n_⟩),i_ j_ now] w fun e w'=>WdEnd o base S now w e w':=by
 have c1:w.cell? ⟨o,1,n_⟩=o_ (i_ j_ S.q.next):=h.opn.cell 1;have H:Hid (cJ w base o S/\S.Fits/\aQ S.pure/\base<=w.heap.size):=⟨h,hf,hr,lY⟩
 clear h hf hr lY
 go_enter func32,ntmps32
 by_cases h1:now < 0
 .skip
  exact W_
 by_cases h2:1000000000 < now
 .skip
  exact W_
 by_cases h3:999999980 < S.q.next
 .skip
  have HV:Hid ((cv now 0 1000000000 && decide (S.q.next<=999999980))=false):=by show _=_; rw [decide_eq_false zo,PP]
  go_wp2;go_ret;exact ⟨S,al HV.I.symm,H.I.2.1,(fun e=>by rw [HV.I] at e; cases e),o4.refl H.I.1⟩
 have HV:Hid ((cv now 0 1000000000 && decide (S.q.next<=999999980))=true):=by show _=_; rw [bz.2 ⟨zo,zo⟩,decide_eq_true zo]; rfl
 have HK:Hid (WkJ now base w S o (lF now S.pure.L8).length S w):=⟨H.I.1,H.I.2.1,af9.of H.I.2.2.1 (by show S.q.next<=_; omega),rfl,rfl,fun p hp=>St H.I.2.2.1 hp,o4.refl H.I.1⟩
 go_wp2_with fail;clear c1 h1 h2 h3
 go_loopg [] (lF now S.pure.L8).length (fun k wr=> ∃ S1:aZ,Hid (WkJ now base w S o k S1 wr))
 case atStart=>exact ⟨S,HK.I⟩
 case round=>
  obtain ⟨S1,HO⟩:=hrel;have hlq:S1.lp.length<=6:=by have h5:=HO.I.wk.low; simpa [aZ.pure] using h5
  have HL:Hid (S1.lp.length<=1048576/\(Qx now S1.lp).length<=1048576):=⟨zo,LG (Qq _ _) zo⟩
  clear hlq;go_wp2_with fail;refine (Sz o S1.q S1.lp now base wr HO.I.at'.opn HO.I.at'.L8 HL.I.1 HO.I.fits.Jl).mono ?_;rintro e w2 ⟨⟨a,cap,rfl,hrw⟩,hb2⟩;have HB:Hid (Row w2 a ((Qx now S1.lp).map fun p=>dt p.2)/\B_ wr.heap.size wr w2):=⟨hrw,hb2⟩
  clear hrw hb2;go_wp2_with fail;refine (Sd a (Qx now S1.lp) cap w2 HL.I.2 HB.I.1 (fun p hp=>(HO.I.at'.L8.below HB.I.2).box p (L2.1 hp).1)).mono ?_;rintro e w3 ⟨rfl,hb3⟩;have H3:Hid (B_ wr.heap.size wr w3):=HB.I.2.trans (hb3.mono HB.I.2.size);have HN:Hid ((oa RY (Qx now S1.lp)).map (fun p=>p.1.toaD)=lZ now S1.pure.L8):=Sy HO.I.wk.kW;clear hb3 HB;cases hbd:oa RY (Qx now S1.lp) with
  | none=>
   have e0:(Qx now S1.lp).length=0:=by rw [CZ RY hbd]; rfl
   have HD:Hid (lZ now S1.pure.L8=n_):=by have h5:=HN.I; rw [hbd] at h5; exact h5.symm
   have d0:decide (0 < (Qx now S1.lp).length)=false:=decide_eq_false zo;rw [d0];clear hbd e0 d0;simp only [qz,Option.map_none];go_wp2;go_ret;exact ⟨S1,al HV.I.symm,HO.I.fits,fun _=>by rw [<- HO.I.same]; exact (Co HD.I).symm,HO.I.mv.trans (o4.below HO.I.at' H3.I)⟩
  | some r=>
   obtain ⟨x,g⟩:=r;have hmd:=Fg RY hbd;have hm:(x,g)∈S1.lp/\og now x.toaD=true:=L2.1 hmd;have d0:decide (0 < (Qx now S1.lp).length)=true:=decide_eq_true (List.length_pos_of_mem hmd);have HD:Hid (lZ now S1.pure.L8=o_ x.toaD/\(x,g)∈S1.lp):=⟨by have h5:=HN.I; rw [hbd] at h5; exact h5.symm,hm.1⟩
   have hst:=(RZ.1 hm.2).1;have hop:=HO.I.wk.op x.toaD (Lr.2 ⟨(x,g),hm.1,rfl⟩) hst;have hro:=HO.I.wk.room;have ai2:=HO.I.at'.below H3.I;have s3:=(bo (ai2.L8.box (x,g) hm.1)).2.2.2.1;have hbs:base<=w3.heap.size:=by have:=HO.I.mv.kept.size; have:=H3.I.size; have:=H.I.2.2.2; omega
   have Mb:=fun code=>ahO o g base S1 x code w3 ai2 hbs hm.1 (by have h5:S1.pure.next=S1.q.next:=rfl; omega) (by have h5:S1.pure.next=S1.q.next:=rfl; omega) hop (HO.I.short _ hm.1)
   rw [d0];clear hbd hmd hm d0 hst hop hro ai2 hbs HN;simp only [qz,dt,J9];cases e2:(x.Md == 2)
   .skip
    replace Mb:=Mb 2;have HCO:Hid (mL x.toaD=2):=by show mL x.toaD=_; unfold mL; rw [if_neg (by simpa using e2)]
    go_wp2_with fail;clear s3 e2;refine Mb.mono ?_;clear Mb;rintro e w4 ⟨rfl,Ss,hb4⟩;have HP:Hid ((S1.ju g (pF S1.q.next 2) (gf S1.q.next x.toaD)).pure=gu S1.pure x.toaD):=by
     have h5:=aZ.Sb (nx:=gf S1.q.next x.toaD) (f:=pF S1.q.next 2) (f':=iY S1.q.next 2) HO.I.wk.kW (fun p hp hpg=>HO.I.at'.L8.one hp HD.I.2 hpg) HD.I.2 (fun _=>rfl);refine h5.trans ?_;unfold gu;rw [HCO.I];rfl
    have HI:Hid (WkJ now base w S o (lF now (S1.ju g (pF S1.q.next 2) (gf S1.q.next x.toaD)).pure.L8).length (S1.ju g (pF S1.q.next 2) (gf S1.q.next x.toaD)) w4/\(lF now (S1.ju g (pF S1.q.next 2) (gf S1.q.next x.toaD)).pure.L8).length < gk):=by
     exact D_
    clear Ss hb4;go_wp2_with fail
    go_roundg (lF now (S1.ju g (pF S1.q.next 2) (gf S1.q.next x.toaD)).pure.L8).length
    case rel=>exact ⟨_,HI.I.1⟩
    case measure=>exact HI.I.2
   .skip
    replace Mb:=Mb 0;have HCO:Hid (mL x.toaD=0):=by show mL x.toaD=_; unfold mL; rw [if_pos (by simpa using e2)]
    go_wp2_with fail;clear s3 e2;refine Mb.mono ?_;clear Mb;rintro e w4 ⟨rfl,Ss,hb4⟩;have HP:Hid ((S1.ju g (pF S1.q.next 0) (gf S1.q.next x.toaD)).pure=gu S1.pure x.toaD):=by
     have h5:=aZ.Sb (nx:=gf S1.q.next x.toaD) (f:=pF S1.q.next 0) (f':=iY S1.q.next 0) HO.I.wk.kW (fun p hp hpg=>HO.I.at'.L8.one hp HD.I.2 hpg) HD.I.2 (fun _=>rfl);refine h5.trans ?_;unfold gu;rw [HCO.I];rfl
    have HI:Hid (WkJ now base w S o (lF now (S1.ju g (pF S1.q.next 0) (gf S1.q.next x.toaD)).pure.L8).length (S1.ju g (pF S1.q.next 0) (gf S1.q.next x.toaD)) w4/\(lF now (S1.ju g (pF S1.q.next 0) (gf S1.q.next x.toaD)).pure.L8).length < gk):=by
     exact D_
    clear Ss hb4;go_wp2_with fail
    go_roundg (lF now (S1.ju g (pF S1.q.next 0) (gf S1.q.next x.toaD)).pure.L8).length
    case rel=>exact ⟨_,HI.I.1⟩
    case measure=>exact HI.I.2
def zx (p:af) (now:Int) (w:w_) (hf:p.Fit) (hs: ∀ x∈p.L8,x.dX) (h:af.At w p) (hr:aQ p.pure) (hn:p.next<=999999980) (eu:0<=now/\now<=1000000000):
  k_ J3 29 #[a_ p.cells,i_ j_ now] w fun e w'=> ∃ q:af,e=r_ (a_ q.cells)/\q.pure=mS now p.pure/\ap w' w.heap.size q/\B_ w.heap.size w w':=by
 have b1:=dT w (c_ p.cells 31) (c_ ar 31);have h2:=cZ w (c_ p.cells 31) (c_ ar 31);have hA:af.At ((w.alloc (c_ p.cells 31)).alloc (c_ ar 31)) p:=h.below b1;have S:Hid (av ((w.alloc (c_ p.cells 31)).alloc (c_ ar 31)) w.heap.size p/\B_ w.heap.size w ((w.alloc (c_ p.cells 31)).alloc (c_ ar 31))/\((w.alloc (c_ p.cells 31)).alloc (c_ ar 31)).heap[w.heap.size+1]? =o_ (c_ ar 31)):=⟨h2.1,b1,h2.2⟩
 have HR:Hid (aQ p.pure/\p.next<=999999980/\(0<=now/\now<=1000000000)/\p.Fit/\(∀ x∈p.L8,x.dX)):=⟨hr,hn,eu,hf,hs⟩
 have Mb:=fR p _ hf hs hA;clear h b1 h2 hA hr hn eu hf hs
 go_enter func29,ntmps29
 go_upto_region 1 with fail;generalize (w.alloc (c_ p.cells 31)).alloc (c_ ar 31)=A at *;go_wp2_with (refine eT 2 S.I.1 ?_);refine Mb.mono ?_;clear Mb;rintro e af8 ⟨q,rfl,hown,gn,hb1⟩;have hsz:=(J2.1 S.I.2.2).1;replace S:Hid (B_ w.heap.size w af8/\af8.heap[w.heap.size+1]? =o_ (c_ ar 31)/\w.heap.size+1 < A.heap.size/\A.heap.size<=af8.heap.size):=⟨S.I.2.1.trans (hb1.mono S.I.2.1.size),(hb1.block _ hsz).trans S.I.2.2,hsz,hb1.size⟩
 have Pv: ∀ x∈q.L8,x.prog.length<=1048576:=fun x hx=>by
  have h5:x.toaD∈p.pure.L8:=by rw [<- gn]; exact Lr.2 ⟨x,hx,rfl⟩
  obtain ⟨y,hy,e⟩:=Lr.1 h5;have h6:=(HR.I.2.2.2.2 y hy).1;have h7:y.prog=x.prog:=congrArg aD.prog e;rw [<- h7]; exact h6
 have Mb:=ti q now A.heap.size af8 hown hb1.size (by rw [gn]; exact af9.of HR.I.1 HR.I.2.1) Pv;rw [gn] at Mb;clear hsz hown gn hb1 Pv;go_wp2_with fail;refine Mb.mono ?_;clear Mb;rintro e A2 ⟨q2,rfl,hp2,DU,hb2⟩;have h5:=(Kp A2.heap.size A2).alloc (Ki _) (c_ q2.cells 31);replace S:Hid (B_ w.heap.size w A2/\A2.heap[w.heap.size+1]? =o_ (c_ ar 31)/\w.heap.size+1 < A.heap.size/\ap A2 A.heap.size q2/\q2.pure=gj now p.pure/\A.heap.size<=A2.heap.size):=⟨S.I.1.trans (hb2.mono (by have:=S.I.2.2.1; omega)),(hb2.block _ S.I.2.2.1).trans S.I.2.1,S.I.2.2.1,DU,hp2,LG S.I.2.2.2 hb2.size⟩
 clear hp2 DU hb2 h5;go_upto_region 2 with (refine ec 5 10 q2.cells (Kj _ _) ?_);have lW:B_ A2.heap.size A2 ((A2.alloc (c_ ar 31)).setRow A2.heap.size q2.cells):=q_ ((Kp _ _).alloc (Ki _) _) (Ki _) _;replace S:Hid (B_ w.heap.size w ((A2.alloc (c_ ar 31)).setRow A2.heap.size q2.cells)/\((A2.alloc (c_ ar 31)).setRow A2.heap.size q2.cells).heap[w.heap.size+1]? =o_ (c_ ar 31)/\w.heap.size+1 < A.heap.size/\ap ((A2.alloc (c_ ar 31)).setRow A2.heap.size q2.cells) A.heap.size q2/\q2.pure=gj now p.pure/\av ((A2.alloc (c_ ar 31)).setRow A2.heap.size q2.cells) A2.heap.size q2/\A.heap.size<=A2.heap.size/\A2.heap.size < ((A2.alloc (c_ ar 31)).setRow A2.heap.size q2.cells).heap.size/\(∀ g∈q2.Mc,g < A2.heap.size)):=⟨S.I.1.trans (lW.mono S.I.1.size),(lW.block _ (by have:=S.I.2.2; omega)).trans S.I.2.1,S.I.2.2.1,S.I.2.2.2.1.below lW,S.I.2.2.2.2.1,setRow_heap _ _ _ _ _ _ (Kj _ _),S.I.2.2.2.2.2,by simp,fun g hg=>(S.I.2.2.2.1.lt g hg).2⟩
 clear lW;generalize (A2.alloc (c_ ar 31)).setRow A2.heap.size q2.cells=B at *;generalize A2.heap.size=X at *;have HW:=aA (ru (now:=now) HR.I.1 (by have h5:=HR.I.2.1; have e:p.pure.next=p.next:=rfl; omega));have HWR:Hid (aQ q2.pure):=by show aQ q2.pure; rw [S.I.2.2.2.2.1]; exact HW.I.1
 have Mb:=ij q2 1 0 B (by have:=(dW HWR.I).1; omega) S.I.2.2.2.1.at;go_wp2_with (refine eT 5 S.I.2.2.2.2.2.1 ?_);refine Mb.mono ?_;clear Mb;rintro e B2 ⟨⟨z,rfl,gV⟩,hb2⟩;replace S:Hid (B_ w.heap.size w B2/\B2.heap[w.heap.size+1]? =o_ (c_ ar 31)/\w.heap.size+1 < A.heap.size/\ap B2 A.heap.size q2/\q2.pure=gj now p.pure/\av B2 X q2/\A.heap.size<=X/\X < B2.heap.size/\(∀ g∈q2.Mc,g < X)):=⟨S.I.1.trans (hb2.mono S.I.1.size),(hb2.block _ (by have:=S.I.2.2; omega)).trans S.I.2.1,S.I.2.2.1,S.I.2.2.2.1.below hb2,S.I.2.2.2.2.1,S.I.2.2.2.2.2.1.below hb2,S.I.2.2.2.2.2.2.1,by have:=hb2.size; have:=S.I.2.2.2.2.2.2.2.1; omega,S.I.2.2.2.2.2.2.2.2⟩
 clear hb2;rcases pp gV with ⟨hz,hw⟩ | ⟨i,v,hz,hi,hw⟩
 .have afO:decide (z < 0)=true:=decide_eq_true hz
  have HE:Hid (q2.pure=mS now p.pure):=by show q2.pure=_; unfold mS; rw [<- S.I.2.2.2.2.1,hw]
  clear gV hz hw;go_wp2_with (first | (refine eT 5 S.I.2.2.2.2.2.1 ?_) | (refine ec 4 15 q2.cells S.I.2.1 ?_));refine gZ results29 S.I.2.1 ?_;exact ⟨q2,rfl,HE.I,(S.I.2.2.2.1.lower (by have:=S.I.2.2.1; omega)).same fun g hg=>KH _ _ _ _ (by have:=(S.I.2.2.2.1.lt g hg).1; have:=S.I.2.2.1; omega),q_ S.I.1 zo _⟩
 subst hz;have afO:decide ((i:Int) < 0)=false:=decide_eq_false zo;have hm:=ft hw;have HE:Hid (lX now v.toaD (opAt v.toaD) q2.pure=mS now p.pure):=by show lX now v.toaD (opAt v.toaD) q2.pure=_; unfold mS; rw [<- S.I.2.2.2.2.1,hw]
 have Mb:=G6 q2 i A.heap.size v now B2 S.I.2.2.2.1 (by have:=S.I.2.2.2.2.2.2; omega) HWR.I hi hm.2.1 (by have h5:=HW.I.2.2; have h6:q2.next=(gj now p.pure).next:=congrArg aE.next S.I.2.2.2.2.1; have h7:=HR.I.2.1; have e:p.pure.next=p.next:=rfl; omega) HR.I.2.2.1;rw [HE.I] at Mb;clear gV hi hw hm;go_wp2_with (refine eT 5 S.I.2.2.2.2.2.1 ?_);refine Mb.mono ?_;clear Mb afO;rintro e B3 ⟨q3,rfl,wu,ht⟩;have S3:Hid (B_ w.heap.size w B3/\B3.heap[w.heap.size+1]? =o_ (c_ ar 31)/\ap B3 A.heap.size q3/\q3.pure=mS now p.pure/\w.heap.size+1 < A.heap.size):=by
  have hlt:=S.I.2.2.1;have hbb:=S.I.2.2.2.2.2.2;have hlo: ∀ g∈q2.Mc,A.heap.size<=g:=fun g hg=>(S.I.2.2.2.1.lt g hg).1
  exact ⟨S.I.1.trans ((ht.kept.below zo hlo).mono zo),(ht.kept.same _ zo (fun hm=>by have:=hlo _ hm; omega)).trans S.I.2.1,ht.own,wu,hlt⟩
 clear wu ht S;go_wp2_with (refine ec 4 19 q3.cells S3.I.2.1 ?_);refine gZ results29 S3.I.2.1 ?_;exact ⟨q3,rfl,S3.I.2.2.2.1,(S3.I.2.2.1.lower (by have:=S3.I.2.2.2.2; omega)).same fun g hg=>KH _ _ _ _ ZdU,q_ S3.I.1 zo _⟩
def vu (p:af) (now:Int) (w:w_) (hf:p.Fit) (hs: ∀ x∈p.L8,x.dX) (h:af.At w p):
  k_ J3 10 #[a_ p.cells,i_ j_ now] w fun e w'=>gI w (hZ p.pure now) e w':=by
 have b1:=dT w (c_ p.cells 31) (c_ ar 31);have h2:=cZ w (c_ p.cells 31) (c_ ar 31);have S:Hid (av ((w.alloc (c_ p.cells 31)).alloc (c_ ar 31)) w.heap.size p/\af.At ((w.alloc (c_ p.cells 31)).alloc (c_ ar 31)) p/\B_ w.heap.size w ((w.alloc (c_ p.cells 31)).alloc (c_ ar 31))/\((w.alloc (c_ p.cells 31)).alloc (c_ ar 31)).heap[w.heap.size+1]? =o_ (c_ ar 31)):=⟨h2.1,h.below b1,b1,h2.2⟩
 have fl:Hid (p.Fit/\ ∀ x∈p.L8,x.dX):=⟨hf,hs⟩
 clear h hf hs b1 h2
 go_enter func10,ntmps10
 go_upto_region 1 with fail;generalize (w.alloc (c_ p.cells 31)).alloc (c_ ar 31)=A at *;have Mb:=eV p A fl.I.1 fl.I.2 S.I.2.1;go_wp2_with (refine eT 2 S.I.1 ?_);refine Mb.mono ?_;clear Mb;rintro e af8 ⟨rfl,hb⟩;replace S:Hid (av (af8) w.heap.size p/\af.At (af8) p/\B_ w.heap.size w (af8)/\(af8).heap[w.heap.size+1]? =o_ (c_ ar 31)):=⟨S.I.1.below hb,S.I.2.1.below hb,S.I.2.2.1.trans (hb.mono S.I.2.2.1.size),(hb.block _ (J2.1 S.I.2.2.2).1).trans S.I.2.2.2⟩
 clear hb;cases h4:bK p.pure
 .have HN:Hid (hZ p.pure now=n_):=by show hZ _ _=n_; simp [hZ,h4]
  clear h4;exact Zal
 have H4:Hid (bK p.pure=true):=h4;clear h4;have Mb:=dx now 0 1000000000 af8;go_wp2_with fail;refine Mb.mono ?_;clear Mb;rintro e A2 ⟨rfl,rfl⟩;cases h5:cv now 0 1000000000
 .have HN:Hid (hZ p.pure now=n_):=by show hZ _ _=n_; simp [hZ,h5]
  clear h5;exact Zal
 have H5:Hid (cv now 0 1000000000=true):=h5;clear h5;have Mb:=uy p A2;unfold af.cells at Mb;obtain ⟨m0,m1,m2,m3,m4,m5,m6,m7⟩:=S.I.1.cells;go_wp2_with fail;clear m0 m1 m2 m3 m4 m5 m6 m7;refine Mb.mono ?_;clear Mb;rintro e A3 ⟨rfl,hb⟩;replace S:Hid (av (A3) w.heap.size p/\af.At (A3) p/\B_ w.heap.size w (A3)/\(A3).heap[w.heap.size+1]? =o_ (c_ ar 31)):=⟨S.I.1.below hb,S.I.2.1.below hb,S.I.2.2.1.trans (hb.mono S.I.2.2.1.size),(hb.block _ (J2.1 S.I.2.2.2).1).trans S.I.2.2.2⟩
 clear hb;by_cases h6:p.next<=999999980;rotate_left
 .have HN:Hid (hZ p.pure now=n_):=by show hZ _ _=n_; have h7:decide (p.pure.next<=999999980)=false:=decide_eq_false h6; simp only [hZ,h7,PP]; rfl
  have d6:decide (p.next<=999999980)=false:=decide_eq_false h6;clear h6;exact Zal
 have HN:Hid (hZ p.pure now=o_ (mS now p.pure)):=by show hZ _ _=o_ _; have h7:decide (p.pure.next<=999999980)=true:=decide_eq_true h6; simp only [hZ,H4.I,H5.I,h7,Bool.and_true]; rfl
 have d6:decide (p.next<=999999980)=true:=decide_eq_true h6;have Mb:=zx p now A3 fl.I.1 fl.I.2 S.I.2.1 ((ch _).1 H4.I) h6 (bz.1 H5.I);clear h6;go_wp2_with (refine eT 2 S.I.1 ?_);refine Mb.mono ?_;clear Mb d6;rintro e afT ⟨q,rfl,hp,ho,hb⟩;have hlt:=(J2.1 S.I.2.2.2).1;have S3:Hid (B_ w.heap.size w afT/\afT.heap[w.heap.size+1]? =o_ (c_ ar 31)/\ap afT A3.heap.size q/\q.pure=mS now p.pure/\w.heap.size+1 < A3.heap.size):=⟨S.I.2.2.1.trans (hb.mono S.I.2.2.1.size),(hb.block _ hlt).trans S.I.2.2.2,ho,hp,hlt⟩
 clear hp ho hb hlt S;go_wp2_with (refine ec 4 22 q.cells S3.I.2.1 ?_);refine mG results10 (b_ true) S3.I.2.1 ?_;rw [HN.I];exact ⟨q,rfl,(S3.I.2.2.1.lower (by have:=S3.I.2.2.2.2; omega)).same fun g hg=>KH _ _ _ _ ZdU,S3.I.2.2.2.1,q_ S3.I.1 zo _⟩
def aku (f:aD->aD) (o base g:Nat) (S:aZ) (st on:Int) (w:w_) (e:Ending) (w':w_):Prop:=
 (jl st on S.pure.L8=n_/\e=r_ (b_ false)/\B_ w.heap.size w w')\/ ∃ y S',jl st on S.pure.L8=o_ y/\e=r_ (b_ true)/\o4 o base S w S' w'/\S'.pure=gF f S.pure y/\afU g S S'
structure aij (g:Nat) (S:aZ) (st:Int):Prop where
 right:aQ S.pure
 room:S.q.next+1<=1000000000
 st: ¬ st=0/\ ¬ st=1
 up: ∀ x,(x,g)∈S.lp->x.Md=1
section
variable {g:Nat} {S:aZ} {st on:Int}
def aij.best (h:aij g S st):(li (age st on S.lp)=n_/\(age st on S.lp).length=0/\jl st on S.pure.L8=n_)\/ ∃ x c,li (age st on S.lp)=o_ (x,c)/\0 < (age st on S.lp).length/\jl st on S.pure.L8=o_ x.toaD/\(x,c)∈S.lp/\ ¬ c=g/\(0<=x.pc/\x.pc < x.prog.length)/\x.prog.length<=1048576:=by
 have e:=ah9 (st:=st) (on:=on) S.lp;cases hb:li (age st on S.lp) with
 | none=>
  refine .inl ⟨rfl,?_,?_⟩
  .rcases hl:age st on S.lp with _ | ⟨z,r⟩
   .rfl
   .obtain ⟨y,h5,-⟩:=ql (l:=age st on S.lp) (k:=(age st on S.lp).length) (by rw [hl]; simp) (Ki _)
    rw [LQ,hb] at h5;cases h5
  .rw [hb] at e
   exact e.symm
 | some r=>
  obtain ⟨x,c⟩:=r;rw [hb] at e;have h1:jl st on S.pure.L8=o_ x.toaD:=e.symm;obtain ⟨y,h5,hm⟩: ∃ y,li (age st on S.lp)=o_ y/\y∈age st on S.lp:=by
   rcases hl:age st on S.lp with _ | ⟨z,r⟩
   .rw [hl] at hb; cases hb
   .have h6:=ql (l:=age st on S.lp) (k:=(age st on S.lp).length) (by rw [hl]; simp) (Ki _)
    rw [LQ,hl] at h6;exact h6
  rw [hb] at h5;cases h5;have hx:=L2.1 hm;have hs:=agD.1 hx.2;have hs0: ¬ x.toaD.Md=0:=fun e2=>h.st.1 (hs.1.symm.trans e2)
  have hp:=(h.right.proc (Lr.2 ⟨(x,c),hx.1,rfl⟩)).2.1;exact .inr ⟨x,c,rfl,List.length_pos_of_mem hm,h1,hx.1,fun e2=>h.st.2 (hs.1.symm.trans (h.up x (by rw [<- e2]; exact hx.1))),iT hp hs0,St h.right hx.1⟩
def aij.low (h:aij g S st):0<=S.q.next/\S.q.next<=1000000000:=by
 have h1:=bz.1 h.right.next;have h2:=h.room;have h3:S.pure.next=S.q.next:=rfl;omega
end
def agv {S:aZ} (h:aQ S.pure):S.pure.L8.Pairwise (fun x y=>x.id < y.id):=h.kW
def ahv (o d g base:Nat) (S:aZ) (op:dN) (now st:Int) (w:w_) (h:afb w base o d g S op now) (hk:aij g S st):
  k_ J3 184 #[p_ (o_ ⟨d,0,n_⟩),i_ j_ st] w fun e w'=>aku (fun y=>y) o base g S st op.2.1 w e w':=by
 have H:Hid (afb w base o d g S op now/\aij g S st):=⟨h,hk⟩
 clear h hk
 go_enter func184,ntmps184
 go_wp2_with fail;refine (agK o d g base S op now st w H.I.1 (iB H.I.2.right)).mono ?_;rintro e w2 ⟨rfl,hb2⟩;have H2:Hid (B_ w.heap.size w w2):=hb2;rcases H.I.2.best (on:=op.2.1) with ⟨b1,b2,b3⟩ | ⟨x,c,b1,b2,b3,hx,hc,hpc,hl⟩
 .exact Zao
 .have HE:Hid (jl st op.2.1 S.pure.L8=o_ x.toaD/\(x,c)∈S.lp/\ ¬ c=g):=⟨b3,hx,hc⟩
  have d0:decide (0 < (age st op.2.1 S.lp).length)=true:=decide_eq_true b2;have hm2:=o4.below H.I.1.at' hb2;have c0:=(agb (H.I.1.move hm2).box).1;have Mb:=ahO o c base S x 0 w2 hm2.at' (H.I.1.move hm2).low hx H.I.2.low.1 H.I.2.low.2 hpc hl;rw [d0,b1];clear d0 b1 b2 b3 hb2 hx hc hpc hl hm2;simp only [qz,dt,J9];go_wp2_with fail;refine Mb.mono ?_;clear Mb c0;rintro e w3 ⟨rfl,hat,hkp⟩;have HF:Hid (o4 o base S w (S.ju c (pF S.q.next 0) (gf S.q.next x.toaD)) w3/\(S.ju c (pF S.q.next 0) (gf S.q.next x.toaD)).pure=gF (fun y=>y) S.pure x.toaD):=by
   have hm2:=o4.below H.I.1.at' H2.I;refine ⟨hm2.trans ⟨hat,hkp.mono fun b hb=> ?_,fun b hb _=> ?_⟩,?_⟩
   .simp only [Kt,Ku,or_false] at hb
    rcases hb with rfl | rfl
    .exact aZ.agr (aZ.ago (LB _ (Lr.2 ⟨_,HE.I.2.1,rfl⟩)))
    .simp [aZ.al]
   .rw [ahk (f:=pF S.q.next 0) fun y=>rfl] at hb
    exact hb
   .exact aZ.Sb (nx:=gf S.q.next x.toaD) (f:=pF S.q.next 0) (f':=iY S.q.next 0) (agv H.I.2.right) (fun p hp hpg=>H.I.1.at'.L8.one hp HE.I.2.1 hpg) HE.I.2.1 (fun _=>rfl)
  clear hat hkp;go_wp2;go_ret;exact .inr ⟨_,_,HE.I.1,rfl,HF.I.1,HF.I.2,afU.ju fun e=>absurd e HE.I.2.2⟩
def agF (t:ByteArray) (x:ao):ao:=⟨lG t x.toaD,x.aY,x.bH⟩
def o4.got {o base c:Nat} {S:aZ} {x:ao} {t:ByteArray} {w:w_} (h:cJ w base o S) (hx:(x,c)∈S.lp):o4 o base S w (S.ju c (agF t) S.q.next) (w.setCell ⟨c,9,n_⟩ (t_ t)):=by
 have ha:=h.apart (aZ.ago (LB _ (Lr.2 ⟨_,hx,rfl⟩)));exact o4.ju h (fun _=>⟨rfl,rfl,rfl,rfl⟩) hx (cx (i:=9) (v:=t_ t) (h.L8.box _ hx)) ((aH ha.1).trans h.opn) (aI.cell.mono zw)
def agW {base o c:Nat} {S:aZ} {x:ao} {t:ByteArray} {w:w_} (h:cJ w base o S) (hr:aQ S.pure) (hx:(x,c)∈S.lp):(S.ju c (agF t) S.q.next).pure=ez t x.id S.pure:=
 aZ.Sb (nx:=S.q.next) (f:=agF t) (f':=lG t) (agv hr) (fun _ hp hpg=>h.L8.one hp hx hpg) hx (fun _=>rfl)
def ahA (o d g base:Nat) (S:aZ) (op:dN) (now st:Int) (w:w_) (h:afb w base o d g S op now) (hk:aij g S st):
  k_ J3 187 #[p_ (o_ ⟨d,0,n_⟩),i_ j_ st] w fun e w'=>aku (lG op.2.2.2) o base g S st op.2.1 w e w':=by
 have H:Hid (afb w base o d g S op now/\aij g S st):=⟨h,hk⟩
 clear h hk
 go_enter func187,ntmps187
 go_wp2_with fail;refine (agK o d g base S op now st w H.I.1 (iB H.I.2.right)).mono ?_;rintro e w2 ⟨rfl,hb2⟩;have H2:Hid (B_ w.heap.size w w2):=hb2;rcases H.I.2.best (on:=op.2.1) with ⟨b1,b2,b3⟩ | ⟨x,c,b1,b2,b3,hx,hc,hpc,hl⟩
 .exact Zao
 .have HE:Hid (jl st op.2.1 S.pure.L8=o_ x.toaD/\(x,c)∈S.lp/\ ¬ c=g):=⟨b3,hx,hc⟩
  have d0:decide (0 < (age st op.2.1 S.lp).length)=true:=decide_eq_true b2;have hm2:=o4.below H.I.1.at' hb2;have hm3:=o4.got (t:=op.2.2.2) hm2.at' hx;have hx3:(agF op.2.2.2 x,c)∈(S.ju c (agF op.2.2.2) S.q.next).lp:=yy.2 ⟨(x,c),hx,by simp⟩;have HM:Hid (o4 o base S w (S.ju c (agF op.2.2.2) S.q.next) (w2.setCell ⟨c,9,n_⟩ (t_ op.2.2.2))/\(agF op.2.2.2 x,c)∈(S.ju c (agF op.2.2.2) S.q.next).lp):=⟨hm2.trans hm3,hx3⟩
  have c5:=(agb (H.I.1.move hm2).box).2.2.2.2.2.1;have c9:=(bo (hm2.at'.L8.box _ hx)).2.2.2.2.2.2.2.2.2.1;have f9:w2.frozen? ⟨c,9,n_⟩=false:=frozen_of_row _ _ _ _ _ (hm2.at'.L8.box _ hx);have c0:=(agb (H.I.1.move HM.I.1).box).1;have Mb:=ahO o c base (S.ju c (agF op.2.2.2) S.q.next) (agF op.2.2.2 x) 0 _ hm3.at' (H.I.1.move HM.I.1).low hx3 H.I.2.low.1 H.I.2.low.2 hpc hl;rw [d0,b1];clear d0 b1 b2 b3 hb2 hx hc hpc hl hm2 hm3 hx3;simp only [qz,dt,J9];go_wp2_with fail;refine Mb.mono ?_;clear Mb c0 c5 c9 f9;rintro e w3 ⟨rfl,hat,hkp⟩;obtain ⟨S2,hS2⟩: ∃ S2,S2=(S.ju c (agF op.2.2.2) S.q.next).ju c (pF S.q.next 0) (gf S.q.next x.toaD):=⟨_,rfl⟩
  have HF:Hid (o4 o base S w S2 w3/\S2.pure=gF (lG op.2.2.2) S.pure x.toaD/\afU g S S2):=by
   rw [hS2];have hr2:(S.ju c (agF op.2.2.2) S.q.next).pure.L8.Pairwise (fun x y=>x.id < y.id):=by
    rw [agW H.I.1.at' H.I.2.right HE.I.2.1];exact rW (f:=lG op.2.2.2) (fun _=>rfl) (agv H.I.2.right)
   refine ⟨HM.I.1.trans ⟨hat,hkp.mono fun b hb=> ?_,fun b hb _=> ?_⟩,?_,(afU.ju fun e=>absurd e HE.I.2.2).trans (afU.ju fun e=>absurd e HE.I.2.2)⟩
   .simp only [Kt,Ku,or_false] at hb
    rcases hb with rfl | rfl
    .exact aZ.agr (aZ.ago (LB _ (Lr.2 ⟨_,HM.I.2,rfl⟩)))
    .simp [aZ.al]
   .have e5:=ahk (o:=o) (g:=c) (S:=S.ju c (agF op.2.2.2) S.q.next) (f:=pF S.q.next 0) (nx:=gf S.q.next x.toaD) fun y=>rfl
    rw [<- e5];exact hb
   .refine (aZ.Sb (nx:=gf S.q.next x.toaD) (f:=pF S.q.next 0) (f':=iY S.q.next 0) hr2 (fun p hp hpg=>HM.I.1.at'.L8.one hp HM.I.2 hpg) HM.I.2 (fun _=>rfl)).trans ?_
    rw [agW H.I.1.at' H.I.2.right HE.I.2.1]
    show ({ S.pure with next:=gf S.q.next x.toaD,L8:=ce x.id (iY S.q.next 0) (ce x.id (lG op.2.2.2) S.pure.L8) } :aE)=_
    rw [pm (f:=lG op.2.2.2) fun _=>rfl];rfl
  clear hat hkp;go_wp2;go_ret;exact .inr ⟨_,_,HE.I.1,rfl,HF.I.1,HF.I.2.1,HF.I.2.2⟩
end
end Go.Proofs.YtfncpmaefninjaaGreatDoor
