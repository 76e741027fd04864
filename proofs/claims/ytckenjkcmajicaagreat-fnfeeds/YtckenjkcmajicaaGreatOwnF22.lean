/- What the proof leans on, part 22. -/
import Derived.Test.YtckenjkcmajicaaGreatOwnF18
set_option linter.all false
set_option maxRecDepth 100000
set_option maxHeartbeats 8000000
open Go.Proofs.Tryz
open Go renaming World->w_,Calls->k_,Addr->d_
open Go.IntKind renaming i64->j_
open Go.Obj renaming cells->c_
open Go.RowKit renaming Below->B_,Hid->bN
open Go.Value renaming int->i_,slice->s_,string->t_,agg->a_
open Option renaming some->o_,none->n_
open Function renaming comp_def->Ls
open Go renaming wp_at_succ->Kd,wp_at_zero->Kc
open Go.Proofs.Tryz renaming prog->J3
open List renaming getElem_cons_succ->K1,getElem_cons_zero->K0,getElem_toArray->KZ,length_cons->Lg,length_nil->K4

namespace Go.Proofs.YtckenjkcmajicaaGreat
open Go.RowKit Go.Maps
attribute [local go_sem ↓] Kc Kd
theorem yY (N:Int) (l k:List ByteArray) (p:aE):cV N l (cV N k p)=cV N l p:=by
 unfold cV jP;simp only [Lv]
 congr 1
 refine Lw fun z _=> ?_
 simp only [Ls];by_cases h:z.id=N <;> simp [h]
theorem Ig {W:w_} {bi Y5 gp:Nat} {q:af} (h:ap W bi q) (iE:q.am=o_ ⟨Y5,0,n_⟩) (l9:q.aN=o_ ⟨gp,0,n_⟩):Y5≠gp:=by
 have h1:=h.nodup;unfold af.Mc at h1;obtain ⟨-,-,h3⟩:=Kf.1 h1;exact fun e=>h3 gp (by rw [l9]; simp [blk]) Y5 (by simp only [Kg]; exact .inr (.inr (.inr (.inr (.inl (by rw [iE]; simp [blk])))))) e.symm
theorem C0 (q:af) (n bi:Nat) (x:ao) (bj:Int) (o:dN) (w:w_) (h:ap w bi q) (hb:bi<=w.heap.size) (hr:aQ q.pure) (hx:q.L8[n]? =o_ x) (hs:x.Md=1) (hn:q.next<=999999990) (eu:0<=bj/\bj<=1000000000) (ho:kc o=true) (hk:o.1=9):
  k_ J3 185 #[a_ q.cells,i_ j_ n,a_ (j9 o),i_ j_ bj] w (jH w bi q (ka o bj x.id q.pure)):=by
 obtain ⟨-,f1,f2,f3,f4⟩:=dv ho;have hM:=bz.1 f2;obtain ⟨k,N,M,s⟩:=o;simp only at hk hM f1 f3 f4;subst hk;have HR:=aA (SD hr hx hs hn eu hM);have HF:=aA (dW hr);clear f2 hr hx hs hn eu hM ho;have S:=aA (Xf.start (o:=(9,N,M,s)) h hb);clear h hb
 go_enter func185,ntmps185
 go_upto_region 1 with fail;generalize ((w.alloc (c_ q.cells 46)).alloc (c_ (j9 (9,N,M,s)) 217)).alloc (c_ ar 46)=A at *;obtain ⟨-,o1,-,-⟩:=S.I.op.cells;simp only at o1;have hpf:=ef (num:=fun x:au=>x.id) N q.ae 0;have Mb:=lr q N A Zb4 S.I.fr.own.at;generalize place (q.ae.map (fun x=>x.id)) N 0=z at *;go_wp2_with (refine eT _ S.I.fr.box ?_);refine Mb.mono ?_;clear Mb;rintro e A2 ⟨rfl,hb2⟩;replace S:=aA (S.I.reads hb2);clear hb2 o1;have hfm:=lJ (num:=fun x:ci=>x.id) (je:=fun x:au=>x.id) (g:=fun x:au=>x.toci) (fun _=>rfl) (id:=N) q.ae;rcases hpf with ⟨hz,hf⟩ | ⟨m,y,hz,hm,hid,hf⟩
 .subst hz
  rw [hf] at hfm;have HE:bN (ka (9,N,M,s) bj x.id q.pure=bu 3 x.id q.pure):=by show ka (9,N,M,s) bj x.id q.pure=_; unfold ka; rw [show cg (fun x:ci=>x.id) N q.pure.ae=n_ from hfm]
  exact ZbV
 rw [hf] at hfm;rw [Li] at hz;subst hz;have afO:decide ((m:Int) < 0)=false:=decide_eq_false zw;have HM:bN (q.ae[m]? =o_ y/\y.id=N/\cg (fun x:ci=>x.id) N q.pure.ae=o_ y.toci):=⟨hm,hid,hfm⟩
 have hml:=(Lj.1 hm).1;have j0:(0:Int)<=(m:Int):=zw
 have j1:(m:Int) < (q.ae.length:Int):=zw
 clear hm hid hf hfm hml;obtain ⟨Y5,iE,hat⟩:=iA S.I.fr.own.at.2.2.2.2.1 HM.I.1;have m6:=S.I.fr.box.cells.2.2.2.2.2.2.1;rw [iE] at m6;have d0:=hat.1;have d1:=hat.2.1;have d2:=hat.2.2;have HG:bN (q.am=o_ ⟨Y5,0,n_⟩):=iE;clear hat iE;have h5:=(Kp A2.heap.size A2).alloc (Ki _) (c_ #[i_ j_ y.id,i_ j_ y.max,s_ y.ak y.Ma.length y.aq] 137);have afa:bN ((A2.alloc (c_ #[i_ j_ y.id,i_ j_ y.max,s_ y.ak y.Ma.length y.aq] 137)).heap[A2.heap.size]? =o_ (c_ #[i_ j_ y.id,i_ j_ y.max,s_ y.ak y.Ma.length y.aq] 137)/\w.heap.size+3<=A2.heap.size):=⟨Kj _ _,S.I.fr.sz.2.1⟩
 replace S:=aA (S.I.reads h5);clear h5;go_upto_region 5 with fail;generalize A2.alloc (c_ #[i_ j_ y.id,i_ j_ y.max,s_ y.ak y.Ma.length y.aq] 137)=B at *;generalize A2.heap.size=X at *;clear m6 d0 d1 d2 afO;obtain ⟨o0,-,-,-⟩:=S.I.op.cells;simp only at o0;have x2:B.cell? ⟨X,2,n_⟩=o_ (s_ y.ak y.Ma.length y.aq):=by simp [World.cell?,afa.I.1]
 have HF4:=aA (f4 (by decide) (by decide) (by decide));clear f1 f3 f4;cases hit:y.Ma with
 | nil=>
  rw [hit] at x2;have HE:bN (ka (9,N,M,s) bj x.id q.pure=mX 6 (9,N,M,s) bj x.id (ez rM x.id q.pure)):=by show ka (9,N,M,s) bj x.id q.pure=_; unfold ka; rw [show cg (fun x:ci=>x.id) N q.pure.ae=o_ y.toci from HM.I.2.2]; dsimp only; rw [show y.toci.Ma= [] from hit]
  clear afa hit;go_upto_region 15 with fail;clear x2 o0;obtain ⟨gp,l9,-⟩:=cn S.I.fr.own.at.1 HR.I.2.1;have m2:=S.I.fr.box.cells.2.2.1;have k1:(n:Int) < (q.L8.length:Int):=by have:=(Lj.1 HR.I.2.1).1; omega
  have k0:(0:Int)<=(n:Int):=zw
  rw [l9] at m2;obtain ⟨s1,⟨u,c⟩,f⟩:=eY (n:=n) (j:=9) (v:=t_ ⟨#[]⟩) (y:= { x with got:=rM }) S.I.fr.own HR.I.2.1 l9 ⟨rfl,rfl,rfl⟩ (by decide) rfl;replace S:=aA (S.I.call s1);clear s1 l9;go_upto_region 16 with fail;generalize B.setCell ⟨gp,n * 12+9,n_⟩ (t_ ⟨#[]⟩)=C at *;clear m2 c f u k0 k1;obtain ⟨q1,hq1,hq⟩:=kg HR.I.1 HR.I.2.1 jX;have HB:bN (q1.next=q.next):=by rw [hq1]; exact rfl
  rw [<- hq1] at S;have HQ:=aA hq;clear hq1 hq;have Mb:=oR q1 n bi { x with got:=rM } 6 bj (9,N,M,s) C S.I.fr.own S.I.low HQ.I.2.2.1 HQ.I.2.2.2 Zcb (by have:=HR.I.2.2.2.1; rw [HB.I]; omega) HR.I.2.2.2.2.1 HR.I.2.2.2.2.2;rw [HQ.I.1,HQ.I.2.1] at Mb;go_wp2_with (first | (refine eT _ S.I.fr.box ?_) | (refine LS rfl 217 (.tmp 6) rfl (w.heap.size+1) (by rfl) 217 (j9 (9,N,M,s)) (0,0) _ S.I.op underlying217 rfl ZbY ?_));exact Zbz
 | cons t0 r=>
  have tI:bN (y.Ma=t0 :: r/\bw t0=true/\(∀ u∈r,bw u=true)/\y.Ma.length<=5/\(y.Ma.length:Int)<=y.max):=by
   have h5:=(ji (o:=(9,N,M,s)) HR.I.1 HM.I.2.2).2.2; have h6:=uJ HR.I.1 (Lr.2 ⟨y,KA HM.I.1,rfl⟩);have h7:y.toci.Ma=y.Ma:=rfl;have h8:y.toci.max=y.max:=rfl;rw [h7] at h5;exact ⟨hit,h5.2 t0 (by rw [hit]; simp),fun u hu=>h5.2 u (by rw [hit]; simp [hu]),zw,by rw [<- h8]; exact h5.1⟩
  have il:(0:Int) < (y.Ma.length:Int):=by rw [hit]; simp
  have il3:0 < y.Ma.length:=by rw [hit]; simp
  have il4: ¬ y.Ma.length=0:=zw
  have il2:((y.Ma.length:Int) == 0)=false:=by rw [hit]; simp; omega
  clear hit;go_upto_region 17 with fail;clear x2 o0 il2;replace afa:bN (B.drew.heap[X]? =o_ (c_ #[i_ j_ y.id,i_ j_ y.max,s_ y.ak y.Ma.length y.aq] 137)/\w.heap.size+3<=X):=afa.I;replace S:=aA (S.I.reads (Kp _ _).drew);refine eD (fun w1=>w1=B.drew) 9 ZbY rfl ?_;generalize B.drew=C at *;have HG1:=aA (kg HR.I.1 HR.I.2.1 tI.I.2.1);have x2:C.cell? ⟨X,2,n_⟩=o_ (s_ y.ak y.Ma.length y.aq):=by simp [World.cell?,afa.I.1]
  obtain ⟨abo,hgi,x3⟩:=zl (lj S.I.fr.own.at.2.2.2.2.1 HM.I.1) (show y.Ma[0]? =o_ t0 by rw [tI.I.1]; rfl);rw [hgi] at x2;obtain ⟨gp,l9,-⟩:=cn S.I.fr.own.at.1 HR.I.2.1;have m2:=S.I.fr.box.cells.2.2.1;have k1:(n:Int) < (q.L8.length:Int):=by have:=(Lj.1 HR.I.2.1).1; omega
  have k0:(0:Int)<=(n:Int):=zw
  rw [l9] at m2;have ud:bN (q.aN=o_ ⟨gp,0,n_⟩):=l9;obtain ⟨s1,⟨u,c⟩,f⟩:=eY (n:=n) (j:=9) (v:=t_ t0) (y:= { x with got:=t0 }) S.I.fr.own HR.I.2.1 l9 ⟨rfl,rfl,rfl⟩ (by decide) rfl;have lW:(C.setCell ⟨gp,n * 12+9,n_⟩ (t_ t0)).heap[X]? =o_ (c_ #[i_ j_ y.id,i_ j_ y.max,s_ y.ak y.Ma.length y.aq] 137):=(aH (fun e=>by have h5:=(S.I.fr.lo gp (gD (.inl (by rw [l9]; simp [blk])))).2; have:=afa.I.2; omega)).trans afa.I.1;replace S:=aA (S.I.call s1);replace afa:=aA (And.intro lW afa.I.2);clear s1 l9 hgi lW
  iterate 9 (refine ly 10 (v:= ?_) (o_ _) rfl rfl ZbY (fun _ _ _ h=>h) (bV ZbY ?_) ?_; rotate_left; (intro w0 hS0; subst hS0; go_simp; try with_reducible rfl); simp only [pt,sb,s0,s1])
  refine fL rfl ZbY ZbY ZbY ?_;intro w1 cm;rw [cm];clear cm w1
  go_simp
  generalize C.setCell ⟨gp,n * 12+9,n_⟩ (t_ t0)=D at *;clear m2 x2 x3 c f u k0 k1 il il3 il4;obtain ⟨q1,hq1,hq⟩:=HG1.I;have HB:bN (q1.ae=q.ae/\q1.next=q.next/\q1.am=q.am/\q1.pure.ae=q.pure.ae/\q1.aN=q.aN):=by rw [hq1]; exact ⟨rfl,rfl,rfl,rfl,rfl⟩
  rw [<- hq1] at S;have HQ:=aA hq;clear hq1 hq HG1;go_upto_region 18 with fail;replace S:=aA (S.I.reads (Kp _ _).drew);replace afa:bN (D.drew.heap[X]? =o_ (c_ #[i_ j_ y.id,i_ j_ y.max,s_ y.ak y.Ma.length y.aq] 137)/\w.heap.size+3<=X):=afa.I;refine Kr (S:=fun w'=>av w' w.heap.size q/\w'.heap[X]? =o_ (c_ #[i_ j_ y.id,i_ j_ y.max,s_ y.ak y.Ma.length y.aq] 137)) ZbY ⟨S.I.fr.box,afa.I.1⟩ (fun bE=> ?_);generalize D.drew=V2 at *;have il:(1:Int)<=(y.Ma.length:Int):=by rw [tI.I.1]; simp; omega
  have af5:(y.Ma.length:Int)<=(y.aq:Int):=by have h5:y.Ma.length<=y.aq:=nV (S.I.fr.own.eE y (by rw [HB.I.1]; exact KA HM.I.1)); omega
  have ic2:(1:Int)<=(y.aq:Int):=zw
  obtain ⟨afs,hTA⟩: ∃ afs:Option d_,(if y.aq=1 then y.ak else Option.map (fun x:d_=>(⟨x.block,x.off+1,n_⟩:d_)) y.ak)=afs:=⟨_,rfl⟩
  refine agi 0 bE ?_;refine agi 1 bE ?_;refine agi 2 bE ?_;refine agi 4 bE ?_;refine agi 5 bE ?_;refine agi 6 bE ?_;clear bE il af5 ic2;have GO:bN (q1.ae[m]? =o_ y):=by rw [HB.I.1]; exact HM.I.1
  have lW:=(J2.1 afa.I.1).1;have hS: ∀ W,B_ V2.heap.size V2 W->av W w.heap.size q/\W.heap[X]? =o_ (c_ #[i_ j_ y.id,i_ j_ y.max,s_ y.ak y.Ma.length y.aq] 137):=fun W hb=>⟨S.I.fr.box.below hb,(hb.block _ lW).trans afa.I.1⟩
  have b1:B_ V2.heap.size V2 (V2.alloc (c_ #[] 9)):=(Kp _ _).alloc (Ki _) _;refine L7 3 (fun K hK=> ?_);go_wp2_with fail;refine hK.out _ _ (hS _ b1) (fun bE=> ?_);clear hK K bE
  try simp only [pt,sb,s0,s1]
  have hlr:y.Ma.length - 1=r.length:=by rw [tI.I.1]; rfl
  have pI:y.Ma.drop 1=r:=by rw [tI.I.1]; rfl
  have hsrc:=vg (c:=y.aq) (nV (S.I.fr.own.eE y (KA GO.I))) (lj (S.I.fr.own.below b1).at.2.2.2.2.1 GO.I);rw [hTA] at hsrc;obtain ⟨a7,c7,w7,hap,mP,xI,-⟩:=ou (V2.alloc (c_ #[] 9)) V2.heap.size (o_ ⟨V2.heap.size,0,n_⟩) 0 [] (i6 (Kj _ _) (Ki _)) afs (y.Ma.drop 1) (y.aq - 1) hsrc (by rw [Ql]; have:=tI.I.2.2.2.1; show 0+_<=_; omega) b1.size;clear hsrc hTA;have gh:B_ V2.heap.size V2 w7:=b1.grown xI b1.size fun c e=>by cases e; exact Ki _
  rw [Ql,hlr] at hap mP;simp only [K4,Li,List.nil_append,pI] at hap mP;rw [<- hlr] at hap;obtain ⟨s1,⟨u,c⟩,f⟩:=mB (n:=m) S.I.fr.own (aI.dI gh) GO.I (HB.I.2.2.1.trans HG.I) (cq mP S.I.low) (fun g hg=> .inr (cf mP hg).1);rw [<- hlr] at s1;have HLR:bN (y.Ma.length - 1=r.length):=hlr;clear hlr;refine L7 7 (fun K hK=> ?_);refine cM _ _ _ rfl _ _ _ w7 rfl rfl hap ?_;refine hK.out _ _ ⟨S.I.fr.box.below gh,(gh.block _ lW).trans afa.I.1⟩ (fun bE=> ?_);clear hK K bE
  try simp only [pt,sb]
  have wj:av w7 w.heap.size q/\w7.heap[X]? =o_ (c_ #[i_ j_ y.id,i_ j_ y.max,s_ y.ak y.Ma.length y.aq] 137):=⟨S.I.fr.box.below gh,(gh.block _ lW).trans afa.I.1⟩
  replace S:=aA (S.I.call s1);clear hap mP xI gh s1 b1 hS;refine agi 8 wj ?_;refine agi 9 wj ?_;have uQ:(w7.setCell ⟨Y5,m * 3+2,n_⟩ (s_ a7 (y.Ma.length - 1) c7)).heap[X]? =o_ (c_ #[i_ j_ y.id,i_ j_ y.max,s_ y.ak y.Ma.length y.aq] 137):=(aH (fun e=>by have h5:=(S.I.fr.lo Y5 (gD (.inr <| .inr <| .inr <| .inr <| .inl <| by rw [HG.I]; simp [blk]))).2; have:=afa.I.2; omega)).trans wj.2;refine L7 10 (fun K hK=> ?_);go_wp2_with fail;refine hK.out _ _ ⟨S.I.fr.box,uQ⟩ (fun bE=> ?_);clear hK K bE;refine K3 ZbY ?_ _;clear c f u wj lW uQ;go_upto_region 19 with fail;generalize w7.setCell ⟨Y5,m * 3+2,n_⟩ (s_ a7 (y.Ma.length - 1) c7)=E at *;obtain ⟨y2,hy2⟩: ∃ y2:au,y2= { y with Ma:=r,ak:=a7,aq:=c7 } :=⟨_,rfl⟩
  obtain ⟨q2,pv⟩: ∃ q2:af,q2= { q1 with ae:=q1.ae.set m y2 } :=⟨_,rfl⟩
  have ky:bN (q2.pure=cV N r (ez t0 x.id q.pure)/\q2.cells=q.cells/\aQ q2.pure/\q2.L8[n]? =o_ { x with got:=t0 } /\q2.ae[m]? =o_ y2/\q2.am=o_ ⟨Y5,0,n_⟩/\q2.next=q.next/\q2.aN=o_ ⟨gp,0,n_⟩):=by
   have h5:q2.pure=cV N r q1.pure:=by rw [pv,hy2]; exact oN HQ.I.2.2.1.ae GO.I HM.I.2.1
   have h6:aQ (cV N r q1.pure):=gN HQ.I.2.2.1 (fun z hz hk=>by rw [HB.I.2.2.2.1] at hz; rw [only HR.I.1.ae HM.I.2.2 hz hk]; have h7:=tI.I.2.2.2.2; rw [tI.I.1] at h7; have h8:y.toci.max=y.max:=rfl; simp only [Lg] at h7; omega) tI.I.2.2.1;exact ⟨by rw [h5,HQ.I.1],by rw [pv]; exact Eq.trans (by unfold af.cells; simp) HQ.I.2.1,by rw [h5]; exact h6,by rw [pv]; exact HQ.I.2.2.2,by rw [pv]; show (q1.ae.set m y2)[m]? =_; rw [LU (Lj.1 GO.I).1],by rw [pv]; exact HB.I.2.2.1.trans HG.I,by rw [pv]; exact HB.I.2.1,by rw [pv]; exact HB.I.2.2.2.2.trans ud.I⟩
  rw [<- hy2,<- pv] at S;have HY2:bN (y2.Ma=r/\y2.id=N/\y2.max=y.max):=by rw [hy2]; exact ⟨rfl,HM.I.2.1,rfl⟩
  clear pv hy2 HLR pI afa;have HU:bN (ka (9,N,M,s) bj x.id q.pure=match jl 5 N q2.pure.L8 with | none=>bu 0 x.id (cV N r (ez t0 x.id q.pure)) | some v=>bu 0 x.id (gF (fun y=>y) (cV N (r ++ [v.held]) (ez t0 x.id q.pure)) v)):=by show ka (9,N,M,s) bj x.id q.pure=_; unfold ka; rw [show cg (fun x:ci=>x.id) N q.pure.ae=o_ y.toci from HM.I.2.2]; dsimp only; rw [show y.toci.Ma=t0 :: r from tI.I.1]; dsimp only; rw [show q2.pure.L8=(ez t0 x.id q.pure).L8 by rw [ky.I.1]; rfl]; split <;> rename_i h5 <;> rw [h5]
  have Mb:=ij q2 5 N E (by have:=(dW ky.I.2.2.1).1; omega) S.I.fr.own.at;rw [ky.I.2.1] at Mb;obtain ⟨-,o1,-,-⟩:=S.I.op.cells;simp only at o1;go_wp2_with (refine eT _ S.I.fr.box ?_);refine Mb.mono ?_;clear Mb o1;rintro e afP ⟨⟨z,rfl,gV⟩,hb2⟩;replace S:=aA (S.I.reads hb2);clear hb2;rcases pp gV with ⟨hz,hw⟩ | ⟨i,v,hz,hi,hw⟩
  .have HE:bN (ka (9,N,M,s) bj x.id q.pure=bu 0 x.id (cV N r (ez t0 x.id q.pure))):=by show ka (9,N,M,s) bj x.id q.pure=_; rw [HU.I,hw]
   have afO:decide (z>=0)=false:=decide_eq_false zw;clear gV hz hw HU;have Mb:=bB (n:=n) 0 S.I.fr.own S.I.low ky.I.2.2.1 ky.I.2.2.2.1 Zcb;rw [ky.I.1,ky.I.2.1] at Mb;go_wp2_with (refine eT _ S.I.fr.box ?_);refine Mb.mono ?_;clear Mb;rintro e A2 ⟨q3,rfl,hp,ht⟩;replace S:=aA (S.I.call ht);have HP:bN (q3.pure=_):=hp;clear hp ht;go_wp2_with (refine ec _ _ q3.cells S.I.an ?_);refine gZ results185 S.I.an ?_;exact ⟨q3,rfl,HP.I.trans HE.I.symm,S.I.done _⟩
  have HE:bN (ka (9,N,M,s) bj x.id q.pure=bu 0 x.id (gF (fun y=>y) (cV N (r ++ [v.held]) (ez t0 x.id q.pure)) v.toaD)):=by show ka (9,N,M,s) bj x.id q.pure=_; rw [HU.I,hw]
  have HW:bN (jl 5 N q2.pure.L8=o_ v.toaD/\q2.L8[i]? =o_ v/\v.Md=5):=⟨hw,hi,(ft hw).2.1⟩
  subst hz;have afO:decide ((i:Int)>=0)=true:=decide_eq_true zw;clear gV hw hi HU;go_upto_region 21 with fail;clear afO;replace S:=aA (S.I.reads (Kp _ _).drew);obtain ⟨g5,A7,hat⟩:=iA S.I.fr.own.at.2.2.2.2.1 ky.I.2.2.2.2.1;rw [ky.I.2.2.2.2.2.1] at A7;cases A7;obtain ⟨g6,hg6,hap⟩:=cn S.I.fr.own.at.1 HW.I.2.1;rw [ky.I.2.2.2.2.2.2.2] at hg6;cases hg6;have hS0:av afP.drew w.heap.size q/\afP.drew.cell? ⟨gp,i * 12+8,n_⟩=o_ (t_ v.held):=⟨S.I.fr.box,hap.2.2.2.2.2.2.2.2.1⟩
  have c8:afP.drew.cell? ⟨Y5,m * 3+2,n_⟩=o_ (s_ y2.ak y2.Ma.length y2.aq):=hat.2.2;clear hat hap;refine Kr (S:=fun w'=>av w' w.heap.size q/\w'.cell? ⟨gp,i * 12+8,n_⟩=o_ (t_ v.held)) ZbY hS0 (fun bE=> ?_);generalize afP.drew=V3 at *;have k1:(i:Int) < (q.L8.length:Int):=by have h5:=(Lj.1 HW.I.2.1).1; have h6:=congrArg (fun p:aE=>p.L8.length) ky.I.1; simp only [af.pure,KG,cV,ez,ce] at h6; omega
  have k0:(0:Int)<=(i:Int):=zw
  refine agi 0 bE ?_;refine agi 1 bE ?_;refine agi 2 bE ?_;refine agi 3 bE ?_;refine agi 4 bE ?_;refine agi 5 bE ?_;refine agi 6 bE ?_;refine agi 7 bE ?_;refine agi 9 bE ?_;refine agi 10 bE ?_;refine agi 11 bE ?_;refine agi 12 bE ?_;refine agi 13 bE ?_;refine agi 14 bE ?_;clear bE k0 k1;have b1:B_ V3.heap.size V3 (V3.alloc (c_ #[t_ v.held] 9)):=(Kp _ _).alloc (Ki _) _;have iE:=cf S.I.fr.own.ae (g:=Y5) (by rw [ky.I.2.2.2.2.2.1]; simp [blk]);have l9:=cf S.I.fr.own.L8 (g:=gp) (by rw [ky.I.2.2.2.2.2.2.2]; simp [blk]);have cm:av (V3.alloc (c_ #[t_ v.held] 9)) w.heap.size q/\(V3.alloc (c_ #[t_ v.held] 9)).cell? ⟨gp,i * 12+8,n_⟩=o_ (t_ v.held):=⟨S.I.fr.box.below b1,(b1.cell (p:=⟨gp,i * 12+8,n_⟩) l9.2).trans hS0.2⟩
  have c9:World.cell? (V3.alloc (c_ #[t_ v.held] 9)) ⟨Y5,m * 3+2,n_⟩=o_ (s_ y2.ak y2.Ma.length y2.aq):=(b1.cell (p:=⟨Y5,m * 3+2,n_⟩) iE.2).trans c8;refine KW (rs:= [8,15]) ZbY zy ?_;refine KX rfl (fun K hK=> ?_) (KX rfl (fun K hK=> ?_) KY)
  focus
   simp only [KZ,K0,K1];rw [if_pos (by rfl)];go_wp2_with fail;refine hK.out _ _ hS0 (fun bE=> ?_);clear hK K bE
   try simp only [pt,sb,s0,s1]
   refine L7 15 (fun K hK=> ?_);go_wp2_with fail;refine hK.out _ _ cm (fun bE=> ?_);clear hK K bE
   try simp only [pt,sb,s0,s1]
  rotate_left
  focus
   simp only [KZ,K0,K1];rw [if_pos (by rfl)];go_wp2_with fail;refine hK.out _ _ cm (fun bE=> ?_);clear hK K bE
   try simp only [pt,sb,s0,s1]
   refine L7 8 (fun K hK=> ?_);go_wp2_with fail;refine hK.out _ _ cm (fun bE=> ?_);clear hK K bE
   try simp only [pt,sb,s0,s1]
  all_goals
   clear c8 c9;obtain ⟨a8,c8,w8,hap,ho8,hg8,yD⟩:=ou (V3.alloc (c_ #[t_ v.held] 9)) bi y2.ak y2.aq y2.Ma ((S.I.fr.own.below b1).eE y2 (KA ky.I.2.2.2.2.1)) _ [v.held] 1 (jO (Kj _ _)) (by have h5:=tI.I.2.2.2.1; rw [tI.I.1] at h5; rw [HY2.I.1]; simp only [Lg,K4] at h5 ⊢; omega) (by have:=b1.size; have:=S.I.low; omega);have hkb:aI V3 w8 (blk y2.ak):=aI.grown b1 hg8;have hl8:(y2.Ma ++ [v.held]).length=y2.Ma.length+1:=by rw [Lf]; rfl
   simp only [Lg,K4,Li] at hap ho8;rw [<- hl8] at hap ho8;obtain ⟨s1,⟨u,c⟩,f⟩:=mB (n:=m) S.I.fr.own hkb ky.I.2.2.2.2.1 ky.I.2.2.2.2.2.1 ho8 (fun g hg=>(yD g hg).imp_right fun e=>by rw [e]; exact b1.size);rw [hl8] at hap s1;have HL8:bN ((y2.Ma ++ [v.held]).length=y2.Ma.length+1):=hl8;clear hl8;have iH: ∀ g,g∈blk y2.ak->g∈q2.Mc/\g≠Y5/\g≠gp/\Y5≠gp:=fun g hg=>IY S.I.fr.own ky.I.2.2.2.2.1 ky.I.2.2.2.2.2.1 ky.I.2.2.2.2.2.2.2 hg
   have hne:Y5≠gp:=Ig S.I.fr.own ky.I.2.2.2.2.2.1 ky.I.2.2.2.2.2.2.2;have hS8:av w8 w.heap.size q/\w8.cell? ⟨gp,i * 12+8,n_⟩=o_ (t_ v.held):=⟨(hkb.same _ (av.lt S.I.fr.box) fun hm=>S.I.fr.yO (Ki _) zw (iH _ hm).1).trans S.I.fr.box,(J1 (a:=⟨gp,i * 12+8,n_⟩) (hkb.same gp l9.2 fun hm=>(iH _ hm).2.2.1 rfl)).trans hS0.2⟩
   refine L7 16 (fun K hK=> ?_);refine cM _ _ _ rfl _ _ _ w8 rfl rfl hap ?_;refine hK.out _ _ hS8 (fun bE=> ?_);clear hK K bE
   try simp only [pt,sb]
   replace S:=aA (S.I.call s1);clear hap ho8 hg8 yD hkb s1 b1 hS0 cm iH iE l9;refine agi 17 hS8 ?_;refine agi 18 hS8 ?_;have FW:(w8.setCell ⟨Y5,m * 3+2,n_⟩ (s_ a8 (y2.Ma.length+1) c8)).cell? ⟨gp,i * 12+8,n_⟩=o_ (t_ v.held):=(J1 (a:=⟨gp,i * 12+8,n_⟩) (aH hne.symm)).trans hS8.2;refine L7 19 (fun K hK=> ?_);go_wp2_with fail;refine hK.out _ _ ⟨S.I.fr.box,FW⟩ (fun bE=> ?_);clear hK K bE;refine K3 ZbY ?_ _;clear c f u hS8 FW hne;go_upto_region 22 with fail;generalize w8.setCell ⟨Y5,m * 3+2,n_⟩ (s_ a8 (y2.Ma.length+1) c8)=G at *;obtain ⟨q3,IJ⟩: ∃ q3:af,q3= { q2 with ae:=q2.ae.set m { y2 with Ma:=y2.Ma ++ [v.held],ak:=a8,aq:=c8 } } :=⟨_,rfl⟩
   have Ck:bN (q3.pure=cV N (r ++ [v.held]) (ez t0 x.id q.pure)/\q3.cells=q.cells/\aQ q3.pure/\q3.L8[n]? =o_ { x with got:=t0 } /\q3.L8[i]? =o_ v/\q3.next=q.next):=by
    have h5:q3.pure=cV N (r ++ [v.held]) q2.pure:=by rw [IJ,<- HY2.I.1]; exact oN ky.I.2.2.1.ae ky.I.2.2.2.2.1 HY2.I.2.1
    have h6:cV N (r ++ [v.held]) q2.pure=cV N (r ++ [v.held]) (ez t0 x.id q.pure):=by rw [ky.I.1]; exact yY _ _ _ _
    have h7:aQ (cV N (r ++ [v.held]) (ez t0 x.id q.pure)):=by
     rw [<- HQ.I.1];refine gN HQ.I.2.2.1 (fun z hz hk=> ?_) (fun u hu=> ?_)
     .rw [HB.I.2.2.2.1] at hz; rw [only HR.I.1.ae HM.I.2.2 hz hk]; have h7:=tI.I.2.2.2.2; rw [tI.I.1] at h7; have h8:y.toci.max=y.max:=rfl; simp only [Lg,Lf,K4] at h7 ⊢; omega
     .exact (Kg.1 hu).elim (fun hu=>tI.I.2.2.1 u hu) (fun hu=>by simp only [Kt,Ku,or_false] at hu; rw [hu]; have h8:=iF (ky.I.2.2.1.proc (iu HW.I.2.1)).2.1; unfold jY at h8; simp only [J7] at h8; exact h8.1.1.2)
    exact ⟨by rw [h5,h6],by rw [IJ]; exact Eq.trans (by unfold af.cells; simp) ky.I.2.1,by rw [h5,h6]; exact h7,by rw [IJ]; exact ky.I.2.2.2.1,by rw [IJ]; exact HW.I.2.1,by rw [IJ]; exact ky.I.2.2.2.2.2.2.1⟩
   rw [<- IJ] at S;clear IJ HL8;have Mb:=lP (n:=i) S.I.fr.own S.I.low Ck.I.2.2.1 Ck.I.2.2.2.2.1 Zcg (by rw [Ck.I.2.2.2.2.2]; have:=HR.I.2.2.2.1; omega);rw [Ck.I.1,Ck.I.2.1] at Mb;go_wp2_with (refine eT _ S.I.fr.box ?_);refine Mb.mono ?_;clear Mb;rintro e G2 ⟨q4,rfl,hp,ht⟩;replace S:=aA (S.I.call ht);rw [<- Ck.I.1] at hp;obtain ⟨hr4,x4,hx4,sw⟩:=qp Ck.I.2.2.1 Ck.I.2.2.2.1 HR.I.2.2.1 Ck.I.2.2.2.2.1 Zcg Zcg (.inl rfl) (by rw [Ck.I.2.2.2.2.2]; have:=HR.I.2.2.2.1; omega) hp;have S2:=aA S.I.put;go_upto_region 23 with (refine ec _ _ q4.cells S.I.fr.box ?_);generalize G2.setRow w.heap.size q4.cells=G3 at *;clear S;have S:=S2;clear S2;have Mb:=bB (n:=n) 0 S.I.fr.own S.I.low hr4 hx4 (by rw [show x4.Md=x.Md by have h5:=congrArg aD.Md sw; exact h5,HR.I.2.2.1]; decide);rw [show x4.id=x.id by have h5:=congrArg aD.id sw; exact h5,hp,Ck.I.1,<- HE.I] at Mb;clear hp ht hr4 hx4 sw;go_wp2_with (refine eT _ S.I.fr.box ?_);refine Mb.mono ?_;clear Mb;rintro e G32 ⟨q5,rfl,hp,ht⟩;replace S:=aA (S.I.call ht);have HP:bN (q5.pure=_):=hp;clear hp ht;go_wp2_with (refine ec _ _ q5.cells S.I.an ?_);refine gZ results185 S.I.an ?_;exact ⟨q5,rfl,HP.I,S.I.done _⟩
end Go.Proofs.YtckenjkcmajicaaGreat

namespace Go.Proofs.YtckenjkcmajicaaGreat
open Go.RowKit Go.Maps
attribute [local go_sem ↓] Kc Kd
theorem Aa {p:aE} {y:aD} {N:Int} (h:aQ p) (hf:cg (fun x:aD=>x.id) N p.L8=o_ y) (h0:y.Md=0) (hn:p.next<=999999990):aQ (py N p):=by
 have hnx:=bz.1 h.next;refine h.ju (nx:=p.next+1) (f:=fun y=> { y with Md:=1,RU:=p.next }) (fun _=>rfl) ⟨zw,zw⟩ fun z hz hi=> ?_
 have e:=only h.L8 hf hz hi;subst e;obtain ⟨-,q1,q2,q3⟩:=h.proc hz;have q4:=iF q1;rw [fG,J7] at q1;have q5:=q1.2;unfold bO at q5;rw [if_pos h0] at q5;simp only [J7,decide_eq_true_eq] at q5;obtain ⟨⟨⟨⟨⟨a1,a2⟩,a3⟩,a4⟩,a5⟩,a6⟩:=q5;have q6:jm z.prog=true:=by
  unfold jY at q4;simp only [J7] at q4;exact q4.1.1.1.2
 refine ⟨?_,?_,rfl,.inr (.inr rfl)⟩
 .exact ZaU
 .unfold fF
  rw [Kb];exact Zaw
theorem sP {q q2:af} {n:Nat} {k nx:Int} {x:ao} {f:aD->aD} (hx:q.L8[n]? =o_ x) (hk: ¬ x.id=k) (hp:q2.pure= { q.pure with next:=nx,L8:=ce k f q.pure.L8 }): ∃ x2,q2.L8[n]? =o_ x2/\x2.toaD=x.toaD:=
 tQ (by rw [hp]; exact ym (mj hx) hk)
theorem A0 {q q2:af} {n:Nat} {N:Int} {x:ao} {y:aD} (hr:aQ q.pure) (hx:q.L8[n]? =o_ x) (hs:x.Md=1) (hf:cg (fun x:aD=>x.id) N q.pure.L8=o_ y) (h0:y.Md=0) (hn:q.next<=999999990) (hp:q2.pure=py N q.pure):
  aQ q2.pure/\ ∃ x2,q2.L8[n]? =o_ x2/\x2.toaD=x.toaD:=by
 refine ⟨by rw [hp]; exact Aa hr hf h0 hn,sP hx (fun e=> ?_) hp⟩
 have:=only hr.L8 hf (iu hx) e
 rw [<- this] at h0;have h2:x.toaD.Md=1:=hs;omega
theorem BU (q:af) (n bi:Nat) (x:ao) (o:dN) (w:w_) (h:ap w bi q) (hb:bi<=w.heap.size) (hr:aQ q.pure) (hx:q.L8[n]? =o_ x) (hs:x.Md=1) (hn:q.next<=999999990) (ho:kc o=true) (hk:o.1=15):
  k_ J3 188 #[a_ q.cells,i_ j_ n,a_ (j9 o)] w (jH w bi q (jU o x.id q.pure)):=by
 obtain ⟨-,f1,f2,f3,f4⟩:=dv ho;have hM:=bz.1 f2;obtain ⟨k,N,M,s⟩:=o;simp only at hk hM f1 f3 f4;subst hk;have HR:bN (aQ q.pure/\q.L8[n]? =o_ x/\x.Md=1/\q.next<=999999990/\(-1<=M/\M<=1000)):=⟨hr,hx,hs,hn,hM⟩
 have HF:=aA (dW hr);clear f2 hr hx hs hn hM ho;have S:=aA (Xf.start (o:=(15,N,M,s)) h hb);clear h hb
 go_enter func188,ntmps188
 go_upto_region 1 with fail;generalize ((w.alloc (c_ q.cells 46)).alloc (c_ (j9 (15,N,M,s)) 217)).alloc (c_ ar 46)=A at *;obtain ⟨-,o1,-,-⟩:=S.I.op.cells;simp only at o1;have hpf:=ef (num:=fun x:ao=>x.id) N q.L8 0;have Mb:=lS q N A Zb4 S.I.fr.own.at;generalize place (q.L8.map (fun x=>x.id)) N 0=z at *;go_wp2_with (refine eT _ S.I.fr.box ?_);refine Mb.mono ?_;clear Mb;rintro e A2 ⟨rfl,hb2⟩;replace S:=aA (S.I.reads hb2);clear hb2 o1;have hfm:=lJ (num:=fun x:aD=>x.id) (je:=fun x:ao=>x.id) (g:=fun x:ao=>x.toaD) (fun _=>rfl) (id:=N) q.L8;rcases hpf with ⟨hz,hf⟩ | ⟨m,y,hz,hm,hid,hf⟩
 .subst hz
  rw [hf] at hfm;have HE:bN (jU (15,N,M,s) x.id q.pure=bu 3 x.id q.pure):=by show jU (15,N,M,s) x.id q.pure=_; unfold jU; rw [show cg (fun x:aD=>x.id) N q.pure.L8=n_ from hfm]
  exact ZbW
 rw [hf] at hfm;rw [Li] at hz;subst hz;have afO:decide ((m:Int) < 0)=false:=decide_eq_false zw;have HM:bN (q.L8[m]? =o_ y/\y.id=N/\cg (fun x:aD=>x.id) N q.pure.L8=o_ y.toaD):=⟨hm,hid,hfm⟩
 have hml:=(Lj.1 hm).1;have j0:(0:Int)<=(m:Int):=zw
 have j1:(m:Int) < (q.L8.length:Int):=zw
 obtain ⟨gp,l9,hat⟩:=cn S.I.fr.own.at.1 hm;have HG:bN (q.aN=o_ ⟨gp,0,n_⟩):=l9;obtain ⟨o0,-,-,-⟩:=S.I.op.cells;simp only at o0;have m2:=S.I.fr.box.cells.2.2.1;rw [l9] at m2;have d3:=hat.2.2.2.1;clear hm hid hf hfm hml hat l9;by_cases h0:y.Md=0;rotate_left
 .have e1:(y.Md == 0)=false:=by simp [h0]
  have HE:bN (jU (15,N,M,s) x.id q.pure=bu 1 x.id q.pure):=by show jU (15,N,M,s) x.id q.pure=_; unfold jU; rw [show cg (fun x:aD=>x.id) N q.pure.L8=o_ y.toaD from HM.I.2.2]; exact if_neg h0
  exact ZbX
 have e1:(y.Md == 0)=true:=by simp [h0]
 have HE:bN (jU (15,N,M,s) x.id q.pure=bu 0 x.id (py N q.pure)):=by show jU (15,N,M,s) x.id q.pure=_; unfold jU; rw [show cg (fun x:aD=>x.id) N q.pure.L8=o_ y.toaD from HM.I.2.2]; exact if_pos h0
 have HN:bN (y.Md=0):=h0;clear h0;obtain ⟨s1,⟨u,c⟩,f⟩:=eY (n:=m) (j:=3) (v:=i_ j_ 1) (y:= { y with Md:=1 }) S.I.fr.own HM.I.1 HG.I ⟨rfl,rfl,rfl⟩ (by decide) rfl;replace S:=aA (S.I.call s1);clear s1;go_upto_region 9 with fail;generalize A2.setCell ⟨gp,m * 12+3,n_⟩ (i_ j_ 1)=C at *;clear m2 d3 c f u afO e1 o0 j0 j1;have hq:({ q with L8:=q.L8.set m { y with Md:=1 } } :af).pure= { q.pure with next:=q.next,L8:=ce y.id (fun z=> { z with Md:=1 }) q.pure.L8 } :=g7 (nx:=q.next) HR.I.1.kW HM.I.1 rfl;have Mb:=oT (n:=m) (x:= { y with Md:=1 }) S.I.fr.own S.I.low (us HR.I.1.kW HM.I.1 rfl) (by show (q.L8.set m _)[m]? =_; rw [LU (Lj.1 HM.I.1).1]) ⟨by have h5:=bz.1 HR.I.1.next; have:q.pure.next=q.next:=rfl; show 0<=q.next; omega,by have:=HR.I.2.2.2.1; show q.next<=_; omega⟩;rw [jd (nx:=q.next),hq] at Mb;have HS:bN ({ q.pure with next:=q.next+1,L8:=ce y.id (fun z=> { z with RU:=q.next }) (ce y.id (fun z=> { z with Md:=1 }) q.pure.L8) } =py N q.pure):=by show _=py N q.pure; rw [pm (by intro _; rfl),HM.I.2.1]; rfl
 clear hq;go_wp2_with (refine eT _ S.I.fr.box ?_);refine Mb.mono ?_;clear Mb;rintro e afl ⟨q2,rfl,hp,ht⟩;replace S:=aA (S.I.call ht);replace hp:=hp.trans HS.I;obtain ⟨hr2,x2,hx2,sw⟩:=A0 HR.I.1 HR.I.2.1 HR.I.2.2.1 HM.I.2.2 HN.I HR.I.2.2.2.1 hp;have Mb:=bB (n:=n) 0 S.I.fr.own S.I.low hr2 hx2 Zb5;rw [show x2.id=x.id from congrArg aD.id sw,hp,<- HE.I] at Mb;clear hp ht hr2 hx2 sw;go_wp2_with fail;refine Mb.mono ?_;clear Mb;rintro e C22 ⟨q3,rfl,hp,ht⟩;replace S:=aA (S.I.call ht);have HP:bN (q3.pure=_):=hp;clear hp ht;go_wp2_with (refine ec _ _ q3.cells S.I.an ?_);refine gZ results188 S.I.an ?_;exact ⟨q3,rfl,HP.I,S.I.done _⟩
theorem C9 (q:af) (n bi:Nat) (x:ao) (o:dN) (w:w_) (h:ap w bi q) (hb:bi<=w.heap.size) (hr:aQ q.pure) (hx:q.L8[n]? =o_ x) (hs:x.Md=1) (hn:q.next<=999999990) (ho:kc o=true) (hk:o.1=16):
  k_ J3 188 #[a_ q.cells,i_ j_ n,a_ (j9 o)] w (jH w bi q (lg o x.id q.pure)):=by
 obtain ⟨-,f1,f2,f3,f4⟩:=dv ho;have hM:=bz.1 f2;obtain ⟨k,N,M,s⟩:=o;simp only at hk hM f1 f3 f4;subst hk;have HR:bN (aQ q.pure/\q.L8[n]? =o_ x/\x.Md=1/\q.next<=999999990/\(-1<=M/\M<=1000)):=⟨hr,hx,hs,hn,hM⟩
 have HF:=aA (dW hr);clear f2 hr hx hs hn hM ho;have S:=aA (Xf.start (o:=(16,N,M,s)) h hb);clear h hb
 go_enter func188,ntmps188
 go_upto_region 1 with fail;generalize ((w.alloc (c_ q.cells 46)).alloc (c_ (j9 (16,N,M,s)) 217)).alloc (c_ ar 46)=A at *;obtain ⟨-,o1,-,-⟩:=S.I.op.cells;simp only at o1;have hpf:=ef (num:=fun x:ao=>x.id) N q.L8 0;have Mb:=lS q N A Zb4 S.I.fr.own.at;generalize place (q.L8.map (fun x=>x.id)) N 0=z at *;go_wp2_with (refine eT _ S.I.fr.box ?_);refine Mb.mono ?_;clear Mb;rintro e A2 ⟨rfl,hb2⟩;replace S:=aA (S.I.reads hb2);clear hb2 o1;have hfm:=lJ (num:=fun x:aD=>x.id) (je:=fun x:ao=>x.id) (g:=fun x:ao=>x.toaD) (fun _=>rfl) (id:=N) q.L8;rcases hpf with ⟨hz,hf⟩ | ⟨m,y,hz,hm,hid,hf⟩
 .subst hz
  rw [hf] at hfm;have HE:bN (lg (16,N,M,s) x.id q.pure=bu 3 x.id q.pure):=by show lg (16,N,M,s) x.id q.pure=_; unfold lg; rw [show cg (fun x:aD=>x.id) N q.pure.L8=n_ from hfm]
  exact ZbW
 rw [hf] at hfm;rw [Li] at hz;subst hz;have afO:decide ((m:Int) < 0)=false:=decide_eq_false zw;have HM:bN (q.L8[m]? =o_ y/\y.id=N/\cg (fun x:aD=>x.id) N q.pure.L8=o_ y.toaD):=⟨hm,hid,hfm⟩
 have hml:=(Lj.1 hm).1;have j0:(0:Int)<=(m:Int):=zw
 have j1:(m:Int) < (q.L8.length:Int):=zw
 obtain ⟨gp,l9,hat⟩:=cn S.I.fr.own.at.1 hm;have HG:bN (q.aN=o_ ⟨gp,0,n_⟩):=l9;obtain ⟨o0,-,-,-⟩:=S.I.op.cells;simp only at o0;have m2:=S.I.fr.box.cells.2.2.1;rw [l9] at m2;have d3:=hat.2.2.2.1;clear hm hid hf hfm hml hat l9;by_cases h0:y.Md=0
 .have e1:(y.Md == 0)=true:=by simp [h0]
  have HE:bN (lg (16,N,M,s) x.id q.pure=bu 1 x.id q.pure):=by show lg (16,N,M,s) x.id q.pure=_; unfold lg; rw [show cg (fun x:aD=>x.id) N q.pure.L8=o_ y.toaD from HM.I.2.2]; exact if_pos h0
  exact ZbX
 have e1:(y.Md == 0)=false:=by simp [h0]
 have HE:bN (lg (16,N,M,s) x.id q.pure=if N=x.id then ot x.id q.pure else bu 0 x.id (ot N q.pure)):=by show lg (16,N,M,s) x.id q.pure=_; unfold lg; rw [show cg (fun x:aD=>x.id) N q.pure.L8=o_ y.toaD from HM.I.2.2]; exact if_neg h0
 clear h0;go_upto_region 10 with fail;clear m2 d3 afO e1 o0;replace S:=aA (S.I.reads (Kp _ _).drew);have HT:bN (∀ w1,Xf w bi q q q (16,N,M,s) w1->Ba w.heap.size gp m q y w1):=fun w1 h1=>by
  obtain ⟨g,hg,hat⟩:=cn h1.fr.own.at.1 HM.I.1;rw [HG.I] at hg;cases hg;exact ⟨h1.m2 HG.I,hat⟩
 refine eD (fun w1=>Ba w.heap.size gp m q y w1/\bN (Xf w bi q q q (16,N,M,s) w1)) 10 ZbY ⟨HT.I _ S.I,S⟩ ?_;clear S
 iterate 8 (refine ly 11 (v:= ?_) (o_ _) rfl rfl ZbY (fun _ _ _ h=>h) (bV ZbY ?_) ?_; rotate_left; (intro w0 hS0; obtain ⟨⟨o2,d0,d1,d2,d3,d4,d5,d6,d7,d8,d9,tH,tS⟩,hH⟩:=hS0; go_simp; try with_reducible rfl); simp only [pt,sb,s0,s1])
 refine ly 11 (v:=a_ (sy y)) (o_ _) rfl rfl ZbY (fun _ _ _ h=>h) (iZ (f:=189) (args:= #[a_ y.row]) ZbY ?_ ?_) ?_
 .intro w0 hS0
  obtain ⟨⟨o2,d0,d1,d2,d3,d4,d5,d6,d7,d8,d9,tH,tS⟩,hH⟩:=hS0
  exact ww
 .intro w0 hS0
  refine (mN y w0).mono ?_;rintro e w2 ⟨rfl,hb2⟩;have h6:=aA (hS0.2.I.reads hb2);exact ⟨rfl,HT.I _ h6.I,h6⟩
 simp only [pt,sb,s0,s1]
 (refine ly 11 (v:= ?_) (o_ _) rfl rfl ZbY (fun _ _ _ h=>h) (bV ZbY ?_) ?_; rotate_left; (intro w0 hS0; obtain ⟨⟨o2,d0,d1,d2,d3,d4,d5,d6,d7,d8,d9,tH,tS⟩,hH⟩:=hS0; go_simp; try with_reducible rfl); simp only [pt,sb,s0,s1])
 refine fL rfl ZbY ZbY ZbY ?_;intro B cm;have S:=cm.2;obtain ⟨oC,hto⟩:=GC S.I.fr.own HM.I.1 HG.I;clear cm HT;replace S:=aA (S.I.call hto);clear hto;refine wp_store_mid 125 _ _ rfl gp (m * 12) (sy y) rfl rfl oC ZbY ZbY ?_;generalize B.setCells gp (m * 12) (sy y).toList=C at *;clear oC;obtain ⟨q1,hq1⟩: ∃ q1:af,q1= { q with L8:=q.L8.set m (sW y) } :=⟨_,rfl⟩
 have HQ:bN (q1.pure=ot N q.pure/\q1.cells=q.cells/\aQ q1.pure):=by
  have hq:q1.pure=ot N q.pure:=by rw [hq1,<- HM.I.2.1]; exact g7 (nx:=q.next) HR.I.1.kW HM.I.1 rfl
  exact ⟨hq,by rw [hq1]; exact jd (nx:=q.next),by rw [hq]; exact nG HR.I.1⟩
 rw [<- hq1] at S;clear hq1;have k1:=(Lj.1 HR.I.2.1).1;by_cases hmn:m=n
 .have e2:((m:Int) == (n:Int))=true:=by simp [hmn]
  have HT:bN (q1.pure=lg (16,N,M,s) x.id q.pure):=by
   have e:y=x:=by have h5:=HM.I.1; rw [hmn,HR.I.2.1] at h5; exact (KC h5).symm
   have hN:N=x.id:=by rw [<- HM.I.2.1,e]
   show q1.pure=_
   rw [HE.I,if_pos hN,HQ.I.1,hN]
  clear hmn k1;go_wp2_with (first | (refine eT _ S.I.fr.box ?_) | (refine ec _ _ q.cells S.I.an ?_));refine gZ results188 S.I.an ?_;exact ⟨q1,by rw [HQ.I.2.1],HT.I,S.I.done _⟩
 have e2:((m:Int) == (n:Int))=false:=by simp; omega
 have hne: ¬ x.id=N:=fun e=>by
  have h5:=only HR.I.1.L8 HM.I.2.2 (iu HR.I.2.1) e;have h6:=HR.I.1.kW;rw [P8] at h6;obtain ⟨i1,i2⟩:=Lj.1 (mj HR.I.2.1);obtain ⟨i3,i4⟩:=Lj.1 (mj HM.I.1);rcases P9 m n with hlt | heq | hgt
  .have:=h6 m n i3 i1 hlt; rw [i2,i4,h5] at this; omega
  .exact hmn heq
  .have:=h6 n m i1 i3 hgt; rw [i2,i4,h5] at this; omega
 have HT:bN (lg (16,N,M,s) x.id q.pure=bu 0 x.id (ot N q.pure)):=HE.I.trans (if_neg fun e=>hne e.symm);obtain ⟨x2,hx2,sw⟩:=sP (nx:=q.pure.next) (f:=j7) HR.I.2.1 hne HQ.I.1;have Mb:=bB (n:=n) 0 S.I.fr.own S.I.low HQ.I.2.2 hx2 Zb5;rw [show x2.id=x.id from congrArg aD.id sw,HQ.I.1,HQ.I.2.1,<- HT.I] at Mb;clear hmn hne hx2 sw k1;go_wp2_with (refine eT _ S.I.fr.box ?_);refine Mb.mono ?_;clear Mb;rintro e A2 ⟨q2,rfl,hp,ht⟩;replace S:=aA (S.I.call ht);have HP:bN (q2.pure=_):=hp;clear hp ht;go_wp2_with (refine ec _ _ q2.cells S.I.an ?_);refine gZ results188 S.I.an ?_;exact ⟨q2,rfl,HP.I,S.I.done _⟩
end Go.Proofs.YtckenjkcmajicaaGreat
