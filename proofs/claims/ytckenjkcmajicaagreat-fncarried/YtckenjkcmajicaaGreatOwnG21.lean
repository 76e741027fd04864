/- What the proof leans on, part 21. -/
import Derived.Test.YtckenjkcmajicaaGreatOwnG17
import Derived.Test.YtckenjkcmajicaaGreatOwnG18
import Derived.Test.YtckenjkcmajicaaGreatOwnG19
set_option linter.all false
set_option maxRecDepth 100000
set_option maxHeartbeats 8000000
open Go.Proofs.Tryz
open Go renaming World->w_,Value->v_,Calls->k_,Addr->d_,below_setRow->q_
open Go.Ending renaming returned->r_
open Go.IntKind renaming i64->j_
open Go.Obj renaming cells->c_
open Go.RowKit renaming Below->B_,Hid->da
open Go.Value renaming int->i_,slice->s_,bool->b_,string->t_,agg->a_
open Option renaming some->o_,none->n_
open Function renaming comp_def->Ls
open Go.Proofs.Tryz renaming prog->J3
open List renaming getElem_cons_succ->K1,getElem_cons_zero->K0,getElem_toArray->KZ,length_cons->Lg,length_nil->K4

namespace Go.Proofs.YtckenjkcmajicaaGreat
section
open Go.RowKit Go.Maps
attribute [local go_sem ↓] Go.wp_at_zero Go.wp_at_succ
theorem yY (N:Int)(l k:List ByteArray)(p:aE):cV N l (cV N k p)=cV N l p:=by
 unfold cV jP;simp only[Lv]
 congr 1
 refine Lw λz _=>?_
 simp only[Ls];by_cases h:z.id=N<;>simp[h]
theorem Ig {W:w_}{bj Y5 gp:Nat}{q:af}(h:ap W bj q)(iE:q.am=o_ ⟨Y5,0,n_⟩)(l9:q.aN=o_ ⟨gp,0,n_⟩):Y5≠gp:=by
 have h1:=h.nodup;unfold af.Mc at h1;obtain⟨-,-,h3⟩:=Kf.1 h1;exactλe=>h3 gp Zfj Y5 (by simp only[Kg];exact .inr (.inr (.inr (.inr (.inl (by rw[iE];simp[blk])))))) e.symm
theorem C0:aq4 185 9 ka:=by
 refine aqf λq n bj x bE N M s w f1 f3 f4 HR HF S=>?_
 go_enter func185,ntmps185
 go_upto_region 1 with fail;generalize((w.alloc (c_ q.cells 46)).alloc (c_ (j9 (9,N,M,s)) 217)).alloc (c_ ar 46)=A at*;obtain⟨-,o1,-,-⟩:=S.I.op.cells;simp only at o1;have hpf:=ef (num:=λx:au=>x.id) N q.ae 0;have Mb:=lr q N A ZbX S.I.fr.own.at;generalize place (q.ae.map (λx=>x.id)) N 0=z at*;go_wp2_with(refine eT _ S.I.fr.box ?_);refine Mb.mono ?_;clear Mb;rintro e A2 ⟨rfl,hb2⟩;replace S:=aA (S.I.reads hb2);clear hb2 o1;have hfm:=lJ (num:=λx:ci=>x.id) (je:=λx:au=>x.id) (g:=λx:au=>x.toci) (λ_=>rfl) (id:=N) q.ae;rcases hpf with⟨hz,hf⟩|⟨m,y,hz,hm,hid,hf⟩
 .subst hz
  rw[hf]at hfm;have HE:da (ka (9,N,M,s) bE x.id q.pure=bu 3 x.id q.pure):=by show ka (9,N,M,s) bE x.id q.pure=_;unfold ka;rw[show cg (λx:ci=>x.id) N q.pure.ae=n_ from hfm]
  exact ZbD
 rw[hf]at hfm;rw[Li]at hz;subst hz;have afO:decide ((m:Int)<0)=false:=decide_eq_false zw;have HM:da (q.ae[m]? =o_ y/\y.id=N/\cg (λx:ci=>x.id) N q.pure.ae=o_ y.toci):=⟨hm,hid,hfm⟩
 have hml:=(Lj.1 hm).1;have j0:(0:Int)<=(m:Int):=zw
 have j1:(m:Int)<(q.ae.length:Int):=zw
 clear hm hid hf hfm hml;obtain⟨Y5,iE,hat⟩:=iA S.I.fr.own.at.2.2.2.2.1 HM.I.1;have m6:=S.I.fr.box.cells.2.2.2.2.2.2.1;rw[iE]at m6;have d0:=hat.1;have d1:=hat.2.1;have d2:=hat.2.2;have HG:da (q.am=o_ ⟨Y5,0,n_⟩):=iE;clear hat iE;have h5:=(Kp A2.heap.size A2).alloc (Ki _) (c_ #[i_ j_ y.id,i_ j_ y.max,s_ y.ak y.Ma.length y.aq] 137);have afa:da ((A2.alloc (c_ #[i_ j_ y.id,i_ j_ y.max,s_ y.ak y.Ma.length y.aq] 137)).heap[A2.heap.size]? =o_ (c_ #[i_ j_ y.id,i_ j_ y.max,s_ y.ak y.Ma.length y.aq] 137)/\w.heap.size+3<=A2.heap.size):=⟨Kj _ _,S.I.fr.sz.2.1⟩
 replace S:=aA (S.I.reads h5);clear h5;go_upto_region 5 with fail;generalize A2.alloc (c_ #[i_ j_ y.id,i_ j_ y.max,s_ y.ak y.Ma.length y.aq] 137)=B at*;generalize A2.heap.size=X at*;clear m6 d0 d1 d2 afO;obtain⟨o0,-,-,-⟩:=S.I.op.cells;simp only at o0;have x2:B.cell? ⟨X,2,n_⟩=o_ (s_ y.ak y.Ma.length y.aq):=Zcj
 have HF4:=aA (f4 (by decide) (by decide) (by decide));clear f1 f3 f4;cases hit:y.Ma with
 |nil=>
  rw[hit]at x2;have HE:da (ka (9,N,M,s) bE x.id q.pure=mX 6 (9,N,M,s) bE x.id (ez rM x.id q.pure)):=by show ka (9,N,M,s) bE x.id q.pure=_;unfold ka;rw[show cg (λx:ci=>x.id) N q.pure.ae=o_ y.toci from HM.I.2.2];dsimp only;rw[show y.toci.Ma=[]from hit]
  clear afa hit;go_upto_region 15 with fail;clear x2 o0;obtain⟨gp,l9,-⟩:=cn S.I.fr.own.at.1 HR.I.2.1;have m2:=S.I.fr.box.cells.2.2.1;have k1:(n:Int)<(q.L8.length:Int):=ZdB
  have k0:(0:Int)<=(n:Int):=zw
  rw[l9]at m2;obtain⟨s1,⟨u,c⟩,f⟩:=eY (n:=n) (j:=9) (v:=t_ ⟨#[]⟩) (y:={x with got:=rM}) S.I.fr.own HR.I.2.1 l9 ⟨rfl,rfl,rfl⟩ (by decide) rfl;replace S:=aA (S.I.call s1);clear s1 l9;go_upto_region 16 with fail;generalize B.setCell ⟨gp,n*12+9,n_⟩ (t_ ⟨#[]⟩)=C at*;clear m2 c f u k0 k1;obtain⟨q1,hq1,hq⟩:=kg HR.I.1 HR.I.2.1 jX;have HB:da (q1.next=q.next):=by rw[hq1];exact rfl
  rw[<-hq1]at S;have HQ:=aA hq;clear hq1 hq;have Mb:=oR q1 n bj {x with got:=rM} 6 bE (9,N,M,s) C S.I.fr.own S.I.low HQ.I.2.2.1 HQ.I.2.2.2 Zcd (by have:=HR.I.2.2.2.1;rw[HB.I];omega) HR.I.2.2.2.2.1 HR.I.2.2.2.2.2;rw[HQ.I.1,HQ.I.2.1]at Mb;go_wp2_with(first|(refine eT _ S.I.fr.box ?_)|(refine LS rfl 217 (.tmp 6) rfl (w.heap.size+1) (by rfl) 217 (j9 (9,N,M,s)) (0,0) _ S.I.op underlying217 rfl ZbG ?_));exact Zbi
 |cons t0 r=>
  have tI:da (y.Ma=t0::r/\bw t0=true/\(∀u∈r,bw u=true)/\y.Ma.length<=5/\(y.Ma.length:Int)<=y.max):=by
   have h5:=(ji (o:=(9,N,M,s)) HR.I.1 HM.I.2.2).2.2;have h6:=uJ HR.I.1 (Lr.2 ⟨y,KA HM.I.1,rfl⟩);have h7:y.toci.Ma=y.Ma:=rfl;have h8:y.toci.max=y.max:=rfl;rw[h7]at h5;exact⟨hit,h5.2 t0 Zd0,λu hu=>h5.2 u (by rw[hit];simp[hu]),zw,by rw[<-h8];exact h5.1⟩
  have il:(0:Int)<(y.Ma.length:Int):=Zd0
  have il3:0<y.Ma.length:=Zd0
  have il4:¬y.Ma.length=0:=zw
  have il2:((y.Ma.length:Int)==0)=false:=by rw[hit];simp;omega
  clear hit;go_upto_region 17 with fail;clear x2 o0 il2;replace afa:da (B.drew.heap[X]? =o_ (c_ #[i_ j_ y.id,i_ j_ y.max,s_ y.ak y.Ma.length y.aq] 137)/\w.heap.size+3<=X):=afa.I;replace S:=aA (S.I.reads (Kp _ _).drew);refine eD (λw1=>w1=B.drew) 9 ZbG rfl ?_;generalize B.drew=C at*;have HG1:=aA (kg HR.I.1 HR.I.2.1 tI.I.2.1);have x2:C.cell? ⟨X,2,n_⟩=o_ (s_ y.ak y.Ma.length y.aq):=Zcj
  obtain⟨abo,hgi,x3⟩:=zl (lj S.I.fr.own.at.2.2.2.2.1 HM.I.1) (show y.Ma[0]? =o_ t0 by rw[tI.I.1];rfl);rw[hgi]at x2;obtain⟨gp,l9,-⟩:=cn S.I.fr.own.at.1 HR.I.2.1;have m2:=S.I.fr.box.cells.2.2.1;have k1:(n:Int)<(q.L8.length:Int):=ZdB
  have k0:(0:Int)<=(n:Int):=zw
  rw[l9]at m2;have ud:da (q.aN=o_ ⟨gp,0,n_⟩):=l9;obtain⟨s1,⟨u,c⟩,f⟩:=eY (n:=n) (j:=9) (v:=t_ t0) (y:={x with got:=t0}) S.I.fr.own HR.I.2.1 l9 ⟨rfl,rfl,rfl⟩ (by decide) rfl;have lW:(C.setCell ⟨gp,n*12+9,n_⟩ (t_ t0)).heap[X]? =o_ (c_ #[i_ j_ y.id,i_ j_ y.max,s_ y.ak y.Ma.length y.aq] 137):=(aH (λe=>by have h5:=(S.I.fr.lo gp (gD (.inl Zfj))).2;have:=afa.I.2;omega)).trans afa.I.1;replace S:=aA (S.I.call s1);replace afa:=aA (And.intro lW afa.I.2);clear s1 l9 hgi lW
  iterate 9 (refine ly 10 (v:=?_) (o_ _) rfl rfl ZbG (λ_ _ _ h=>h) (bV ZbG ?_) ?_;rotate_left;(intro w0 hS0;subst hS0;go_simp;try with_reducible rfl);simp only[pt,sb,s0,s1])
  refine fL rfl ZbG ZbG ZbG ?_;intro w1 cm;rw[cm];clear cm w1
  go_simp
  generalize C.setCell ⟨gp,n*12+9,n_⟩ (t_ t0)=D at*;clear m2 x2 x3 c f u k0 k1 il il3 il4;obtain⟨q1,hq1,hq⟩:=HG1.I;have HB:da (q1.ae=q.ae/\q1.next=q.next/\q1.am=q.am/\q1.pure.ae=q.pure.ae/\q1.aN=q.aN):=by rw[hq1];exact⟨rfl,rfl,rfl,rfl,rfl⟩
  rw[<-hq1]at S;have HQ:=aA hq;clear hq1 hq HG1;go_upto_region 18 with fail;replace S:=aA (S.I.reads (Kp _ _).drew);replace afa:da (D.drew.heap[X]? =o_ (c_ #[i_ j_ y.id,i_ j_ y.max,s_ y.ak y.Ma.length y.aq] 137)/\w.heap.size+3<=X):=afa.I;refine Kr (S:=λw'=>av w' w.heap.size q/\w'.heap[X]? =o_ (c_ #[i_ j_ y.id,i_ j_ y.max,s_ y.ak y.Ma.length y.aq] 137)) ZbG ⟨S.I.fr.box,afa.I.1⟩ (λbN=>?_);generalize D.drew=V2 at*;have il:(1:Int)<=(y.Ma.length:Int):=by rw[tI.I.1];simp;omega
  have af5:(y.Ma.length:Int)<=(y.aq:Int):=by have h5:y.Ma.length<=y.aq:=nV (S.I.fr.own.eE y (by rw[HB.I.1];exact KA HM.I.1));omega
  have ic2:(1:Int)<=(y.aq:Int):=zw
  obtain⟨afs,hTA⟩:∃afs:Option d_,(if y.aq=1 then y.ak else Option.map (λx:d_=>(⟨x.block,x.off+1,n_⟩:d_)) y.ak)=afs:=⟨_,rfl⟩
  refine agi 0 bN ?_;refine agi 1 bN ?_;refine agi 2 bN ?_;refine agi 4 bN ?_;refine agi 5 bN ?_;refine agi 6 bN ?_;clear bN il af5 ic2;have GO:da (q1.ae[m]? =o_ y):=by rw[HB.I.1];exact HM.I.1
  have lW:=(J2.1 afa.I.1).1;have hS:∀W,B_ V2.heap.size V2 W->av W w.heap.size q/\W.heap[X]? =o_ (c_ #[i_ j_ y.id,i_ j_ y.max,s_ y.ak y.Ma.length y.aq] 137):=λW hb=>⟨S.I.fr.box.below hb,(hb.block _ lW).trans afa.I.1⟩
  have b1:B_ V2.heap.size V2 (V2.alloc (c_ #[] 9)):=(Kp _ _).alloc (Ki _) _;refine L7 3 (λK hK=>?_);go_wp2_with fail;refine hK.out _ _ (hS _ b1) (λbN=>?_);clear hK K bN
  try simp only[pt,sb,s0,s1]
  have hlr:y.Ma.length-1=r.length:=by rw[tI.I.1];rfl
  have pI:y.Ma.drop 1=r:=by rw[tI.I.1];rfl
  have hsrc:=vg (c:=y.aq) (nV (S.I.fr.own.eE y (KA GO.I))) (lj (S.I.fr.own.below b1).at.2.2.2.2.1 GO.I);rw[hTA]at hsrc;obtain⟨a7,c7,w7,hap,mP,xI,-⟩:=ou (V2.alloc (c_ #[] 9)) V2.heap.size (o_ ⟨V2.heap.size,0,n_⟩) 0 [] (i6 (Kj _ _) (Ki _)) afs (y.Ma.drop 1) (y.aq-1) hsrc (by rw[Ql];have:=tI.I.2.2.2.1;show 0+_<=_;omega) b1.size;clear hsrc hTA;have gh:B_ V2.heap.size V2 w7:=b1.grown xI b1.size λc e=>ZfB
  rw[Ql,hlr]at hap mP;simp only[K4,Li,List.nil_append,pI]at hap mP;rw[<-hlr]at hap;obtain⟨s1,⟨u,c⟩,f⟩:=mB (n:=m) S.I.fr.own (aI.dI gh) GO.I (HB.I.2.2.1.trans HG.I) (cq mP S.I.low) (λg hg=>.inr (cf mP hg).1);rw[<-hlr]at s1;have HLR:da (y.Ma.length-1=r.length):=hlr;clear hlr;refine L7 7 (λK hK=>?_);refine cM _ _ _ rfl _ _ _ w7 rfl rfl hap ?_;refine hK.out _ _ ⟨S.I.fr.box.below gh,(gh.block _ lW).trans afa.I.1⟩ (λbN=>?_);clear hK K bN
  try simp only[pt,sb]
  have wj:av w7 w.heap.size q/\w7.heap[X]? =o_ (c_ #[i_ j_ y.id,i_ j_ y.max,s_ y.ak y.Ma.length y.aq] 137):=⟨S.I.fr.box.below gh,(gh.block _ lW).trans afa.I.1⟩
  replace S:=aA (S.I.call s1);clear hap mP xI gh s1 b1 hS;refine agi 8 wj ?_;refine agi 9 wj ?_;have uQ:(w7.setCell ⟨Y5,m*3+2,n_⟩ (s_ a7 (y.Ma.length-1) c7)).heap[X]? =o_ (c_ #[i_ j_ y.id,i_ j_ y.max,s_ y.ak y.Ma.length y.aq] 137):=(aH (λe=>by have h5:=(S.I.fr.lo Y5 (gD (.inr<|.inr<|.inr<|.inr<|.inl<|Zef))).2;have:=afa.I.2;omega)).trans wj.2;refine L7 10 (λK hK=>?_);go_wp2_with fail;refine hK.out _ _ ⟨S.I.fr.box,uQ⟩ (λbN=>?_);clear hK K bN;refine K3 ZbG ?_ _;clear c f u wj lW uQ;go_upto_region 19 with fail;generalize w7.setCell ⟨Y5,m*3+2,n_⟩ (s_ a7 (y.Ma.length-1) c7)=E at*;obtain⟨y2,hy2⟩:∃y2:au,y2={y with Ma:=r,ak:=a7,aq:=c7}:=⟨_,rfl⟩
  obtain⟨q2,pv⟩:∃q2:af,q2={q1 with ae:=q1.ae.set m y2}:=⟨_,rfl⟩
  have ky:da (q2.pure=cV N r (ez t0 x.id q.pure)/\q2.cells=q.cells/\aQ q2.pure/\q2.L8[n]? =o_ {x with got:=t0}/\q2.ae[m]? =o_ y2/\q2.am=o_ ⟨Y5,0,n_⟩/\q2.next=q.next/\q2.aN=o_ ⟨gp,0,n_⟩):=by
   have h5:q2.pure=cV N r q1.pure:=by rw[pv,hy2];exact oN HQ.I.2.2.1.ae GO.I HM.I.2.1
   have h6:aQ (cV N r q1.pure):=gN HQ.I.2.2.1 (λz hz hk=>by rw[HB.I.2.2.2.1]at hz;rw[only HR.I.1.ae HM.I.2.2 hz hk];have h7:=tI.I.2.2.2.2;rw[tI.I.1]at h7;have h8:y.toci.max=y.max:=rfl;simp only[Lg]at h7;omega) tI.I.2.2.1;exact⟨by rw[h5,HQ.I.1],by rw[pv];exact Eq.trans ZcC HQ.I.2.1,by rw[h5];exact h6,by rw[pv];exact HQ.I.2.2.2,by rw[pv];show(q1.ae.set m y2)[m]? =_;rw[LU (Lj.1 GO.I).1],by rw[pv];exact HB.I.2.2.1.trans HG.I,by rw[pv];exact HB.I.2.1,by rw[pv];exact HB.I.2.2.2.2.trans ud.I⟩
  rw[<-hy2,<-pv]at S;have HY2:da (y2.Ma=r/\y2.id=N/\y2.max=y.max):=by rw[hy2];exact⟨rfl,HM.I.2.1,rfl⟩
  clear pv hy2 HLR pI afa;have HU:da (ka (9,N,M,s) bE x.id q.pure=match jl 5 N q2.pure.L8 with|none=>bu 0 x.id (cV N r (ez t0 x.id q.pure))|some v=>bu 0 x.id (gF (λy=>y) (cV N (r++[v.held]) (ez t0 x.id q.pure)) v)):=by show ka (9,N,M,s) bE x.id q.pure=_;unfold ka;rw[show cg (λx:ci=>x.id) N q.pure.ae=o_ y.toci from HM.I.2.2];dsimp only;rw[show y.toci.Ma=t0::r from tI.I.1];dsimp only;rw[show q2.pure.L8=(ez t0 x.id q.pure).L8 by rw[ky.I.1];rfl];split<;>rename_i h5<;>rw[h5]
  have Mb:=ij q2 5 N E (by have:=(dW ky.I.2.2.1).1;omega) S.I.fr.own.at;rw[ky.I.2.1]at Mb;obtain⟨-,o1,-,-⟩:=S.I.op.cells;simp only at o1;go_wp2_with(refine eT _ S.I.fr.box ?_);refine Mb.mono ?_;clear Mb o1;rintro e afP ⟨⟨z,rfl,gV⟩,hb2⟩;replace S:=aA (S.I.reads hb2);clear hb2;rcases pp gV with⟨hz,hw⟩|⟨i,v,hz,hi,hw⟩
  .have HE:da (ka (9,N,M,s) bE x.id q.pure=bu 0 x.id (cV N r (ez t0 x.id q.pure))):=by show ka (9,N,M,s) bE x.id q.pure=_;rw[HU.I,hw]
   have afO:decide (z>=0)=false:=decide_eq_false zw;clear gV hz hw HU;have Mb:=bB (n:=n) 0 S.I.fr.own S.I.low ky.I.2.2.1 ky.I.2.2.2.1 Zcd;rw[ky.I.1,ky.I.2.1]at Mb;go_wp2_with(refine eT _ S.I.fr.box ?_);refine Mb.mono ?_;clear Mb;rintro e A2 ⟨q3,rfl,hp,ht⟩;replace S:=aA (S.I.call ht);have HP:da (q3.pure=_):=hp;clear hp ht;go_wp2_with(refine ec _ _ q3.cells S.I.an ?_);refine gZ results185 S.I.an ?_;exact⟨q3,rfl,HP.I.trans HE.I.symm,S.I.done _⟩
  have HE:da (ka (9,N,M,s) bE x.id q.pure=bu 0 x.id (gF (λy=>y) (cV N (r++[v.held]) (ez t0 x.id q.pure)) v.toaD)):=by show ka (9,N,M,s) bE x.id q.pure=_;rw[HU.I,hw]
  have HW:da (jl 5 N q2.pure.L8=o_ v.toaD/\q2.L8[i]? =o_ v/\v.Md=5):=⟨hw,hi,(ft hw).2.1⟩
  subst hz;have afO:decide ((i:Int)>=0)=true:=decide_eq_true zw;clear gV hw hi HU;go_upto_region 21 with fail;clear afO;replace S:=aA (S.I.reads (Kp _ _).drew);obtain⟨g5,A7,hat⟩:=iA S.I.fr.own.at.2.2.2.2.1 ky.I.2.2.2.2.1;rw[ky.I.2.2.2.2.2.1]at A7;cases A7;obtain⟨g6,hg6,hap⟩:=cn S.I.fr.own.at.1 HW.I.2.1;rw[ky.I.2.2.2.2.2.2.2]at hg6;cases hg6;have hS0:av afP.drew w.heap.size q/\afP.drew.cell? ⟨gp,i*12+8,n_⟩=o_ (t_ v.held):=⟨S.I.fr.box,hap.2.2.2.2.2.2.2.2.1⟩
  have c8:afP.drew.cell? ⟨Y5,m*3+2,n_⟩=o_ (s_ y2.ak y2.Ma.length y2.aq):=hat.2.2;clear hat hap;refine Kr (S:=λw'=>av w' w.heap.size q/\w'.cell? ⟨gp,i*12+8,n_⟩=o_ (t_ v.held)) ZbG hS0 (λbN=>?_);generalize afP.drew=V3 at*;have k1:(i:Int)<(q.L8.length:Int):=by have h5:=(Lj.1 HW.I.2.1).1;have h6:=congrArg (λp:aE=>p.L8.length) ky.I.1;simp only[af.pure,KG,cV,ez,ce]at h6;omega
  have k0:(0:Int)<=(i:Int):=zw
  refine agi 0 bN ?_;refine agi 1 bN ?_;refine agi 2 bN ?_;refine agi 3 bN ?_;refine agi 4 bN ?_;refine agi 5 bN ?_;refine agi 6 bN ?_;refine agi 7 bN ?_;refine agi 9 bN ?_;refine agi 10 bN ?_;refine agi 11 bN ?_;refine agi 12 bN ?_;refine agi 13 bN ?_;refine agi 14 bN ?_;clear bN k0 k1;have b1:B_ V3.heap.size V3 (V3.alloc (c_ #[t_ v.held] 9)):=(Kp _ _).alloc (Ki _) _;have iE:=cf S.I.fr.own.ae (g:=Y5) (by rw[ky.I.2.2.2.2.2.1];simp[blk]);have l9:=cf S.I.fr.own.L8 (g:=gp) (by rw[ky.I.2.2.2.2.2.2.2];simp[blk]);have cm:av (V3.alloc (c_ #[t_ v.held] 9)) w.heap.size q/\(V3.alloc (c_ #[t_ v.held] 9)).cell? ⟨gp,i*12+8,n_⟩=o_ (t_ v.held):=⟨S.I.fr.box.below b1,(b1.cell (p:=⟨gp,i*12+8,n_⟩) l9.2).trans hS0.2⟩
  have c9:World.cell? (V3.alloc (c_ #[t_ v.held] 9)) ⟨Y5,m*3+2,n_⟩=o_ (s_ y2.ak y2.Ma.length y2.aq):=(b1.cell (p:=⟨Y5,m*3+2,n_⟩) iE.2).trans c8;refine KW (rs:=[8,15]) ZbG zy ?_;refine KX rfl (λK hK=>?_) (KX rfl (λK hK=>?_) KY)
  focus
   simp only[KZ,K0,K1];rw[if_pos (by rfl)];go_wp2_with fail;refine hK.out _ _ hS0 (λbN=>?_);clear hK K bN
   try simp only[pt,sb,s0,s1]
   refine L7 15 (λK hK=>?_);go_wp2_with fail;refine hK.out _ _ cm (λbN=>?_);clear hK K bN
   try simp only[pt,sb,s0,s1]
  rotate_left
  focus
   simp only[KZ,K0,K1];rw[if_pos (by rfl)];go_wp2_with fail;refine hK.out _ _ cm (λbN=>?_);clear hK K bN
   try simp only[pt,sb,s0,s1]
   refine L7 8 (λK hK=>?_);go_wp2_with fail;refine hK.out _ _ cm (λbN=>?_);clear hK K bN
   try simp only[pt,sb,s0,s1]
  all_goals
   clear c8 c9;obtain⟨a8,c8,w8,hap,ho8,hg8,yD⟩:=ou (V3.alloc (c_ #[t_ v.held] 9)) bj y2.ak y2.aq y2.Ma ((S.I.fr.own.below b1).eE y2 (KA ky.I.2.2.2.2.1)) _ [v.held] 1 (jO (Kj _ _)) (by have h5:=tI.I.2.2.2.1;rw[tI.I.1]at h5;rw[HY2.I.1];simp only[Lg,K4]at h5⊢;omega) (by have:=b1.size;have:=S.I.low;omega);have hkb:aI V3 w8 (blk y2.ak):=aI.grown b1 hg8;have hl8:(y2.Ma++[v.held]).length=y2.Ma.length+1:=by rw[Lf];rfl
   simp only[Lg,K4,Li]at hap ho8;rw[<-hl8]at hap ho8;obtain⟨s1,⟨u,c⟩,f⟩:=mB (n:=m) S.I.fr.own hkb ky.I.2.2.2.2.1 ky.I.2.2.2.2.2.1 ho8 (λg hg=>(yD g hg).imp_right λe=>by rw[e];exact b1.size);rw[hl8]at hap s1;have HL8:da ((y2.Ma++[v.held]).length=y2.Ma.length+1):=hl8;clear hl8;have iH:∀g,g∈blk y2.ak->g∈q2.Mc/\g≠Y5/\g≠gp/\Y5≠gp:=λg hg=>IY S.I.fr.own ky.I.2.2.2.2.1 ky.I.2.2.2.2.2.1 ky.I.2.2.2.2.2.2.2 hg
   have hne:Y5≠gp:=Ig S.I.fr.own ky.I.2.2.2.2.2.1 ky.I.2.2.2.2.2.2.2;have hS8:av w8 w.heap.size q/\w8.cell? ⟨gp,i*12+8,n_⟩=o_ (t_ v.held):=⟨(hkb.same _ (av.lt S.I.fr.box) λhm=>S.I.fr.yO (Ki _) zw (iH _ hm).1).trans S.I.fr.box,(J1 (a:=⟨gp,i*12+8,n_⟩) (hkb.same gp l9.2 λhm=>(iH _ hm).2.2.1 rfl)).trans hS0.2⟩
   refine L7 16 (λK hK=>?_);refine cM _ _ _ rfl _ _ _ w8 rfl rfl hap ?_;refine hK.out _ _ hS8 (λbN=>?_);clear hK K bN
   try simp only[pt,sb]
   replace S:=aA (S.I.call s1);clear hap ho8 hg8 yD hkb s1 b1 hS0 cm iH iE l9;refine agi 17 hS8 ?_;refine agi 18 hS8 ?_;have FW:(w8.setCell ⟨Y5,m*3+2,n_⟩ (s_ a8 (y2.Ma.length+1) c8)).cell? ⟨gp,i*12+8,n_⟩=o_ (t_ v.held):=(J1 (a:=⟨gp,i*12+8,n_⟩) (aH hne.symm)).trans hS8.2;refine L7 19 (λK hK=>?_);go_wp2_with fail;refine hK.out _ _ ⟨S.I.fr.box,FW⟩ (λbN=>?_);clear hK K bN;refine K3 ZbG ?_ _;clear c f u hS8 FW hne;go_upto_region 22 with fail;generalize w8.setCell ⟨Y5,m*3+2,n_⟩ (s_ a8 (y2.Ma.length+1) c8)=G at*;obtain⟨q3,IJ⟩:∃q3:af,q3={q2 with ae:=q2.ae.set m {y2 with Ma:=y2.Ma++[v.held],ak:=a8,aq:=c8}}:=⟨_,rfl⟩
   have Ck:da (q3.pure=cV N (r++[v.held]) (ez t0 x.id q.pure)/\q3.cells=q.cells/\aQ q3.pure/\q3.L8[n]? =o_ {x with got:=t0}/\q3.L8[i]? =o_ v/\q3.next=q.next):=by
    have h5:q3.pure=cV N (r++[v.held]) q2.pure:=by rw[IJ,<-HY2.I.1];exact oN ky.I.2.2.1.ae ky.I.2.2.2.2.1 HY2.I.2.1
    have h6:cV N (r++[v.held]) q2.pure=cV N (r++[v.held]) (ez t0 x.id q.pure):=by rw[ky.I.1];exact yY _ _ _ _
    have h7:aQ (cV N (r++[v.held]) (ez t0 x.id q.pure)):=by
     rw[<-HQ.I.1];refine gN HQ.I.2.2.1 (λz hz hk=>?_) (λu hu=>?_)
     .rw [HB.I.2.2.2.1]at hz;rw[only HR.I.1.ae HM.I.2.2 hz hk];have h7:=tI.I.2.2.2.2;rw[tI.I.1]at h7;have h8:y.toci.max=y.max:=rfl;simp only[Lg,Lf,K4]at h7⊢;omega
     .exact (Kg.1 hu).elim (λhu=>tI.I.2.2.1 u hu) (λhu=>by simp only[Kt,Ku,or_false]at hu;rw[hu];have h8:=iF (ky.I.2.2.1.proc (iu HW.I.2.1)).2.1;unfold jY at h8;simp only[J7]at h8;exact h8.1.1.2)
    exact⟨by rw[h5,h6],by rw[IJ];exact Eq.trans ZcC ky.I.2.1,by rw[h5,h6];exact h7,by rw[IJ];exact ky.I.2.2.2.1,by rw[IJ];exact HW.I.2.1,by rw[IJ];exact ky.I.2.2.2.2.2.2.1⟩
   rw[<-IJ]at S;clear IJ HL8;have Mb:=lP (n:=i) S.I.fr.own S.I.low Ck.I.2.2.1 Ck.I.2.2.2.2.1 Zcv ZeY;rw[Ck.I.1,Ck.I.2.1]at Mb;go_wp2_with(refine eT _ S.I.fr.box ?_);refine Mb.mono ?_;clear Mb;rintro e G2 ⟨q4,rfl,hp,ht⟩;replace S:=aA (S.I.call ht);rw[<-Ck.I.1]at hp;obtain⟨hr4,x4,hx4,sw⟩:=qp Ck.I.2.2.1 Ck.I.2.2.2.1 HR.I.2.2.1 Ck.I.2.2.2.2.1 Zcv Zcv (.inl rfl) ZeY hp;have S2:=aA S.I.put;go_upto_region 23 with(refine ec _ _ q4.cells S.I.fr.box ?_);generalize G2.setRow w.heap.size q4.cells=G3 at*;clear S;have S:=S2;clear S2;have Mb:=bB (n:=n) 0 S.I.fr.own S.I.low hr4 hx4 (by rw[show x4.Md=x.Md by have h5:=congrArg aD.Md sw;exact h5,HR.I.2.2.1];decide);rw[show x4.id=x.id by have h5:=congrArg aD.id sw;exact h5,hp,Ck.I.1,<-HE.I]at Mb;clear hp ht hr4 hx4 sw;go_wp2_with(refine eT _ S.I.fr.box ?_);refine Mb.mono ?_;clear Mb;rintro e G32 ⟨q5,rfl,hp,ht⟩;replace S:=aA (S.I.call ht);have HP:da (q5.pure=_):=hp;clear hp ht;go_wp2_with(refine ec _ _ q5.cells S.I.an ?_);refine gZ results185 S.I.an ?_;exact⟨q5,rfl,HP.I,S.I.done _⟩
theorem Cl:aq4 186 12 dC:=by
 refine aqf λq n bj x bE N M s w f1 f3 f4 HR HF S=>?_
 go_enter func186,ntmps186
 go_upto_region 1 with fail;generalize((w.alloc (c_ q.cells 46)).alloc (c_ (j9 (12,N,M,s)) 217)).alloc (c_ ar 46)=A at*;obtain⟨-,o1,-,-⟩:=S.I.op.cells;simp only at o1;have hpf:=ef (num:=λx:az=>x.id) N q.ag 0;have Mb:=mg q N A ZbX S.I.fr.own.at;generalize place (q.ag.map (λx=>x.id)) N 0=z at*;go_wp2_with(refine eT _ S.I.fr.box ?_);refine Mb.mono ?_;clear Mb;rintro e A2 ⟨rfl,hb2⟩;replace S:=aA (S.I.reads hb2);clear hb2 o1;rcases hpf with⟨hz,hf⟩|⟨m,y,hz,hm,hid,hf⟩
 .subst hz
  have HE:da (dC (12,N,M,s) bE x.id q.pure=bu 3 x.id q.pure):=by show dC (12,N,M,s) bE x.id q.pure=_;unfold dC;rw[show cg (λx:az=>x.id) N q.pure.ag=n_ from hf]
  exact Zbn
 rw[Li]at hz;subst hz;have afO:decide ((m:Int)<0)=false:=decide_eq_false zw;have HM:da (q.ag[m]? =o_ y/\y.id=N/\cg (λx:az=>x.id) N q.pure.ag=o_ y):=⟨hm,hid,hf⟩
 have hml:=(Lj.1 hm).1;have j0:(0:Int)<=(m:Int):=zw
 have j1:(m:Int)<(q.ag.length:Int):=zw
 clear hm hid hf hml;obtain⟨o0,-,-,-⟩:=S.I.op.cells;simp only at o0;have ht:=(sX (o:=(12,N,M,s)) HR.I.1 HM.I.2.2).2;have HG1:=aA (kg HR.I.1 HR.I.2.1 ht);clear ht;go_upto_region 17 with fail;clear afO o0;replace S:=aA (S.I.reads (Kp _ _).drew);refine eD (λw1=>w1=A2.drew) 11 ZbG rfl ?_;generalize A2.drew=B at*;obtain⟨Y5,iE,hat⟩:=jr S.I.fr.own.at.2.2.2.1 HM.I.1;have m5:=S.I.fr.box.cells.2.2.2.2.2.1;rw[iE]at m5;have d1:=hat.2.1;have d2:=hat.2.2;have HG:da (q.ax=o_ ⟨Y5,0,n_⟩):=iE;clear hat iE;obtain⟨gp,l9,-⟩:=cn S.I.fr.own.at.1 HR.I.2.1;have m2:=S.I.fr.box.cells.2.2.1;have k1:(n:Int)<(q.L8.length:Int):=ZdB
 have k0:(0:Int)<=(n:Int):=zw
 rw[l9]at m2;obtain⟨s1,⟨u,c⟩,f⟩:=eY (n:=n) (j:=9) (v:=t_ y.text) (y:={x with got:=y.text}) S.I.fr.own HR.I.2.1 l9 ⟨rfl,rfl,rfl⟩ (by decide) rfl;replace S:=aA (S.I.call s1);clear s1 l9
 iterate 11 (refine ly 12 (v:=?_) (o_ _) rfl rfl ZbG (λ_ _ _ h=>h) (bV ZbG ?_) ?_;rotate_left;(intro w0 hS0;subst hS0;go_simp;try with_reducible rfl);simp only[pt,sb,s0,s1])
 refine fL rfl ZbG ZbG ZbG ?_;intro w1 cm;rw[cm];clear cm w1
 go_simp
 generalize B.setCell ⟨gp,n*12+9,n_⟩ (t_ y.text)=C at*;clear m2 m5 d1 d2 c f u k0 k1;obtain⟨q1,hq1,hq⟩:=HG1.I;have HB:da (q1.ag[m]? =o_ y/\q1.next=q.next/\q1.ax=q.ax):=by rw[hq1];exact⟨HM.I.1,rfl,rfl⟩
 rw[<-hq1]at S;have HQ:=aA hq;clear hq1 hq HG1;obtain⟨ga2,iE,hat⟩:=jr S.I.fr.own.at.2.2.2.1 HB.I.1;rw[HB.I.2.2,HG.I]at iE;cases iE;have d1:=hat.2.1;clear hat;have m5:=S.I.fr.box.cells.2.2.2.2.2.1;rw[HG.I]at m5;cases hu:y.shown
 .rw [hu]at d1
  have HE:da (dC (12,N,M,s) bE x.id q.pure=mX 7 (12,N,M,s) bE x.id (ez y.text x.id q.pure)):=Zc5
  clear hu;have Mb:=oR q1 n bj {x with got:=y.text} 7 bE (12,N,M,s) C S.I.fr.own S.I.low HQ.I.2.2.1 HQ.I.2.2.2 Zcd (by have:=HR.I.2.2.2.1;rw[HB.I.2.1];omega) HR.I.2.2.2.2.1 HR.I.2.2.2.2.2;rw[HQ.I.1,HQ.I.2.1]at Mb;go_wp2_with(first|(refine eT _ S.I.fr.box ?_)|(refine LS rfl 217 (.tmp 6) rfl (w.heap.size+1) (by rfl) 217 (j9 (12,N,M,s)) (0,0) _ S.I.op underlying217 rfl ZbG ?_));exact iv
 .rw [hu]at d1
  have HE:da (dC (12,N,M,s) bE x.id q.pure=bu 0 x.id (ez y.text x.id q.pure)):=Zc5
  clear hu;have Mb:=bB (n:=n) 0 S.I.fr.own S.I.low HQ.I.2.2.1 HQ.I.2.2.2 Zcd;exact ZbC
theorem AS:aq4 186 11 dC:=by
 refine aqf λq n bj x bE N M s w f1 f3 f4 HR HF S=>?_
 go_enter func186,ntmps186
 go_upto_region 1 with fail;generalize((w.alloc (c_ q.cells 46)).alloc (c_ (j9 (11,N,M,s)) 217)).alloc (c_ ar 46)=A at*;obtain⟨-,o1,-,-⟩:=S.I.op.cells;simp only at o1;have hpf:=ef (num:=λx:az=>x.id) N q.ag 0;have Mb:=mg q N A ZbX S.I.fr.own.at;generalize place (q.ag.map (λx=>x.id)) N 0=z at*;go_wp2_with(refine eT _ S.I.fr.box ?_);refine Mb.mono ?_;clear Mb;rintro e A2 ⟨rfl,hb2⟩;replace S:=aA (S.I.reads hb2);clear hb2 o1;rcases hpf with⟨hz,hf⟩|⟨m,y,hz,hm,hid,hf⟩
 .subst hz
  have HE:da (dC (11,N,M,s) bE x.id q.pure=bu 3 x.id q.pure):=by show dC (11,N,M,s) bE x.id q.pure=_;unfold dC;rw[show cg (λx:az=>x.id) N q.pure.ag=n_ from hf]
  exact Zbn
 rw[Li]at hz;subst hz;have afO:decide ((m:Int)<0)=false:=decide_eq_false zw;have HM:da (q.ag[m]? =o_ y/\y.id=N/\cg (λx:az=>x.id) N q.pure.ag=o_ y):=⟨hm,hid,hf⟩
 have hml:=(Lj.1 hm).1;have j0:(0:Int)<=(m:Int):=zw
 have j1:(m:Int)<(q.ag.length:Int):=zw
 clear hm hid hf hml;obtain⟨o0,-,-,-⟩:=S.I.op.cells;simp only at o0;have HE:da (dC (11,N,M,s) bE x.id q.pure=bu 0 x.id (ib N false rM q.pure)):=by show dC (11,N,M,s) bE x.id q.pure=_;unfold dC;rw[show cg (λx:az=>x.id) N q.pure.ag=o_ y from HM.I.2.2];rfl
 obtain⟨Y5,iE,hat⟩:=jr S.I.fr.own.at.2.2.2.1 HM.I.1;have m5:=S.I.fr.box.cells.2.2.2.2.2.1;rw[iE]at m5;have HG:da (q.ax=o_ ⟨Y5,0,n_⟩):=iE;clear hat iE;obtain⟨s1,⟨u,c⟩,f⟩:=ll (n:=m) (j:=1) (v:=b_ false) (y:={y with shown:=false}) S.I.fr.own HM.I.1 HG.I (by decide) rfl;replace S:=aA (S.I.call s1);clear s1;go_upto_region 15 with fail;generalize A2.setCell ⟨Y5,m*3+1,n_⟩ (b_ false)=C at*;clear m5 c f u;have m5:=S.I.fr.box.cells.2.2.2.2.2.1;rw[HG.I]at m5;obtain⟨s1,⟨u,c⟩,f⟩:=ll (n:=m) (j:=2) (v:=t_ ⟨#[]⟩) (x:={y with shown:=false}) (y:={y with shown:=false,text:=rM}) S.I.fr.own ZeK HG.I (by decide) rfl;replace S:=aA (S.I.call s1);clear s1;simp only[PV]at S;go_upto_region 20 with fail;generalize C.setCell ⟨Y5,m*3+2,n_⟩ (t_ ⟨#[]⟩)=D at*;clear m5 c f u afO j0 j1;have CK:da (∃q1:af,q1={q with ag:=q.ag.set m {y with shown:=false,text:=rM}}/\q1.pure=ib N false rM q.pure/\q1.cells=q.cells/\aQ q1.pure/\q1.L8[n]? =o_ x/\q1.next=q.next):=by
  have hq:({q with ag:=q.ag.set m {y with shown:=false,text:=rM}}:af).pure=ib N false rM q.pure:=by show({q.pure with ag:=q.ag.set m {y with shown:=false,text:=rM}}:aE)=_;unfold ib;rw[jF (num:=λx:az=>x.id) (db HR.I.1.ag).2 HM.I.1 HM.I.2.1];rfl
  exact⟨_,rfl,hq,ZcC,by rw[hq];exact kA HR.I.1 jX (.inr oB),HR.I.2.1,rfl⟩
 obtain⟨q1,hq1,hq⟩:=CK.I;rw[<-hq1]at S;have HQ:=aA hq;clear hq1 hq CK;have Mb:=bB (n:=n) 0 S.I.fr.own S.I.low HQ.I.2.2.1 HQ.I.2.2.2.1 ZbQ;exact ZbC
theorem CA:aq4 186 10 dC:=by
 refine aqf λq n bj x bE N M s w f1 f3 f4 HR HF S=>?_
 go_enter func186,ntmps186
 go_upto_region 1 with fail;generalize((w.alloc (c_ q.cells 46)).alloc (c_ (j9 (10,N,M,s)) 217)).alloc (c_ ar 46)=A at*;obtain⟨-,o1,-,-⟩:=S.I.op.cells;simp only at o1;have hpf:=ef (num:=λx:az=>x.id) N q.ag 0;have Mb:=mg q N A ZbX S.I.fr.own.at;generalize place (q.ag.map (λx=>x.id)) N 0=z at*;go_wp2_with(refine eT _ S.I.fr.box ?_);refine Mb.mono ?_;clear Mb;rintro e A2 ⟨rfl,hb2⟩;replace S:=aA (S.I.reads hb2);clear hb2 o1;rcases hpf with⟨hz,hf⟩|⟨m,y,hz,hm,hid,hf⟩
 .subst hz
  have HE:da (dC (10,N,M,s) bE x.id q.pure=bu 3 x.id q.pure):=by show dC (10,N,M,s) bE x.id q.pure=_;unfold dC;rw[show cg (λx:az=>x.id) N q.pure.ag=n_ from hf]
  exact Zbn
 rw[Li]at hz;subst hz;have afO:decide ((m:Int)<0)=false:=decide_eq_false zw;have HM:da (q.ag[m]? =o_ y/\y.id=N/\cg (λx:az=>x.id) N q.pure.ag=o_ y):=⟨hm,hid,hf⟩
 have hml:=(Lj.1 hm).1;have j0:(0:Int)<=(m:Int):=zw
 have j1:(m:Int)<(q.ag.length:Int):=zw
 clear hm hid hf hml;obtain⟨o0,-,-,-⟩:=S.I.op.cells;simp only at o0;have HE:da (dC (10,N,M,s) bE x.id q.pure=bu 0 x.id (ff (lG s) 7 N (ib N true s q.pure))):=by show dC (10,N,M,s) bE x.id q.pure=_;unfold dC;rw[show cg (λx:az=>x.id) N q.pure.ag=o_ y from HM.I.2.2];rfl
 obtain⟨Y5,iE,hat⟩:=jr S.I.fr.own.at.2.2.2.1 HM.I.1;have m5:=S.I.fr.box.cells.2.2.2.2.2.1;rw[iE]at m5;have HG:da (q.ax=o_ ⟨Y5,0,n_⟩):=iE;clear hat iE;obtain⟨s1,⟨u,c⟩,f⟩:=ll (n:=m) (j:=1) (v:=b_ true) (y:={y with shown:=true}) S.I.fr.own HM.I.1 HG.I (by decide) rfl;replace S:=aA (S.I.call s1);clear s1;go_upto_region 7 with fail;generalize A2.setCell ⟨Y5,m*3+1,n_⟩ (b_ true)=C at*;clear m5 c f u;obtain⟨-,-,-,o3⟩:=S.I.op.cells;simp only at o3;have m5:=S.I.fr.box.cells.2.2.2.2.2.1;rw[HG.I]at m5;obtain⟨s1,⟨u,c⟩,f⟩:=ll (n:=m) (j:=2) (v:=t_ s) (x:={y with shown:=true}) (y:={y with shown:=true,text:=s}) S.I.fr.own ZeK HG.I (by decide) rfl;replace S:=aA (S.I.call s1);clear s1;simp only[PV]at S;go_upto_region 8 with fail;generalize C.setCell ⟨Y5,m*3+2,n_⟩ (t_ s)=D at*;clear m5 c f u afO j0 j1 o3;have CK:da (∃q1:af,q1={q with ag:=q.ag.set m {y with shown:=true,text:=s}}/\q1.pure=ib N true s q.pure/\q1.cells=q.cells/\aQ q1.pure/\q1.L8[n]? =o_ x/\q1.next=q.next):=by
  have hq:({q with ag:=q.ag.set m {y with shown:=true,text:=s}}:af).pure=ib N true s q.pure:=by show({q.pure with ag:=q.ag.set m {y with shown:=true,text:=s}}:aE)=_;unfold ib;rw[jF (num:=λx:az=>x.id) (db HR.I.1.ag).2 HM.I.1 HM.I.2.1];rfl
  exact⟨_,rfl,hq,ZcC,by rw[hq];exact kA HR.I.1 f3 (.inl rfl),HR.I.2.1,rfl⟩
 obtain⟨q1,hq1,hq⟩:=CK.I;rw[<-hq1]at S;have HQ:=aA hq;clear hq1 hq CK;have Mb:=ij q1 7 N D ZfQ S.I.fr.own.at;rw[HQ.I.2.1]at Mb;obtain⟨-,o1,-,-⟩:=S.I.op.cells;simp only at o1;go_wp2_with(refine eT _ S.I.fr.box ?_);refine Mb.mono ?_;clear Mb o1;rintro e af3 ⟨⟨z,rfl,gV⟩,hb2⟩;replace S:=aA (S.I.reads hb2);clear hb2;have afW:=aA (S.I.sync HQ.I.2.1);have IB:da (bw s=true):=f3;have HI:=aA (If.start (f:=lG s) (n:=n) (x:=x.toaD) HQ.I.2.2.1 (mj HQ.I.2.2.2.1) (by have:=HR.I.2.2.2.1;rw[HQ.I.2.2.2.2];exact this) gV);rw[HQ.I.1]at HI;clear gV S f1 f3 f4;go_wp2_with fail
 go_loopg [10] ((ib N true s q.pure).L8.filter (ie 7 N)).length (λk b wr=>∃(qk:af)(z:Int),b=i_ j_ z/\da (If (lG s) 7 N (ff (lG s) 7 N (ib N true s q.pure)) n x.toaD k qk z/\Xf w bj q qk qk (10,N,M,s) wr))
 case atStart=>exact⟨q1,z,rfl,HI.I,afW.I⟩
 case round=>
  obtain⟨qk,z,rfl,HK⟩:=hrel;have S:=aA HK.I.2;rcases pp HK.I.1.best with⟨hz,hw⟩|⟨i,v,hz,hi,hw⟩
  .have afO:decide (z>=0)=false:=decide_eq_false zw
   obtain⟨x2,hx2,sw⟩:=tQ HK.I.1.pos;have HT:da (bu 0 x2.id qk.pure=dC (10,N,M,s) bE x.id q.pure):=Zdu
   have Mb:=bB (n:=n) 0 S.I.fr.own S.I.low HK.I.1.r hx2 ZbZ;clear hz hw hx2 sw;go_wp2_with(refine eT _ S.I.fr.box ?_);refine Mb.mono ?_;clear Mb;rintro e A2 ⟨q2,rfl,hp,ht⟩;replace S:=aA (S.I.call ht);have HP:da (q2.pure=_):=hp;clear hp ht;go_wp2_with(refine ec _ _ q2.cells S.I.an ?_);refine gZ results186 S.I.an ?_;exact⟨q2,rfl,HP.I.trans HT.I,S.I.done _⟩
  subst hz;have afO:decide ((i:Int)>=0)=true:=decide_eq_true zw;have HW:da (jl 7 N qk.pure.L8=o_ v.toaD/\qk.L8[i]? =o_ v/\v.Md=7):=⟨hw,hi,(ft hw).2.1⟩
  clear hw hi;obtain⟨-,-,-,o3⟩:=S.I.op.cells;simp only at o3;obtain⟨gp,l9,-⟩:=cn S.I.fr.own.at.1 HW.I.2.1;have m2:=S.I.fr.box.cells.2.2.1;have k1:(i:Int)<(qk.L8.length:Int):=by have:=(Lj.1 HW.I.2.1).1;omega
  have k0:(0:Int)<=(i:Int):=zw
  rw[l9]at m2;obtain⟨s1,⟨u,c⟩,f⟩:=eY (n:=i) (j:=9) (v:=t_ s) (y:={v with got:=s}) S.I.fr.own HW.I.2.1 l9 ⟨rfl,rfl,rfl⟩ (by decide) rfl;replace S:=aA (S.I.call s1);clear s1 l9;go_upto_region 12 with fail;generalize wr.setCell ⟨gp,i*12+9,n_⟩ (t_ s)=E at*;clear m2 c f u k0 k1 afO o3;obtain⟨afn,hqg,g1,g2,g3,g4⟩:=kg HK.I.1.r HW.I.2.1 IB.I;rw[<-hqg]at S;have Mb:=lP (n:=i) S.I.fr.own S.I.low g3 g4 Zfo (by rw[hqg];have:=HK.I.1.nx;show qk.next<=_;omega);rw[g1,g2,show({v with got:=s}:ao).toaD=lG s v.toaD from rfl,Bz]at Mb;clear hqg g1 g2 g3 g4;go_wp2_with(refine eT _ S.I.fr.box ?_);refine Mb.mono ?_;clear Mb;rintro e afP ⟨q2,rfl,hp,ht⟩;replace S:=aA (S.I.call ht);have HJ:=aA (HK.I.1.step (q2:=q2) HR.I.2.2.1 ⟨by decide,by decide⟩ (.inr ⟨_,IB.I,rfl⟩) HW.I.1 hp);clear hp ht;have S2:=aA S.I.put;go_upto_region 10 with(refine ec _ _ q2.cells S.I.fr.box ?_);generalize afP.setRow w.heap.size q2.cells=afv at*;clear S;have S:=S2;clear S2;obtain⟨-,o1,-,-⟩:=S.I.op.cells;simp only at o1;have Mb:=ij q2 7 N afv ZfP S.I.fr.own.at;go_wp2_with(refine eT _ S.I.fr.box ?_);refine Mb.mono ?_;clear Mb o1;rintro e R1 ⟨⟨z2,rfl,gV⟩,hb2⟩;exact Zaa
structure DZ (bE:Int)(bj:Nat)(w:w_)(q0:af)(k:Nat)(q:af)(wr:w_):Prop where
 box:av wr w.heap.size q
 mK:wr.heap[w.heap.size+1]? =o_ (c_ ar 46)
 own:ap wr bj q
 cd:B_ bj w wr
 wk:af9 bE q.pure
 same:gj bE q.pure=gj bE q0.pure
 cnt:(lF bE q.pure.L8).length=k
 short:∀x∈q.L8,x.prog.length<=1048576
 low:∀g∈q.Mc,g<w.heap.size
theorem un {q:af}{gs:Nat}(h:q.aN=o_ ⟨gs,0,n_⟩):gs∈q.Mc:=by
 unfold af.Mc;rw[h];simp[blk]
theorem Eb {bE:Int}{q:af}{n:Nat}{y:ao}{code:Int}(hw:af9 bE q.pure)(hy:q.L8[n]? =o_ y)(hp:q.pure.L8[n]? =o_ y.toaD)(hc:mL y.toaD=code)(hs:∀x∈q.L8,x.prog.length<=1048576):
  ({q with next:=gf q.next y.toaD,L8:=q.L8.set n (pF q.next code y)}:af).pure=gu q.pure y.toaD/\({q with next:=gf q.next y.toaD,L8:=q.L8.set n (pF q.next code y)}:af).Mc=q.Mc/\(∀x∈({q with next:=gf q.next y.toaD,L8:=q.L8.set n (pF q.next code y)}:af).L8,x.prog.length<=1048576):=by
 refine⟨?_,?_,λx hx=>?_⟩
 .unfold gu
  rw[rp hw.kW hp rfl,hc]
  show({q.pure with next:=gf q.next y.toaD,L8:=(q.L8.set n (pF q.next code y)).map (·.toaD)}:aE)=_
  rw[PN];rfl
 .unfold af.Mc
  simp only[re hy (show(pF q.next code y).aY=y.aY from rfl)]
 .rcases PO hx with h5|h5
  .exact hs x h5
  .rw [h5]
   show(iY q.next code y.toaD).prog.length<=_
   rw[(rD _ _ _).2];exact hs y (KA hy)
theorem ti (q0:af)(bE:Int)(bj:Nat)(w:w_)(h:ap w bj q0)(hb:bj<=w.heap.size)(hk:af9 bE q0.pure)(hs:∀x∈q0.L8,x.prog.length<=1048576):
  k_ J3 170 #[a_ q0.cells,i_ j_ bE] w λe w'=>∃q:af,e=r_ (a_ q.cells)/\q.pure=gj bE q0.pure/\ap w' bj q/\B_ bj w w':=by
 have b1:B_ w.heap.size w ((w.alloc (c_ q0.cells 46)).alloc (c_ ar 46)):=dT _ _ _;have HB:da (DZ bE bj w q0 (lF bE q0.pure.L8).length q0 ((w.alloc (c_ q0.cells 46)).alloc (c_ ar 46))/\bj<=w.heap.size):=⟨⟨(cZ _ _ _).1,(cZ _ _ _).2,h.below b1,b1.mono hb,hk,rfl,rfl,hs,λg hg=>(h.lt g hg).2⟩,hb⟩
 clear h hb hk hs b1;unfold af.cells at*
 go_enter func170,ntmps170
 go_wp2_with fail;generalize(w.alloc (c_ #[i_ j_ q0.id,i_ j_ q0.next,s_ q0.aN q0.L8.length q0.aW,s_ q0.bc q0.aj.length q0.bF,s_ q0.ay q0.L9.length q0.aO,s_ q0.ax q0.ag.length q0.aP,s_ q0.am q0.ae.length q0.aG,s_ q0.aK q0.ai.length q0.aV] 46)).alloc (c_ ar 46)=W at*
 go_loopg [] (lF bE q0.pure.L8).length (λk wr=>∃q:af,da (DZ bE bj w q0 k q wr))
 case atStart=>exact⟨q0,HB.I.1⟩
 case round=>
  obtain⟨q,HO⟩:=hrel
  rename w_=>W1
  have hql:q.L8.length<=6:=by have h5:=HO.I.wk.low;simpa[af.pure]using h5
  go_wp2_with fail
  go_loopw[5,6] (λb i wr=>∃(k:Nat)(z:Int),k<=q.L8.length/\i=i_ j_ k/\b=i_ j_ z/\da (eN l8 (og bE) q.pure.L8 k z/\B_ W1.heap.size W1 wr)) (λ_ i _=>q.L8.length-(Go.RowKit.intOf i).toNat)
  case atStart=>exact⟨0,-1,Ky _,rfl,rfl,⟨eN.start _ _ _,Kp _ _⟩⟩
  case round=>
   obtain⟨k,z,hk,rfl,rfl,HA⟩:=hrel;have HW:da (av wr w.heap.size q/\ap wr bj q):=⟨HO.I.box.below HA.I.2,HO.I.own.below HA.I.2⟩
   obtain⟨m0,m1,m2,m3,m4,m5,m6,m7⟩:=HW.I.1.cells;by_cases hlt:k<q.L8.length
   .have i0:(0:Int)<=(k:Int):=zw
    have i1:(k:Int)<(q.L8.length:Int):=zw
    clear m0 m1 m3 m4 m5 m6 m7;obtain⟨x,hx⟩:∃x,q.L8[k]? =o_ x:=⟨_,Kz hlt⟩
    have HX:da (q.L8[k]? =o_ x/\q.pure.L8[k]? =o_ x.toaD):=⟨hx,by show(q.L8.map (·.toaD))[k]? =_;rw[Kk,hx];rfl⟩
    obtain⟨gs,ha,hat⟩:=cn HW.I.2.at.1 hx;have HG:da (q.aN=o_ ⟨gs,0,n_⟩):=ha;rw[ha]at m2;obtain⟨d0,d1,d2,d3,d4,d5,d6,d7,d8,d9,tH,tS⟩:=hat;clear hx ha;have hgl:w.heap.size<wr.heap.size:=(J2.1 HW.I.1).1;have HN:da (av (wr.alloc (c_ x.row 125)) w.heap.size q/\ap (wr.alloc (c_ x.row 125)) bj q/\jx (wr.alloc (c_ x.row 125)) wr.heap.size x/\B_ W1.heap.size W1 (wr.alloc (c_ x.row 125))):=⟨HW.I.1.below ((Kp _ _).alloc (Ki _) _),HW.I.2.below ((Kp _ _).alloc (Ki _) _),Kj _ _,HA.I.2.alloc HA.I.2.size _⟩
    go_wp2_with fail;generalize wr.alloc (c_ x.row 125)=W5 at*;generalize wr.heap.size=X at*;clear d0 d1 d2 d3 d4 d5 d6 d7 d8 d9 tH tS m2 hgl;obtain⟨-,-,m2,-⟩:=HN.I.1.cells;rw[HG.I]at m2;obtain⟨-,-,-,b3,-,-,b6,-⟩:=HN.I.2.2.1.cells;by_cases hs:2<=x.Md;rotate_left
    .have d1:decide (2<=x.Md)=false:=decide_eq_false hs
     have HY:da (eN l8 (og bE) q.pure.L8 (k+1) z):=HA.I.1.skip HX.I.2 (by show(decide (2<=x.Md)&&_)=false;rw[d1];rfl);clear hs;refine aT (λw'=>(w'.cell? ⟨w.heap.size,2,n_⟩=o_ (s_ (o_ ⟨gs,0,n_⟩) q.L8.length q.aW)/\w'.cell? ⟨X,3,n_⟩=o_ (i_ j_ x.Md)/\w'.cell? ⟨X,6,n_⟩=o_ (i_ j_ x.Mg))/\da (B_ W5.heap.size W5 w')) ZbG ⟨⟨m2,b3,b6⟩,(Kp _ _).drew⟩ ?_
     iterate 4 (refine PI ?_)
     iterate 4 (refine nl ?_;simp only[pt,sb,s0,s1])
     exact D_
    have d1:decide (2<=x.Md)=true:=decide_eq_true hs;cases hv:cv x.Mg 1 bE
    .have afp:da (Ending.returned (b_ (cv x.Mg 1 bE))=Ending.returned (b_ false)):=by show _=_;rw[hv]
     have HY:da (eN l8 (og bE) q.pure.L8 (k+1) z):=HA.I.1.skip HX.I.2 (by show(_&&cv x.Mg 1 bE)=false;rw[hv,PP]);clear hs hv;refine aT (λw'=>(w'.cell? ⟨w.heap.size,2,n_⟩=o_ (s_ (o_ ⟨gs,0,n_⟩) q.L8.length q.aW)/\w'.cell? ⟨X,3,n_⟩=o_ (i_ j_ x.Md)/\w'.cell? ⟨X,6,n_⟩=o_ (i_ j_ x.Mg))/\da (B_ W5.heap.size W5 w')) ZbG ⟨⟨m2,b3,b6⟩,(Kp _ _).drew⟩ ?_
     iterate 7 (refine PI ?_)
     refine cl (b_ false) 41 #[i_ j_ x.Mg,i_ j_ 1,i_ j_ bE] ?_ ?_ ?_
     .intro w0 hS0
      obtain⟨⟨o2,o3,o6⟩,hH⟩:=hS0
      exact x_
     .exact Q3
     simp only[pt,sb,s0,s1]
     exact D_
    have afp:da (Ending.returned (b_ (cv x.Mg 1 bE))=Ending.returned (b_ true)):=by show _=_;rw[hv]
    have HF:da (og bE x.toaD=true):=by show(decide (2<=x.Md)&&cv x.Mg 1 bE)=true;rw[hv,d1];rfl
    clear hs hv;by_cases hz:z<0
    .have afO:decide (z<0)=true:=decide_eq_true hz
     have HY:da (eN l8 (og bE) q.pure.L8 (k+1) k):=HA.I.1.first hz HX.I.2 HF.I;refine aT (λw'=>(w'.cell? ⟨w.heap.size,2,n_⟩=o_ (s_ (o_ ⟨gs,0,n_⟩) q.L8.length q.aW)/\w'.cell? ⟨X,3,n_⟩=o_ (i_ j_ x.Md)/\w'.cell? ⟨X,6,n_⟩=o_ (i_ j_ x.Mg))/\da (B_ W5.heap.size W5 w')) ZbG ⟨⟨m2,b3,b6⟩,(Kp _ _).drew⟩ ?_
     iterate 7 (refine PI ?_)
     refine cl (b_ true) 41 #[i_ j_ x.Mg,i_ j_ 1,i_ j_ bE] ?_ ?_ ?_
     .intro w0 hS0
      obtain⟨⟨o2,o3,o6⟩,hH⟩:=hS0
      exact x_
     .exact Q3
     simp only[pt,sb,s0,s1]
     iterate 5 (refine PI ?_)
     iterate 9 (refine nl ?_;simp only[pt,sb,s0,s1])
     iterate 2 (refine PI ?_)
     exact Q4
    have afO:decide (z<0)=false:=decide_eq_false hz;obtain⟨n,y0,hzn,hn,hy0,hbe⟩:=HA.I.1.got hz;subst hzn;have Fm:da (eN l8 (og bE) q.pure.L8 (k+1) (if l8 x.toaD y0 then(k:Int)else(n:Int))):=eN.next hn hy0 hbe HX.I.2 HF.I;obtain⟨y,hy,rfl⟩:∃y,q.L8[n]? =o_ y/\y.toaD=y0:=by
     have h5:(q.L8.map (·.toaD))[n]? =o_ y0:=hy0;rw[Kk,Kw]at h5;exact h5
    have j0:(0:Int)<=(n:Int):=zw
    have j1:(n:Int)<(q.L8.length:Int):=zw
    obtain⟨gs2,ha2,g8⟩:=cn HN.I.2.1.at.1 hy;rw[HG.I]at ha2;cases ha2;obtain⟨-,-,-,-,-,-,y6,-⟩:=g8;clear hy hy0 hbe hz;by_cases hw:x.Mg<y.Mg
    .have af6:decide (x.Mg<y.Mg)=true:=decide_eq_true hw
     have HY:da (eN l8 (og bE) q.pure.L8 (k+1) k):=by have h5:=Fm.I;rwa[show l8 x.toaD y.toaD=true from af6,if_pos rfl]at h5
     clear hw Fm;refine aT (λw'=>(w'.cell? ⟨w.heap.size,2,n_⟩=o_ (s_ (o_ ⟨gs,0,n_⟩) q.L8.length q.aW)/\w'.cell? ⟨X,3,n_⟩=o_ (i_ j_ x.Md)/\w'.cell? ⟨X,6,n_⟩=o_ (i_ j_ x.Mg)/\w'.cell? ⟨gs,n*12+6,n_⟩=o_ (i_ j_ y.Mg))/\da (B_ W5.heap.size W5 w')) ZbG ⟨⟨m2,b3,b6,y6⟩,(Kp _ _).drew⟩ ?_
     iterate 7 (refine PI ?_)
     refine cl (b_ true) 41 #[i_ j_ x.Mg,i_ j_ 1,i_ j_ bE] ?_ ?_ ?_
     .intro w0 hS0
      obtain⟨⟨o2,o3,o6,afI⟩,hH⟩:=hS0
      exact x_
     .exact Q3
     simp only[pt,sb,s0,s1]
     iterate 16 (refine PI ?_)
     exact Q4
    .have af6:decide (x.Mg<y.Mg)=false:=decide_eq_false hw
     have HY:da (eN l8 (og bE) q.pure.L8 (k+1) n):=by have h5:=Fm.I;rwa[show l8 x.toaD y.toaD=false from af6,if_neg Bool.false_ne_true]at h5
     clear hw Fm;refine aT (λw'=>(w'.cell? ⟨w.heap.size,2,n_⟩=o_ (s_ (o_ ⟨gs,0,n_⟩) q.L8.length q.aW)/\w'.cell? ⟨X,3,n_⟩=o_ (i_ j_ x.Md)/\w'.cell? ⟨X,6,n_⟩=o_ (i_ j_ x.Mg)/\w'.cell? ⟨gs,n*12+6,n_⟩=o_ (i_ j_ y.Mg))/\da (B_ W5.heap.size W5 w')) ZbG ⟨⟨m2,b3,b6,y6⟩,(Kp _ _).drew⟩ ?_
     iterate 7 (refine PI ?_)
     refine cl (b_ true) 41 #[i_ j_ x.Mg,i_ j_ 1,i_ j_ bE] ?_ ?_ ?_
     .intro w0 hS0
      obtain⟨⟨o2,o3,o6,afI⟩,hH⟩:=hS0
      exact x_
     .exact Q3
     simp only[pt,sb,s0,s1]
     iterate 16 (refine PI ?_)
     refine bk ZbG ?_ _;intro w1 cm;have HV:da (B_ W1.heap.size W1 w1):=HN.I.2.2.2.trans (cm.2.I.mono HN.I.2.2.2.size);clear cm;go_wp2;go_roundw
     case rel=>exact⟨k+1,n,zw,by go_num,rfl,⟨HY.I,HV.I⟩⟩
     case measure=>exact ZbL
   .have i1:¬(k:Int)<(q.L8.length:Int):=zw
    have HE:da (eN l8 (og bE) q.pure.L8 q.L8.length z):=by have h5:=HA.I.1;rwa[show k=q.L8.length by omega]at h5
    have hfl:q.pure.L8.take q.L8.length=q.pure.L8:=by rw[KF];simp[af.pure]
    have Ih:da (wr.heap[w.heap.size+1]? =o_ (c_ ar 46)/\B_ bj w wr):=⟨(HA.I.2.block _ (J2.1 HO.I.mK).1).trans HO.I.mK,HO.I.cd.trans (HA.I.2.mono (by have:=HO.I.cd.size;have:=HB.I.2;omega))⟩
    by_cases hz:z<0
    .have HD:da (lZ bE q.pure.L8=n_):=by have h5:=HE.I.none' hz;rwa[hfl]at h5
     have afO:decide (z<0)=true:=decide_eq_true hz;clear hfl hz;go_wp2_with(refine ec _ _ q.row Ih.I.1 ?_);refine gZ results170 Ih.I.1 ?_;exact⟨q,rfl,by rw[<-HO.I.same];exact(Co HD.I).symm,HW.I.2.same λg hg=>KH _ _ _ _ (by have:=HO.I.low g hg;omega),q_ Ih.I.2 (by have:=HB.I.2;omega) _⟩
    have afO:decide (z<0)=false:=decide_eq_false hz;obtain⟨n,y0,hzn,hn,hy0,hbe⟩:=HE.I.got hz;subst hzn;rw[hfl]at hbe;obtain⟨y,hy,rfl⟩:∃y,q.L8[n]? =o_ y/\y.toaD=y0:=by
     have h5:(q.L8.map (·.toaD))[n]? =o_ y0:=hy0;rw[Kk,Kw]at h5;exact h5
    have HD:da (lZ bE q.pure.L8=o_ y.toaD/\q.L8[n]? =o_ y/\q.pure.L8[n]? =o_ y.toaD):=⟨hbe,hy,hy0⟩
    have j0:(0:Int)<=(n:Int):=zw
    have j1:(n:Int)<(q.L8.length:Int):=zw
    obtain⟨gs,ha,hat⟩:=cn HW.I.2.at.1 hy;have HG:da (q.aN=o_ ⟨gs,0,n_⟩):=ha;have d3:=hat.2.2.2.1;rw[ha]at m2;have hdu:=(af9.mem hbe)
    have hst:2<=y.Md:=by have h5:=hdu.2;unfold og at h5;simp only[J7,decide_eq_true_eq]at h5;exact h5.1
    have hop:=HO.I.wk.op y.toaD hdu.1 hst;have hro:=HO.I.wk.room;have hle:=HO.I.short y (KA hy);have Mb:=λcode=>vT q n bj y code wr HW.I.2 (by have:=HO.I.cd.size;have:=HA.I.2.size;have:=HB.I.2;omega) hy hop hle (by have h5:q.pure.next=q.next:=rfl;omega)
    clear hfl hz hbe hy hy0 hat ha hdu hst hop hro hle hn;unfold af.cells at Mb;simp only[HG.I]at Mb;cases e2:(y.Md==2)
    .skip
     replace Mb:=Mb 2;have HCO:da (mL y.toaD=2):=by show mL y.toaD=_;unfold mL;rw[if_neg (by simpa using e2)]
     exact g_
    .skip
     replace Mb:=Mb 0;have HCO:da (mL y.toaD=0):=by show mL y.toaD=_;unfold mL;rw[if_pos (by simpa using e2)]
     exact g_
theorem uy (p:af)(w:w_):k_ J3 140 #[a_ p.cells] w λe w'=>e=r_ (b_ (decide (p.next<=999999980)))/\B_ w.heap.size w w':=by
 have HB:da (av (w.alloc (c_ p.cells 46)) w.heap.size p/\B_ w.heap.size w (w.alloc (c_ p.cells 46))):=⟨Kj _ _,(Kp _ _).alloc (Ki _) _⟩
 unfold af.cells at*;obtain⟨-,m1,-⟩:=HB.I.1.cells
 go_enter func140,ntmps140
 go_wp2;go_ret;exact⟨rfl,HB.I.2⟩
end
section
open Go.RowKit Go.Maps
theorem adR {w W:w_}{k:kd}{K:Nat}(hk:eP k=true)(h:VL w k K W):∃(b:Nat)(tab:Array v_)(l:List (aZ×Nat))(ls:List gi)(a:Option d_)(cap B:Nat),abE k w.heap.size K b tab l ls a cap B W/\∀o∈ls,Joins l o:=by
 obtain⟨w1,b,tab,l,ls,a,cap,h1,h2,h3,h4,h5,h6,_,h8⟩:=h.ex;have hR:∀p∈l,aQ p.1.pure:=λp hp=>Ww hk _ (by rw[<-h3];exact Lr.2 ⟨p,hp,rfl⟩)
 have hi:=Xo hk;have hw:k.fn.length<=20:=by
  have h9:=hk;simp only[eP,E4,nn,J7,decide_eq_true_eq]at h9;omega
 refine⟨b,tab,l,ls,a,cap,w1.heap.size,⟨h1,hw,h2.kept h6.kept,h3,h4,h6.TN,h6.own,λp hp=>iB (hR p hp),⟨?_,?_⟩,h8,λp hp=>?_⟩,h5⟩
 .have h9:=congrArg List.length h3
  rw[KG]at h9;omega
 .have h9:=congrArg List.length h4
  rw[KG]at h9;omega
 .have h9:=bz.1 (hR p hp).id
  simp only[aZ.pure]at h9;exact ZaI
end
end Go.Proofs.YtckenjkcmajicaaGreat
