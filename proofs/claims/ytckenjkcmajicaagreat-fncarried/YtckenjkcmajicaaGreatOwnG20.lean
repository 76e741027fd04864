/- What the proof leans on, part 20. -/
import Derived.Test.YtckenjkcmajicaaGreatOwnG17
import Derived.Test.YtckenjkcmajicaaGreatOwnG18
import Derived.Test.YtckenjkcmajicaaGreatOwnG19
set_option linter.all false
set_option maxRecDepth 100000
set_option maxHeartbeats 8000000
open Go.Proofs.Tryz
open Go renaming World->w_,Calls->k_,Addr->d_
open Go.Ending renaming returned->r_
open Go.IntKind renaming i64->j_
open Go.Obj renaming cells->c_
open Go.RowKit renaming Below->B_,Hid->da
open Go.Value renaming int->i_,slice->s_,bool->b_,string->t_,agg->a_,pointer->p_,tuple->u_
open Option renaming some->o_,none->n_
open Go renaming wp_at_succ->Kd,wp_at_zero->Kc
open Go.Proofs.Tryz renaming prog->J3
open List renaming getElem_cons_succ->K1,getElem_cons_zero->K0,getElem_toArray->KZ,length_cons->Lg,length_nil->K4

open Go.RowKit
namespace Go.Proofs.YtckenjkcmajicaaGreat
open Go.Maps
attribute [local go_sem ↓] Kc Kd
def An {p:aE}{y:dS}(h:aQ p)(hy:y∈p.ai):y.max<=5:=by
 have h1:=(cK h.ai y hy).2;unfold dj at h1;simp only[J7]at h1;exact(bz.1 h1.1.1).2
def Av:arv 187 13 ig:=by
 refine aqQ λq n bj x N M s w f1 f3 f4 HR HF S=>?_
 go_enter func187,ntmps187
 go_upto_region 1 with fail;generalize((w.alloc (c_ q.cells 46)).alloc (c_ (j9 (13,N,M,s)) 217)).alloc (c_ ar 46)=A at*;obtain⟨-,o1,-,-⟩:=S.I.op.cells;simp only at o1;have hpf:=ef (num:=λx:aM=>x.id) N q.ai 0;have Mb:=uV q N A ZbX S.I.fr.own.at;generalize place (q.ai.map (λx=>x.id)) N 0=z at*;go_wp2_with(refine eT _ S.I.fr.box ?_);refine Mb.mono ?_;clear Mb;rintro e A2 ⟨rfl,hb2⟩;replace S:=aA (S.I.reads hb2);clear hb2 o1;have hfm:=lJ (num:=λx:dS=>x.id) (je:=λx:aM=>x.id) (g:=λx:aM=>x.todS) (λ_=>rfl) (id:=N) q.ai;rcases hpf with⟨hz,hf⟩|⟨m,y,hz,hm,hid,hf⟩
 .subst hz
  rw[hf]at hfm;have HE:da (ig (13,N,M,s) x.id q.pure=bu 3 x.id q.pure):=by show ig (13,N,M,s) x.id q.pure=_;unfold ig;rw[show cg (λx:dS=>x.id) N q.pure.ai=n_ from hfm]
  exact Zbk
 rw[hf]at hfm;rw[Li]at hz;subst hz;have afO:decide ((m:Int)<0)=false:=decide_eq_false zw;have HM:da (q.ai[m]? =o_ y/\y.id=N/\cg (λx:dS=>x.id) N q.pure.ai=o_ y.todS):=⟨hm,hid,hfm⟩
 have hml:=(Lj.1 hm).1;have j0:(0:Int)<=(m:Int):=zw
 have j1:(m:Int)<(q.ai.length:Int):=zw
 clear hm hid hf hfm hml;go_upto_region 2 with fail;replace S:=aA (S.I.reads (Kp _ _).drew);refine aT (λw1=>w1=A2.drew) ZbG rfl ?_;generalize A2.drew=B at*;obtain⟨Y5,iE,hat⟩:=lm S.I.fr.own.at.2.2.2.2.2 HM.I.1;have m7:=S.I.fr.box.cells.2.2.2.2.2.2.2;rw[iE]at m7;have d0:=hat.1;have d1:=hat.2.1;have d2:=hat.2.2.1;have d3:=hat.2.2.2.1;have d4:=hat.2.2.2.2;have HG:da (q.aK=o_ ⟨Y5,0,n_⟩):=iE;clear hat iE;obtain⟨o0,-,-,-⟩:=S.I.op.cells;simp only at o0
 iterate 14 (refine agj ?_)
 refine bk ZbG ?_ _;intro w1 cm;rw[cm];clear cm w1 afO;have IB:da (bw s=true):=f3;clear f1 f3 f4;have tI:da ((∀u∈y.Ma,bw u=true)/\y.Ma.length<=5/\(y.Ma.length:Int)<=y.max/\1<=y.max):=by
  have h5:=nB (o:=(13,N,M,s)) HR.I.1 HM.I.2.2;have h6:=An HR.I.1 (Lr.2 ⟨y,KA HM.I.1,rfl⟩);exact ZaG
 cases hu:y.I
 .rw [hu]at d1
  have HE:da (ig (13,N,M,s) x.id q.pure=bu 3 x.id q.pure):=by show ig (13,N,M,s) x.id q.pure=_;unfold ig;rw[show cg (λx:dS=>x.id) N q.pure.ai=o_ y.todS from HM.I.2.2];exact if_pos hu
  exact Zbo
 have HO:da (y.I=true):=hu;clear hu;rw[HO.I]at d1;have h5:=(Kp B.heap.size B).alloc (Ki _) (c_ #[i_ j_ y.id,b_ true,b_ y.Mf,i_ j_ y.max,s_ y.ak y.Ma.length y.aq] 51);have afa:da ((B.alloc (c_ #[i_ j_ y.id,b_ true,b_ y.Mf,i_ j_ y.max,s_ y.ak y.Ma.length y.aq] 51)).heap[B.heap.size]? =o_ (c_ #[i_ j_ y.id,b_ true,b_ y.Mf,i_ j_ y.max,s_ y.ak y.Ma.length y.aq] 51)/\w.heap.size+3<=B.heap.size):=⟨Kj _ _,S.I.fr.sz.2.1⟩
 replace S:=aA (S.I.reads h5);clear h5;go_upto_region 5 with fail;generalize B.alloc (c_ #[i_ j_ y.id,b_ true,b_ y.Mf,i_ j_ y.max,s_ y.ak y.Ma.length y.aq] 51)=C at*;generalize B.heap.size=X at*;clear m7 d0 d1 d2 d3 d4 o0;obtain⟨o0,-,-,-⟩:=S.I.op.cells;simp only at o0;have x2:C.cell? ⟨X,2,n_⟩=o_ (b_ y.Mf):=Zcj
 have x3:C.cell? ⟨X,3,n_⟩=o_ (i_ j_ y.max):=Zcj
 have x4:C.cell? ⟨X,4,n_⟩=o_ (s_ y.ak y.Ma.length y.aq):=Zcj
 cases nu:y.Mf
 .rw [nu]at x2
  have HE:da (ig (13,N,M,s) x.id q.pure=bu 0 x.id (gU N [s] q.pure)):=by show ig (13,N,M,s) x.id q.pure=_;unfold ig;rw[show cg (λx:dS=>x.id) N q.pure.ai=o_ y.todS from HM.I.2.2];dsimp only;rw[if_neg (show¬y.I=false by rw[HO.I];decide),if_pos nu]
  clear nu afa;go_upto_region 7 with fail;clear x2 x3 x4 o0;have m7:=S.I.fr.box.cells.2.2.2.2.2.2.2;rw[HG.I]at m7;obtain⟨-,-,-,o3⟩:=S.I.op.cells;simp only at o3;have b1:B_ C.heap.size C (C.alloc (c_ #[t_ s] 9)):=(Kp _ _).alloc (Ki _) _;have mP:World.ownsRow (C.alloc (c_ #[t_ s] 9)) C.heap.size 9 1 (s_ (o_ ⟨C.heap.size,0,n_⟩) [s].length 1) [s].length (bT.flat [s]):=IN _ _;have afS:World.cell? (C.alloc (c_ #[t_ s] 9)) ⟨w.heap.size,7,n_⟩=o_ (s_ (o_ ⟨Y5,0,n_⟩) q.ai.length q.aV):=(b1.cell (p:=⟨w.heap.size,7,n_⟩) (av.lt S.I.fr.box)).trans m7;obtain⟨s1,⟨u,c⟩,f⟩:=pg (n:=m) S.I.fr.own (aI.dI b1) HM.I.1 HG.I (cq mP S.I.low) (λg hg=>.inr (cf mP hg).1);replace S:=aA (S.I.call s1);clear s1 mP;simp only[Lg,K4,Li]at S c f;go_upto_region 8 with fail;generalize World.setCell (C.alloc (c_ #[t_ s] 9)) ⟨Y5,m*5+4,n_⟩ (s_ (o_ ⟨C.heap.size,0,n_⟩) 1 1)=E at*;clear m7 afS c f u o3 b1;generalize C.heap.size=gx at*;have CK:da (∃q1:af,q1={q with ai:=q.ai.set m {y with Ma:=[s],ak:=(o_ ⟨gx,0,n_⟩),aq:=1}}/\q1.pure=gU N [s] q.pure/\q1.cells=q.cells/\aQ q1.pure/\q1.L8[n]? =o_ x):=by
   have hq:({q with ai:=q.ai.set m {y with Ma:=[s],ak:=(o_ ⟨gx,0,n_⟩),aq:=1}}:af).pure=gU N [s] q.pure:=sq HR.I.1.ai HM.I.1 HM.I.2.1;have hr2:aQ (gU N [s] q.pure):=by
    refine jj HR.I.1 (λz hz hk=>?_) (λt0 ht=>?_)
    .rw [only HR.I.1.ai HM.I.2.2 hz hk];exact tI.I.2.2.2
    .simp only[Kt,Ku,or_false]at ht;rw[ht];exact IB.I
   exact Zaw
  obtain⟨q1,hq1,hq⟩:=CK.I;rw[<-hq1]at S;have HQ:=aA hq;clear hq1 hq CK;have Mb:=bB (n:=n) 0 S.I.fr.own S.I.low HQ.I.2.2.1 HQ.I.2.2.2 ZbQ;rw[HQ.I.1,HQ.I.2.1]at Mb;exact gz
 rw[nu]at x2;have HU:da (ig (13,N,M,s) x.id q.pure=if(y.Ma.length:Int)=y.max then bu 1 x.id q.pure else bu 0 x.id (gU N (y.Ma++[s]) q.pure)):=by show ig (13,N,M,s) x.id q.pure=_;unfold ig;rw[show cg (λx:dS=>x.id) N q.pure.ai=o_ y.todS from HM.I.2.2];dsimp only;rw[if_neg (show¬y.I=false by rw[HO.I];decide),if_neg (show¬y.Mf=false by rw[nu];decide)]
 have CK:da (y.Mf=true):=nu;clear nu;by_cases hfl:(y.Ma.length:Int)=y.max
 .have HE:da (ig (13,N,M,s) x.id q.pure=bu 1 x.id q.pure):=HU.I.trans (if_pos hfl)
  have e1:((y.Ma.length:Int)==y.max)=true:=by simp[hfl]
  clear hfl;have Mb:=bB (n:=n) 1 S.I.fr.own S.I.low HR.I.1 HR.I.2.1 ZbQ;exact gz
 have HE:da (ig (13,N,M,s) x.id q.pure=bu 0 x.id (gU N (y.Ma++[s]) q.pure)):=HU.I.trans (if_neg hfl);have e1:((y.Ma.length:Int)==y.max)=false:=by simp[hfl]
 have HN:da (¬(y.Ma.length:Int)=y.max):=hfl;clear hfl HU;go_upto_region 11 with fail;clear e1 x2 x3 x4 o0;replace S:=aA (S.I.reads (Kp _ _).drew);replace afa:da (C.drew.heap[X]? =o_ (c_ #[i_ j_ y.id,b_ true,b_ y.Mf,i_ j_ y.max,s_ y.ak y.Ma.length y.aq] 51)/\w.heap.size+3<=X):=afa.I;refine Kr (S:=λw'=>av w' w.heap.size q/\oo w' (w.heap.size+1) (13,N,M,s)/\w'.heap[X]? =o_ (c_ #[i_ j_ y.id,b_ true,b_ y.Mf,i_ j_ y.max,s_ y.ak y.Ma.length y.aq] 51)) ZbG ⟨S.I.fr.box,S.I.op,afa.I.1⟩ (λbN=>?_);generalize C.drew=V2 at*;refine agi 0 bN ?_;refine agi 1 bN ?_;refine agi 2 bN ?_;refine agi 4 bN ?_;refine agi 5 bN ?_;refine agi 7 bN ?_;refine agi 8 bN ?_;clear bN;have hbz:w.heap.size+3<=V2.heap.size:=S.I.fr.sz.2.1;have lW:=(J2.1 afa.I.1).1;have hS:∀W,B_ V2.heap.size V2 W->av W w.heap.size q/\oo W (w.heap.size+1) (13,N,M,s)/\W.heap[X]? =o_ (c_ #[i_ j_ y.id,b_ true,b_ y.Mf,i_ j_ y.max,s_ y.ak y.Ma.length y.aq] 51):=λW hb=>⟨S.I.fr.box.below hb,(hb.block _ zw).trans S.I.op,(hb.block _ lW).trans afa.I.1⟩
 have hil:y.Ma.length<=5:=tI.I.2.1;have wg:da (∀(W:w_)(g:Nat),B_ V2.heap.size V2 W->W.heap[g]? =o_ (c_ #[] 9)->V2.heap.size<=g->∃a5 c5 w5,(Builtin.append_ #[49,49] 49 #[s_ (o_ ⟨g,0,n_⟩) 0 0,s_ y.ak y.Ma.length y.aq]).run J3 W=.ok (s_ a5 y.Ma.length c5) w5/\w5.ownsRow V2.heap.size 9 1 (s_ a5 y.Ma.length c5) y.Ma.length (bT.flat y.Ma)/\B_ V2.heap.size V2 w5/\∀h,V2.heap.size<=h->h≠g->h<W.heap.size->w5.heap[h]? =W.heap[h]?):=λW g hb hg hge=>by
  obtain⟨a5,c5,w5,hap,oe,A7,-⟩:=tO W V2.heap.size g hg hge y.ak y.Ma y.aq (nJ (S.I.fr.own.below hb).at.2.2.2.2.2 HM.I.1) zw hb.size;exact ZaA
 have afR:∀(W:w_)(c:Obj),B_ V2.heap.size V2 W->B_ V2.heap.size V2 (W.alloc c):=λW c hb=>hb.alloc hb.size _
 refine KW (rs:=[3,9]) ZbG zy ?_;refine KX rfl (λK hK=>?_) (KX rfl (λK hK=>?_) KY)
 focus
  have b1:B_ V2.heap.size V2 (V2.alloc (c_ #[] 9)):=afR _ _ (Kp _ _);simp only[KZ,K0,K1];rw[if_pos (by rfl)];go_wp2_with fail;refine hK.out _ _ (hS _ b1) (λbN=>?_);clear hK K bN
  try simp only[pt,sb,s0,s1]
  have b7:B_ V2.heap.size V2 ((V2.alloc (c_ #[] 9)).alloc (c_ #[t_ s] 9)):=afR _ _ b1;refine KW (rs:=[6,9]) ZbG zy ?_;refine KX rfl (λK hK=>?_) (KX rfl (λK hK=>?_) KY)
  focus
   clear b7;obtain⟨a5,c5,w5,hap,oe,iJ,-⟩:=wg.I _ _ b1 (Kj _ _) (Ki _);simp only[KZ,K0,K1];rw[if_pos (by rfl)];refine cM _ _ _ rfl _ _ _ w5 rfl rfl hap ?_;refine hK.out _ _ (hS _ iJ) (λbN=>?_);clear hK K bN
   try simp only[pt,sb,s0,s1]
   refine L7 9 (λK hK=>?_);go_wp2_with fail;refine hK.out _ _ (hS _ (afR _ _ iJ)) (λbN=>?_);clear hK K bN
   try simp only[pt,sb,s0,s1]
   have qJ:da ((w5.alloc (c_ #[t_ s] 9)).ownsRow V2.heap.size 9 1 (s_ a5 y.Ma.length c5) y.Ma.length (bT.flat y.Ma)/\(w5.alloc (c_ #[t_ s] 9)).heap[w5.heap.size]? =o_ (c_ #[t_ s] 9)/\B_ V2.heap.size V2 (w5.alloc (c_ #[t_ s] 9))):=⟨cR oe ((Kp _ _).alloc (Ki _) _),Kj _ _,afR _ _ iJ⟩
   clear hap oe iJ b1 afR hS;generalize w5.alloc (c_ #[t_ s] 9)=w6 at*;generalize w5.heap.size=gx at*
  rotate_left
  focus
   obtain⟨a5,c5,w6,om,qH,jQ,zU⟩:=wg.I _ _ b7 ((PU zy).trans (Kj _ _)) (Ki _);simp only[KZ,K0,K1];rw[if_pos (by rfl)];go_wp2_with fail;refine hK.out _ _ (hS _ b7) (λbN=>?_);clear hK K bN
   try simp only[pt,sb,s0,s1]
   refine L7 6 (λK hK=>?_);refine cM _ _ _ rfl _ _ _ w6 rfl rfl om ?_;refine hK.out _ _ (hS _ jQ) (λbN=>?_);clear hK K bN
   try simp only[pt,sb,s0,s1]
   have qJ:da (w6.ownsRow V2.heap.size 9 1 (s_ a5 y.Ma.length c5) y.Ma.length (bT.flat y.Ma)/\w6.heap[(V2.heap.size+1)]? =o_ (c_ #[t_ s] 9)/\B_ V2.heap.size V2 w6):=⟨qH,(zU _ zw zw ZdQ).trans Zeb,jQ⟩
   clear om qH jQ zU b1 b7 afR hS
 rotate_left 2
 focus
  have b7:B_ V2.heap.size V2 (V2.alloc (c_ #[t_ s] 9)):=afR _ _ (Kp _ _);simp only[KZ,K0,K1];rw[if_pos (by rfl)];go_wp2_with fail;refine hK.out _ _ (hS _ b7) (λbN=>?_);clear hK K bN
  try simp only[pt,sb,s0,s1]
  have b1:B_ V2.heap.size V2 ((V2.alloc (c_ #[t_ s] 9)).alloc (c_ #[] 9)):=afR _ _ b7;refine L7 3 (λK hK=>?_);go_wp2_with fail;refine hK.out _ _ (hS _ b1) (λbN=>?_);clear hK K bN
  try simp only[pt,sb,s0,s1]
  obtain⟨a5,c5,w6,om,qH,jQ,zU⟩:=wg.I ((V2.alloc (c_ #[t_ s] 9)).alloc (c_ #[] 9)) (V2.heap.size+1) b1 (Kq _ _ _) zw;refine L7 6 (λK hK=>?_);refine cM _ _ _ rfl _ _ _ w6 rfl rfl om ?_;refine hK.out _ _ (hS _ jQ) (λbN=>?_);clear hK K bN
  try simp only[pt,sb,s0,s1]
  have qJ:da (w6.ownsRow V2.heap.size 9 1 (s_ a5 y.Ma.length c5) y.Ma.length (bT.flat y.Ma)/\w6.heap[V2.heap.size]? =o_ (c_ #[t_ s] 9)/\B_ V2.heap.size V2 w6):=⟨qH,(zU _ zw zw ZdQ).trans ((PU zy).trans (Kj _ _)),jQ⟩
  clear om qH jQ zU b1 b7 afR hS
 all_goals
  obtain⟨a7,c7,w7,gT,mP,xI,-⟩:=ou w6 V2.heap.size a5 c5 y.Ma qJ.I.1 _ [s] 1 (jO qJ.I.2.1) (by simp only[Lg,K4];omega) qJ.I.2.2.size;have mI:(y.Ma++[s]).length=y.Ma.length+1:=by rw[Lf];rfl
  simp only[Lg,K4,Li]at gT mP;have gh:B_ V2.heap.size V2 w7:=qJ.I.2.2.grown xI qJ.I.2.2.size λc e=>(cf qJ.I.1 (di e)).1
  rw[<-mI]at gT mP;obtain⟨s1,⟨u,c⟩,f⟩:=pg (n:=m) S.I.fr.own (aI.dI gh) HM.I.1 HG.I (cq mP S.I.low) (λg hg=>.inr (cf mP hg).1);rw[mI]at gT s1;refine L7 10 (λK hK=>?_);refine cM _ _ _ rfl _ _ _ w7 rfl rfl gT ?_;refine hK.out _ _ ⟨S.I.fr.box.below gh,(gh.block _ zw).trans S.I.op,(gh.block _ lW).trans afa.I.1⟩ (λbN=>?_);clear hK K bN
  try simp only[pt,sb]
  have wj:av w7 w.heap.size q/\oo w7 (w.heap.size+1) (13,N,M,s)/\w7.heap[X]? =o_ (c_ #[i_ j_ y.id,b_ true,b_ y.Mf,i_ j_ y.max,s_ y.ak y.Ma.length y.aq] 51):=⟨S.I.fr.box.below gh,(gh.block _ zw).trans S.I.op,(gh.block _ lW).trans afa.I.1⟩
  replace S:=aA (S.I.call s1);clear gT mP xI gh qJ wg s1;refine agi 11 wj ?_;refine agi 12 wj ?_;refine KW (rs:=[13]) ZbG zy ?_;refine KX rfl (λK hK=>?_) KY;have uQ:(w7.setCell ⟨Y5,m*5+4,n_⟩ (s_ a7 (y.Ma.length+1) c7)).heap[X]? =o_ (c_ #[i_ j_ y.id,b_ true,b_ y.Mf,i_ j_ y.max,s_ y.ak y.Ma.length y.aq] 51):=(aH (λe=>?_)).trans wj.2.2;rotate_left
  .have h5:=(S.I.fr.lo Y5 (gD (.inr<|.inr<|.inr<|.inr<|.inr<|Zef))).2;have:=afa.I.2;omega
  simp only[KZ,K0,K1];rw[if_pos (by rfl)];go_wp2_with fail;refine hK.out _ _ ⟨S.I.fr.box,S.I.op,uQ⟩ (λbN=>?_);clear hK K bN;refine K3 ZbG ?_ _;clear c f u wj uQ lW hbz;go_upto_region 12 with fail;generalize w7.setCell ⟨Y5,m*5+4,n_⟩ (s_ a7 (y.Ma.length+1) c7)=C at*;have CK:da (∃q1:af,q1={q with ai:=q.ai.set m {y with Ma:=(y.Ma++[s]),ak:=a7,aq:=c7}}/\q1.pure=gU N (y.Ma++[s]) q.pure/\q1.cells=q.cells/\aQ q1.pure/\q1.L8[n]? =o_ x):=by
   have hq:({q with ai:=q.ai.set m {y with Ma:=(y.Ma++[s]),ak:=a7,aq:=c7}}:af).pure=gU N (y.Ma++[s]) q.pure:=sq HR.I.1.ai HM.I.1 HM.I.2.1;have hr2:aQ (gU N (y.Ma++[s]) q.pure):=by
    refine jj HR.I.1 (λz hz hk=>?_) (λt0 ht=>?_)
    .rw [only HR.I.1.ai HM.I.2.2 hz hk,mI];have:=HN.I;have h7:=tI.I.2.2.1;have h8:y.todS.max=y.max:=rfl;push_cast;omega
    .exact (Kg.1 ht).elim (λht=>tI.I.1 t0 ht) (λht=>ZeR)
   exact Zaw
  obtain⟨q1,hq1,hq⟩:=CK.I;rw[<-hq1]at S;have HQ:=aA hq;clear hq1 hq CK;have Mb:=bB (n:=n) 0 S.I.fr.own S.I.low HQ.I.2.2.1 HQ.I.2.2.2 ZbQ;rw[HQ.I.1,HQ.I.2.1]at Mb;go_wp2_with(refine eT _ S.I.fr.box ?_);refine Mb.mono ?_;clear Mb;rintro e A2 ⟨q9,rfl,hp,ht⟩;replace S:=aA (S.I.call ht);have HP:da (q9.pure=_):=hp;clear hp ht;go_wp2_with(refine ec _ _ q9.cells S.I.an ?_);refine gZ results187 S.I.an ?_;exact⟨q9,rfl,HP.I.trans HE.I.symm,S.I.done _⟩
end Go.Proofs.YtckenjkcmajicaaGreat

namespace Go.Proofs.YtckenjkcmajicaaGreat
open Go.Maps
attribute [local go_sem ↓] Kc Kd
def BS:arv 187 14 gC:=by
 refine aqQ λq n bj x N M s w f1 f3 f4 HR HF S=>?_
 go_enter func187,ntmps187
 go_upto_region 1 with fail;generalize((w.alloc (c_ q.cells 46)).alloc (c_ (j9 (14,N,M,s)) 217)).alloc (c_ ar 46)=A at*;obtain⟨-,o1,-,-⟩:=S.I.op.cells;simp only at o1;have hpf:=ef (num:=λx:aM=>x.id) N q.ai 0;have Mb:=uV q N A ZbX S.I.fr.own.at;generalize place (q.ai.map (λx=>x.id)) N 0=z at*;go_wp2_with(refine eT _ S.I.fr.box ?_);refine Mb.mono ?_;clear Mb;rintro e A2 ⟨rfl,hb2⟩;replace S:=aA (S.I.reads hb2);clear hb2 o1;have hfm:=lJ (num:=λx:dS=>x.id) (je:=λx:aM=>x.id) (g:=λx:aM=>x.todS) (λ_=>rfl) (id:=N) q.ai;rcases hpf with⟨hz,hf⟩|⟨m,y,hz,hm,hid,hf⟩
 .subst hz
  rw[hf]at hfm;have HE:da (gC (14,N,M,s) x.id q.pure=bu 3 x.id q.pure):=by show gC (14,N,M,s) x.id q.pure=_;unfold gC;rw[show cg (λx:dS=>x.id) N q.pure.ai=n_ from hfm]
  exact Zbk
 rw[hf]at hfm;rw[Li]at hz;subst hz;have afO:decide ((m:Int)<0)=false:=decide_eq_false zw;have HM:da (q.ai[m]? =o_ y/\y.id=N/\cg (λx:dS=>x.id) N q.pure.ai=o_ y.todS):=⟨hm,hid,hfm⟩
 have hml:=(Lj.1 hm).1;have j0:(0:Int)<=(m:Int):=zw
 have j1:(m:Int)<(q.ai.length:Int):=zw
 clear hm hid hf hfm hml;go_upto_region 2 with fail;replace S:=aA (S.I.reads (Kp _ _).drew);refine aT (λw1=>w1=A2.drew) ZbG rfl ?_;generalize A2.drew=B at*;obtain⟨Y5,iE,hat⟩:=lm S.I.fr.own.at.2.2.2.2.2 HM.I.1;have m7:=S.I.fr.box.cells.2.2.2.2.2.2.2;rw[iE]at m7;have d0:=hat.1;have d1:=hat.2.1;have d2:=hat.2.2.1;have d3:=hat.2.2.2.1;have d4:=hat.2.2.2.2;have HG:da (q.aK=o_ ⟨Y5,0,n_⟩):=iE;clear hat iE;obtain⟨o0,-,-,-⟩:=S.I.op.cells;simp only at o0
 iterate 14 (refine agj ?_)
 refine bk ZbG ?_ _;intro w1 cm;rw[cm];clear cm w1 afO;clear f1 f3 f4;have tI:da ((∀u∈y.Ma,bw u=true)/\y.Ma.length<=5/\(y.Ma.length:Int)<=y.max/\1<=y.max):=by
  have h5:=nB (o:=(14,N,M,s)) HR.I.1 HM.I.2.2;have h6:=An HR.I.1 (Lr.2 ⟨y,KA HM.I.1,rfl⟩);exact ZaG
 cases hu:y.I;rotate_left
 .rw [hu]at d1
  have HE:da (gC (14,N,M,s) x.id q.pure=bu 3 x.id q.pure):=by show gC (14,N,M,s) x.id q.pure=_;unfold gC;rw[show cg (λx:dS=>x.id) N q.pure.ai=o_ y.todS from HM.I.2.2];exact if_pos hu
  exact Zbo
 have HO:da (y.I=false):=hu;clear hu;rw[HO.I]at d1;have h5:=(Kp B.heap.size B).alloc (Ki _) (c_ #[i_ j_ y.id,b_ false,b_ y.Mf,i_ j_ y.max,s_ y.ak y.Ma.length y.aq] 51);have afa:da ((B.alloc (c_ #[i_ j_ y.id,b_ false,b_ y.Mf,i_ j_ y.max,s_ y.ak y.Ma.length y.aq] 51)).heap[B.heap.size]? =o_ (c_ #[i_ j_ y.id,b_ false,b_ y.Mf,i_ j_ y.max,s_ y.ak y.Ma.length y.aq] 51)/\w.heap.size+3<=B.heap.size):=⟨Kj _ _,S.I.fr.sz.2.1⟩
 replace S:=aA (S.I.reads h5);clear h5;go_upto_region 5 with fail;generalize B.alloc (c_ #[i_ j_ y.id,b_ false,b_ y.Mf,i_ j_ y.max,s_ y.ak y.Ma.length y.aq] 51)=C at*;generalize B.heap.size=X at*;clear m7 d0 d1 d2 d3 d4 o0;obtain⟨o0,-,-,-⟩:=S.I.op.cells;simp only at o0;go_upto_region 13 with fail;clear o0;obtain⟨gp,l9,-⟩:=cn S.I.fr.own.at.1 HR.I.2.1;have m2:=S.I.fr.box.cells.2.2.1;have k1:(n:Int)<(q.L8.length:Int):=ZdB
 have k0:(0:Int)<=(n:Int):=zw
 rw[l9]at m2;have ud:da (q.aN=o_ ⟨gp,0,n_⟩):=l9;clear l9;obtain⟨s1,⟨u,c⟩,f⟩:=eY (n:=n) (j:=9) (v:=t_ ⟨#[]⟩) (y:={x with got:=rM}) S.I.fr.own HR.I.2.1 ud.I ⟨rfl,rfl,rfl⟩ (by decide) rfl;have lW:(C.setCell ⟨gp,n*12+9,n_⟩ (t_ ⟨#[]⟩)).heap[X]? =o_ (c_ #[i_ j_ y.id,b_ false,b_ y.Mf,i_ j_ y.max,s_ y.ak y.Ma.length y.aq] 51):=(aH (λe=>ZdI)).trans afa.I.1;replace S:=aA (S.I.call s1);replace afa:=aA (And.intro lW afa.I.2);clear s1 lW;go_upto_region 14 with fail;generalize C.setCell ⟨gp,n*12+9,n_⟩ (t_ ⟨#[]⟩)=D at*;clear m2 c f u;have x4:D.cell? ⟨X,4,n_⟩=o_ (s_ y.ak y.Ma.length y.aq):=Zcj
 cases hit:y.Ma with
 |nil=>
  rw[hit]at x4;have HE:da (gC (14,N,M,s) x.id q.pure=bu 1 x.id (ez rM x.id q.pure)):=by show gC (14,N,M,s) x.id q.pure=_;unfold gC;rw[show cg (λx:dS=>x.id) N q.pure.ai=o_ y.todS from HM.I.2.2];dsimp only;rw[if_neg (show¬y.I=true by rw[HO.I];decide),show y.todS.Ma=[]from hit]
  clear afa hit;obtain⟨q1,hq1,hq⟩:=kg HR.I.1 HR.I.2.1 jX;rw[<-hq1]at S;have HQ:=aA hq;clear hq1 hq;have Mb:=bB (n:=n) 1 S.I.fr.own S.I.low HQ.I.2.2.1 HQ.I.2.2.2 Zcd;rw[HQ.I.1,HQ.I.2.1]at Mb;exact gz
 |cons t0 r=>
  have jA:da (y.Ma=t0::r/\bw t0=true/\∀u∈r,bw u=true):=⟨hit,tI.I.1 t0 Zd0,λu hu=>tI.I.1 u (by rw[hit];simp[hu])⟩
  have il:(0:Int)<(y.Ma.length:Int):=Zd0
  have il3:0<y.Ma.length:=Zd0
  have il4:¬y.Ma.length=0:=zw
  have il2:((y.Ma.length:Int)==0)=false:=by rw[hit];simp;omega
  have HU:da (gC (14,N,M,s) x.id q.pure=bu 0 x.id (if y.Mf then gU N r (ez t0 x.id q.pure)else ez t0 x.id q.pure)):=by show gC (14,N,M,s) x.id q.pure=_;unfold gC;rw[show cg (λx:dS=>x.id) N q.pure.ai=o_ y.todS from HM.I.2.2];dsimp only;rw[if_neg (show¬y.I=true by rw[HO.I];decide),show y.todS.Ma=t0::r from hit]
  clear hit;go_upto_region 16 with fail;clear x4 il2;replace afa:da (D.drew.heap[X]? =o_ (c_ #[i_ j_ y.id,b_ false,b_ y.Mf,i_ j_ y.max,s_ y.ak y.Ma.length y.aq] 51)/\w.heap.size+3<=X):=afa.I;replace S:=aA (S.I.reads (Kp _ _).drew);refine eD (λw1=>w1=D.drew) 9 ZbG rfl ?_;generalize D.drew=E at*;have x4:E.cell? ⟨X,4,n_⟩=o_ (s_ y.ak y.Ma.length y.aq):=Zcj
  obtain⟨abo,hgi,x5⟩:=zl (nJ S.I.fr.own.at.2.2.2.2.2 HM.I.1) (show y.Ma[0]? =o_ t0 by rw[jA.I.1];rfl);rw[hgi]at x4;have m2:=S.I.fr.box.cells.2.2.1;rw[ud.I]at m2;obtain⟨s1,⟨u,c⟩,f⟩:=eY (n:=n) (j:=9) (v:=t_ t0) (x:={x with got:=rM}) (y:={x with got:=t0}) S.I.fr.own (by show(q.L8.set n _)[n]? =_;rw[LU (Lj.1 HR.I.2.1).1]) ud.I ⟨rfl,rfl,rfl⟩ (by decide) rfl;have lW:(E.setCell ⟨gp,n*12+9,n_⟩ (t_ t0)).heap[X]? =o_ (c_ #[i_ j_ y.id,b_ false,b_ y.Mf,i_ j_ y.max,s_ y.ak y.Ma.length y.aq] 51):=(aH (λe=>ZdI)).trans afa.I.1;replace S:=aA (S.I.call s1);replace afa:=aA (And.intro lW afa.I.2);clear s1 lW hgi;simp only[PV]at S
  iterate 9 (refine ly 10 (v:=?_) (o_ _) rfl rfl ZbG (λ_ _ _ h=>h) (bV ZbG ?_) ?_;rotate_left;(intro w0 hS0;subst hS0;go_simp;try with_reducible rfl);simp only[pt,sb,s0,s1])
  refine fL rfl ZbG ZbG ZbG ?_;intro w1 cm;rw[cm];clear cm w1
  go_simp
  generalize E.setCell ⟨gp,n*12+9,n_⟩ (t_ t0)=G at*;clear m2 x4 x5 c f u k0 k1 il il3 il4;obtain⟨q1,hq1,hq⟩:=kg HR.I.1 HR.I.2.1 jA.I.2.1;have HB:da (q1.ai=q.ai/\q1.aK=q.aK/\q1.pure.ai=q.pure.ai):=by rw[hq1];exact⟨rfl,rfl,rfl⟩
  rw[<-hq1]at S;have HQ:=aA hq;clear hq1 hq;have x2:G.cell? ⟨X,2,n_⟩=o_ (b_ y.Mf):=Zcj
  cases nu:y.Mf
  .rw [nu]at x2
   have HE:da (gC (14,N,M,s) x.id q.pure=bu 0 x.id (ez t0 x.id q.pure)):=ZeV
   clear nu afa HU;have Mb:=bB (n:=n) 0 S.I.fr.own S.I.low HQ.I.2.2.1 HQ.I.2.2.2 Zcd;rw[HQ.I.1,HQ.I.2.1]at Mb;exact gz
  rw[nu]at x2;have HE:da (gC (14,N,M,s) x.id q.pure=bu 0 x.id (gU N r (ez t0 x.id q.pure))):=ZeV
  clear nu HU;go_upto_region 18 with fail;clear x2;replace S:=aA (S.I.reads (Kp _ _).drew);replace afa:da (G.drew.heap[X]? =o_ (c_ #[i_ j_ y.id,b_ false,b_ y.Mf,i_ j_ y.max,s_ y.ak y.Ma.length y.aq] 51)/\w.heap.size+3<=X):=afa.I;refine Kr (S:=λw'=>av w' w.heap.size q/\w'.heap[X]? =o_ (c_ #[i_ j_ y.id,b_ false,b_ y.Mf,i_ j_ y.max,s_ y.ak y.Ma.length y.aq] 51)) ZbG ⟨S.I.fr.box,afa.I.1⟩ (λbN=>?_);generalize G.drew=V2 at*;have GO:da (q1.ai[m]? =o_ y):=by rw[HB.I.1];exact HM.I.1
  have il:(1:Int)<=(y.Ma.length:Int):=by rw[jA.I.1];simp;omega
  have af5:(y.Ma.length:Int)<=(y.aq:Int):=by have h5:y.Ma.length<=y.aq:=nV (S.I.fr.own.eR y (KA GO.I));omega
  have ic2:(1:Int)<=(y.aq:Int):=zw
  obtain⟨afs,hTA⟩:∃afs:Option d_,(if y.aq=1 then y.ak else Option.map (λx:d_=>(⟨x.block,x.off+1,n_⟩:d_)) y.ak)=afs:=⟨_,rfl⟩
  refine agi 0 bN ?_;refine agi 1 bN ?_;refine agi 2 bN ?_;refine agi 4 bN ?_;refine agi 5 bN ?_;refine agi 6 bN ?_;clear bN il af5 ic2;have lW:=(J2.1 afa.I.1).1;have hS:∀W,B_ V2.heap.size V2 W->av W w.heap.size q/\W.heap[X]? =o_ (c_ #[i_ j_ y.id,b_ false,b_ y.Mf,i_ j_ y.max,s_ y.ak y.Ma.length y.aq] 51):=λW hb=>⟨S.I.fr.box.below hb,(hb.block _ lW).trans afa.I.1⟩
  have b1:B_ V2.heap.size V2 (V2.alloc (c_ #[] 9)):=(Kp _ _).alloc (Ki _) _;refine L7 3 (λK hK=>?_);go_wp2_with fail;refine hK.out _ _ (hS _ b1) (λbN=>?_);clear hK K bN
  try simp only[pt,sb,s0,s1]
  have hlr:y.Ma.length-1=r.length:=by rw[jA.I.1];rfl
  have pI:y.Ma.drop 1=r:=by rw[jA.I.1];rfl
  have hsrc:=vg (c:=y.aq) (nV (S.I.fr.own.eR y (KA GO.I))) (nJ (S.I.fr.own.below b1).at.2.2.2.2.2 GO.I);rw[hTA]at hsrc;obtain⟨a7,c7,w7,hap,mP,xI,-⟩:=ou (V2.alloc (c_ #[] 9)) V2.heap.size (o_ ⟨V2.heap.size,0,n_⟩) 0 [] (i6 (Kj _ _) (Ki _)) afs (y.Ma.drop 1) (y.aq-1) hsrc (by rw[Ql];have:=tI.I.2.1;show 0+_<=_;omega) b1.size;clear hsrc hTA;have gh:B_ V2.heap.size V2 w7:=b1.grown xI b1.size λc e=>ZfB
  rw[Ql,hlr]at hap mP;simp only[K4,Li,List.nil_append,pI]at hap mP;rw[<-hlr]at hap;obtain⟨s1,⟨u,c⟩,f⟩:=pg (n:=m) S.I.fr.own (aI.dI gh) GO.I (HB.I.2.1.trans HG.I) (cq mP S.I.low) (λg hg=>.inr (cf mP hg).1);rw[<-hlr]at s1;have HLR:da (y.Ma.length-1=r.length):=hlr;clear hlr;refine L7 7 (λK hK=>?_);refine cM _ _ _ rfl _ _ _ w7 rfl rfl hap ?_;refine hK.out _ _ ⟨S.I.fr.box.below gh,(gh.block _ lW).trans afa.I.1⟩ (λbN=>?_);clear hK K bN
  try simp only[pt,sb]
  have wj:av w7 w.heap.size q/\w7.heap[X]? =o_ (c_ #[i_ j_ y.id,b_ false,b_ y.Mf,i_ j_ y.max,s_ y.ak y.Ma.length y.aq] 51):=⟨S.I.fr.box.below gh,(gh.block _ lW).trans afa.I.1⟩
  replace S:=aA (S.I.call s1);clear hap mP xI gh s1 b1 hS;refine agi 8 wj ?_;refine agi 9 wj ?_;have uQ:(w7.setCell ⟨Y5,m*5+4,n_⟩ (s_ a7 (y.Ma.length-1) c7)).heap[X]? =o_ (c_ #[i_ j_ y.id,b_ false,b_ y.Mf,i_ j_ y.max,s_ y.ak y.Ma.length y.aq] 51):=(aH (λe=>by have h5:=(S.I.fr.lo Y5 (gD (.inr<|.inr<|.inr<|.inr<|.inr<|Zef))).2;have:=afa.I.2;omega)).trans wj.2;refine L7 10 (λK hK=>?_);go_wp2_with fail;refine hK.out _ _ ⟨S.I.fr.box,uQ⟩ (λbN=>?_);clear hK K bN;refine K3 ZbG ?_ _;clear c f u wj lW uQ;go_upto_region 19 with fail;generalize w7.setCell ⟨Y5,m*5+4,n_⟩ (s_ a7 (y.Ma.length-1) c7)=J at*;obtain⟨q2,pv⟩:∃q2:af,q2={q1 with ai:=q1.ai.set m {y with Ma:=r,ak:=a7,aq:=c7}}:=⟨_,rfl⟩
  have ky:da (q2.pure=gU N r (ez t0 x.id q.pure)/\q2.cells=q.cells/\aQ q2.pure/\q2.L8[n]? =o_ {x with got:=t0}):=by
   have h5:q2.pure=gU N r q1.pure:=by rw[pv];exact sq HQ.I.2.2.1.ai GO.I HM.I.2.1
   have h6:aQ (gU N r q1.pure):=jj HQ.I.2.2.1 (λz hz hk=>by rw[HB.I.2.2]at hz;rw[only HR.I.1.ai HM.I.2.2 hz hk];have h7:=tI.I.2.2.1;rw[jA.I.1]at h7;have h8:y.todS.max=y.max:=rfl;simp only[Lg]at h7;omega) jA.I.2.2;exact⟨by rw[h5,HQ.I.1],by rw[pv];exact Eq.trans ZcC HQ.I.2.1,by rw[h5];exact h6,by rw[pv];exact HQ.I.2.2.2⟩
  rw[<-pv]at S;clear pv HLR pI afa;have Mb:=bB (n:=n) 0 S.I.fr.own S.I.low ky.I.2.2.1 ky.I.2.2.2 Zcd;rw[ky.I.1,ky.I.2.1]at Mb;exact gz
end Go.Proofs.YtckenjkcmajicaaGreat

namespace Go.Proofs.YtckenjkcmajicaaGreat
open Go.Maps
attribute [local go_sem ↓] Kc Kd
def Aa {p:aE}{y:aD}{N:Int}(h:aQ p)(hf:cg (λx:aD=>x.id) N p.L8=o_ y)(h0:y.Md=0)(hn:p.next<=999999990):aQ (py N p):=by
 have hnx:=bz.1 h.next;refine h.ju (nx:=p.next+1) (f:=λy=>{y with Md:=1,RU:=p.next}) (λ_=>rfl) ⟨zw,zw⟩ λz hz hi=>?_
 have e:=only h.L8 hf hz hi;subst e;obtain⟨-,q1,q2,q3⟩:=h.proc hz;have q4:=iF q1;rw[fG,J7]at q1;have q5:=q1.2;unfold bO at q5;rw[if_pos h0]at q5;simp only[J7,decide_eq_true_eq]at q5;obtain⟨⟨⟨⟨⟨a1,a2⟩,a3⟩,a4⟩,a5⟩,a6⟩:=q5;have q6:jm z.prog=true:=by
  unfold jY at q4;simp only[J7]at q4;exact q4.1.1.1.2
 refine⟨?_,?_,rfl,.inr (.inr rfl)⟩
 .exact ZaJ
 .unfold fF
  rw[Kb];exact Zap
def sP {q q2:af}{n:Nat}{k nx:Int}{x:ao}{f:aD->aD}(hx:q.L8[n]? =o_ x)(hk:¬x.id=k)(hp:q2.pure={q.pure with next:=nx,L8:=ce k f q.pure.L8}):∃x2,q2.L8[n]? =o_ x2/\x2.toaD=x.toaD:=
 tQ (by rw[hp];exact ym (mj hx) hk)
def A0 {q q2:af}{n:Nat}{N:Int}{x:ao}{y:aD}(hr:aQ q.pure)(hx:q.L8[n]? =o_ x)(hs:x.Md=1)(hf:cg (λx:aD=>x.id) N q.pure.L8=o_ y)(h0:y.Md=0)(hn:q.next<=999999990)(hp:q2.pure=py N q.pure):
  aQ q2.pure/\∃x2,q2.L8[n]? =o_ x2/\x2.toaD=x.toaD:=by
 refine⟨by rw[hp];exact Aa hr hf h0 hn,sP hx (λe=>?_) hp⟩
 have:=only hr.L8 hf (iu hx) e
 rw[<-this]at h0;have h2:x.toaD.Md=1:=hs;omega
def BU:arv 188 15 jU:=by
 refine aqQ λq n bj x N M s w f1 f3 f4 HR HF S=>?_
 go_enter func188,ntmps188
 go_upto_region 1 with fail;generalize((w.alloc (c_ q.cells 46)).alloc (c_ (j9 (15,N,M,s)) 217)).alloc (c_ ar 46)=A at*;obtain⟨-,o1,-,-⟩:=S.I.op.cells;simp only at o1;have hpf:=ef (num:=λx:ao=>x.id) N q.L8 0;have Mb:=lS q N A ZbX S.I.fr.own.at;generalize place (q.L8.map (λx=>x.id)) N 0=z at*;go_wp2_with(refine eT _ S.I.fr.box ?_);refine Mb.mono ?_;clear Mb;rintro e A2 ⟨rfl,hb2⟩;replace S:=aA (S.I.reads hb2);clear hb2 o1;have hfm:=lJ (num:=λx:aD=>x.id) (je:=λx:ao=>x.id) (g:=λx:ao=>x.toaD) (λ_=>rfl) (id:=N) q.L8;rcases hpf with⟨hz,hf⟩|⟨m,y,hz,hm,hid,hf⟩
 .subst hz
  rw[hf]at hfm;have HE:da (jU (15,N,M,s) x.id q.pure=bu 3 x.id q.pure):=by show jU (15,N,M,s) x.id q.pure=_;unfold jU;rw[show cg (λx:aD=>x.id) N q.pure.L8=n_ from hfm]
  exact ZbE
 rw[hf]at hfm;rw[Li]at hz;subst hz;have afO:decide ((m:Int)<0)=false:=decide_eq_false zw;have HM:da (q.L8[m]? =o_ y/\y.id=N/\cg (λx:aD=>x.id) N q.pure.L8=o_ y.toaD):=⟨hm,hid,hfm⟩
 have hml:=(Lj.1 hm).1;have j0:(0:Int)<=(m:Int):=zw
 have j1:(m:Int)<(q.L8.length:Int):=zw
 obtain⟨gp,l9,hat⟩:=cn S.I.fr.own.at.1 hm;have HG:da (q.aN=o_ ⟨gp,0,n_⟩):=l9;obtain⟨o0,-,-,-⟩:=S.I.op.cells;simp only at o0;have m2:=S.I.fr.box.cells.2.2.1;rw[l9]at m2;have d3:=hat.2.2.2.1;clear hm hid hf hfm hml hat l9;by_cases h0:y.Md=0;rotate_left
 .have e1:(y.Md==0)=false:=by simp[h0]
  have HE:da (jU (15,N,M,s) x.id q.pure=bu 1 x.id q.pure):=by show jU (15,N,M,s) x.id q.pure=_;unfold jU;rw[show cg (λx:aD=>x.id) N q.pure.L8=o_ y.toaD from HM.I.2.2];exact if_neg h0
  exact ZbF
 have e1:(y.Md==0)=true:=ZfI
 have HE:da (jU (15,N,M,s) x.id q.pure=bu 0 x.id (py N q.pure)):=by show jU (15,N,M,s) x.id q.pure=_;unfold jU;rw[show cg (λx:aD=>x.id) N q.pure.L8=o_ y.toaD from HM.I.2.2];exact if_pos h0
 have HN:da (y.Md=0):=h0;clear h0;obtain⟨s1,⟨u,c⟩,f⟩:=eY (n:=m) (j:=3) (v:=i_ j_ 1) (y:={y with Md:=1}) S.I.fr.own HM.I.1 HG.I ⟨rfl,rfl,rfl⟩ (by decide) rfl;replace S:=aA (S.I.call s1);clear s1;go_upto_region 9 with fail;generalize A2.setCell ⟨gp,m*12+3,n_⟩ (i_ j_ 1)=C at*;clear m2 d3 c f u afO e1 o0 j0 j1;have hq:({q with L8:=q.L8.set m {y with Md:=1}}:af).pure={q.pure with next:=q.next,L8:=ce y.id (λz=>{z with Md:=1}) q.pure.L8}:=g7 (nx:=q.next) HR.I.1.kW HM.I.1 rfl;have Mb:=oT (n:=m) (x:={y with Md:=1}) S.I.fr.own S.I.low (us HR.I.1.kW HM.I.1 rfl) (by show(q.L8.set m _)[m]? =_;rw[LU (Lj.1 HM.I.1).1]) ⟨by have h5:=bz.1 HR.I.1.next;have:q.pure.next=q.next:=rfl;show 0<=q.next;omega,by have:=HR.I.2.2.2.1;show q.next<=_;omega⟩;rw[jd (nx:=q.next),hq]at Mb;have HS:da ({q.pure with next:=q.next+1,L8:=ce y.id (λz=>{z with RU:=q.next}) (ce y.id (λz=>{z with Md:=1}) q.pure.L8)}=py N q.pure):=by show _=py N q.pure;rw[pm (by intro _;rfl),HM.I.2.1];rfl
 clear hq;go_wp2_with(refine eT _ S.I.fr.box ?_);refine Mb.mono ?_;clear Mb;rintro e afl ⟨q2,rfl,hp,ht⟩;replace S:=aA (S.I.call ht);replace hp:=hp.trans HS.I;obtain⟨hr2,x2,hx2,sw⟩:=A0 HR.I.1 HR.I.2.1 HR.I.2.2.1 HM.I.2.2 HN.I HR.I.2.2.2.1 hp;have Mb:=bB (n:=n) 0 S.I.fr.own S.I.low hr2 hx2 ZbZ;rw[show x2.id=x.id from congrArg aD.id sw,hp,<-HE.I]at Mb;clear hp ht hr2 hx2 sw;go_wp2_with fail;refine Mb.mono ?_;clear Mb;rintro e C22 ⟨q3,rfl,hp,ht⟩;replace S:=aA (S.I.call ht);have HP:da (q3.pure=_):=hp;clear hp ht;go_wp2_with(refine ec _ _ q3.cells S.I.an ?_);refine gZ results188 S.I.an ?_;exact⟨q3,rfl,HP.I,S.I.done _⟩
def C9:arv 188 16 lg:=by
 refine aqQ λq n bj x N M s w f1 f3 f4 HR HF S=>?_
 go_enter func188,ntmps188
 go_upto_region 1 with fail;generalize((w.alloc (c_ q.cells 46)).alloc (c_ (j9 (16,N,M,s)) 217)).alloc (c_ ar 46)=A at*;obtain⟨-,o1,-,-⟩:=S.I.op.cells;simp only at o1;have hpf:=ef (num:=λx:ao=>x.id) N q.L8 0;have Mb:=lS q N A ZbX S.I.fr.own.at;generalize place (q.L8.map (λx=>x.id)) N 0=z at*;go_wp2_with(refine eT _ S.I.fr.box ?_);refine Mb.mono ?_;clear Mb;rintro e A2 ⟨rfl,hb2⟩;replace S:=aA (S.I.reads hb2);clear hb2 o1;have hfm:=lJ (num:=λx:aD=>x.id) (je:=λx:ao=>x.id) (g:=λx:ao=>x.toaD) (λ_=>rfl) (id:=N) q.L8;rcases hpf with⟨hz,hf⟩|⟨m,y,hz,hm,hid,hf⟩
 .subst hz
  rw[hf]at hfm;have HE:da (lg (16,N,M,s) x.id q.pure=bu 3 x.id q.pure):=by show lg (16,N,M,s) x.id q.pure=_;unfold lg;rw[show cg (λx:aD=>x.id) N q.pure.L8=n_ from hfm]
  exact ZbE
 rw[hf]at hfm;rw[Li]at hz;subst hz;have afO:decide ((m:Int)<0)=false:=decide_eq_false zw;have HM:da (q.L8[m]? =o_ y/\y.id=N/\cg (λx:aD=>x.id) N q.pure.L8=o_ y.toaD):=⟨hm,hid,hfm⟩
 have hml:=(Lj.1 hm).1;have j0:(0:Int)<=(m:Int):=zw
 have j1:(m:Int)<(q.L8.length:Int):=zw
 obtain⟨gp,l9,hat⟩:=cn S.I.fr.own.at.1 hm;have HG:da (q.aN=o_ ⟨gp,0,n_⟩):=l9;obtain⟨o0,-,-,-⟩:=S.I.op.cells;simp only at o0;have m2:=S.I.fr.box.cells.2.2.1;rw[l9]at m2;have d3:=hat.2.2.2.1;clear hm hid hf hfm hml hat l9;by_cases h0:y.Md=0
 .have e1:(y.Md==0)=true:=by simp[h0]
  have HE:da (lg (16,N,M,s) x.id q.pure=bu 1 x.id q.pure):=by show lg (16,N,M,s) x.id q.pure=_;unfold lg;rw[show cg (λx:aD=>x.id) N q.pure.L8=o_ y.toaD from HM.I.2.2];exact if_pos h0
  exact ZbF
 have e1:(y.Md==0)=false:=ZfI
 have HE:da (lg (16,N,M,s) x.id q.pure=if N=x.id then ot x.id q.pure else bu 0 x.id (ot N q.pure)):=by show lg (16,N,M,s) x.id q.pure=_;unfold lg;rw[show cg (λx:aD=>x.id) N q.pure.L8=o_ y.toaD from HM.I.2.2];exact if_neg h0
 clear h0;go_upto_region 10 with fail;clear m2 d3 afO e1 o0;replace S:=aA (S.I.reads (Kp _ _).drew);have HT:da (∀w1,Xf w bj q q q (16,N,M,s) w1->Ba w.heap.size gp m q y w1):=λw1 h1=>by
  obtain⟨g,hg,hat⟩:=cn h1.fr.own.at.1 HM.I.1;rw[HG.I]at hg;cases hg;exact⟨h1.m2 HG.I,hat⟩
 refine eD (λw1=>Ba w.heap.size gp m q y w1/\da (Xf w bj q q q (16,N,M,s) w1)) 10 ZbG ⟨HT.I _ S.I,S⟩ ?_;clear S
 iterate 8 (refine ly 11 (v:=?_) (o_ _) rfl rfl ZbG (λ_ _ _ h=>h) (bV ZbG ?_) ?_;rotate_left;(intro w0 hS0;obtain⟨⟨o2,d0,d1,d2,d3,d4,d5,d6,d7,d8,d9,tH,tS⟩,hH⟩:=hS0;go_simp;try with_reducible rfl);simp only[pt,sb,s0,s1])
 refine ly 11 (v:=a_ (sy y)) (o_ _) rfl rfl ZbG (λ_ _ _ h=>h) (iZ (f:=189) (args:=#[a_ y.row]) ZbG ?_ ?_) ?_
 .intro w0 hS0
  obtain⟨⟨o2,d0,d1,d2,d3,d4,d5,d6,d7,d8,d9,tH,tS⟩,hH⟩:=hS0
  exact x_
 .intro w0 hS0
  refine(mN y w0).mono ?_;rintro e w2 ⟨rfl,hb2⟩;have h6:=aA (hS0.2.I.reads hb2);exact⟨rfl,HT.I _ h6.I,h6⟩
 simp only[pt,sb,s0,s1]
 (refine ly 11 (v:=?_) (o_ _) rfl rfl ZbG (λ_ _ _ h=>h) (bV ZbG ?_) ?_;rotate_left;(intro w0 hS0;obtain⟨⟨o2,d0,d1,d2,d3,d4,d5,d6,d7,d8,d9,tH,tS⟩,hH⟩:=hS0;go_simp;try with_reducible rfl);simp only[pt,sb,s0,s1])
 refine fL rfl ZbG ZbG ZbG ?_;intro B cm;have S:=cm.2;obtain⟨oC,hto⟩:=GC S.I.fr.own HM.I.1 HG.I;clear cm HT;replace S:=aA (S.I.call hto);clear hto;refine wp_store_mid 125 _ _ rfl gp (m*12) (sy y) rfl rfl oC ZbG ZbG ?_;generalize B.setCells gp (m*12) (sy y).toList=C at*;clear oC;obtain⟨q1,hq1⟩:∃q1:af,q1={q with L8:=q.L8.set m (sW y)}:=⟨_,rfl⟩
 have HQ:da (q1.pure=ot N q.pure/\q1.cells=q.cells/\aQ q1.pure):=by
  have hq:q1.pure=ot N q.pure:=by rw[hq1,<-HM.I.2.1];exact g7 (nx:=q.next) HR.I.1.kW HM.I.1 rfl
  exact⟨hq,by rw[hq1];exact jd (nx:=q.next),by rw[hq];exact nG HR.I.1⟩
 rw[<-hq1]at S;clear hq1;have k1:=(Lj.1 HR.I.2.1).1;by_cases hmn:m=n
 .have e2:((m:Int)==(n:Int))=true:=by simp[hmn]
  have HT:da (q1.pure=lg (16,N,M,s) x.id q.pure):=by
   have e:y=x:=by have h5:=HM.I.1;rw[hmn,HR.I.2.1]at h5;exact(KC h5).symm
   have hN:N=x.id:=by rw[<-HM.I.2.1,e]
   show q1.pure=_
   rw[HE.I,if_pos hN,HQ.I.1,hN]
  clear hmn k1;go_wp2_with(first|(refine eT _ S.I.fr.box ?_)|(refine ec _ _ q.cells S.I.an ?_));refine gZ results188 S.I.an ?_;exact⟨q1,by rw[HQ.I.2.1],HT.I,S.I.done _⟩
 have e2:((m:Int)==(n:Int))=false:=ZbI
 have hne:¬x.id=N:=λe=>by
  have h5:=only HR.I.1.L8 HM.I.2.2 (iu HR.I.2.1) e;have h6:=HR.I.1.kW;rw[P8]at h6;obtain⟨i1,i2⟩:=Lj.1 (mj HR.I.2.1);obtain⟨i3,i4⟩:=Lj.1 (mj HM.I.1);rcases P9 m n with hlt|heq|hgt
  .have:=h6 m n i3 i1 hlt;rw[i2,i4,h5]at this;omega
  .exact hmn heq
  .have:=h6 n m i1 i3 hgt;rw[i2,i4,h5]at this;omega
 have HT:da (lg (16,N,M,s) x.id q.pure=bu 0 x.id (ot N q.pure)):=HE.I.trans (if_neg λe=>hne e.symm);obtain⟨x2,hx2,sw⟩:=sP (nx:=q.pure.next) (f:=j7) HR.I.2.1 hne HQ.I.1;have Mb:=bB (n:=n) 0 S.I.fr.own S.I.low HQ.I.2.2 hx2 ZbZ;rw[show x2.id=x.id from congrArg aD.id sw,HQ.I.1,HQ.I.2.1,<-HT.I]at Mb;clear hmn hne hx2 sw k1;go_wp2_with(refine eT _ S.I.fr.box ?_);refine Mb.mono ?_;clear Mb;rintro e A2 ⟨q2,rfl,hp,ht⟩;replace S:=aA (S.I.call ht);have HP:da (q2.pure=_):=hp;clear hp ht;go_wp2_with(refine ec _ _ q2.cells S.I.an ?_);refine gZ results188 S.I.an ?_;exact⟨q2,rfl,HP.I,S.I.done _⟩
end Go.Proofs.YtckenjkcmajicaaGreat

namespace Go.Proofs.YtckenjkcmajicaaGreat
open Go.Maps
attribute [local go_sem ↓] Kc Kd
structure PBx (W:w_)(bj g:Nat)(x:aM):Prop where
 box:W.heap[g]? =o_ (c_ (cW x) 51)
 mine:W.ownsRow bj 9 1 (s_ x.ak x.Ma.length x.aq) x.Ma.length (bT.flat x.Ma)
def PBx.same {W V:w_}{bj g:Nat}{x:aM}(h:PBx W bj g x)(h1:V.heap[g]? =W.heap[g]?)(h2:∀b∈blk x.ak,V.heap[b]? =W.heap[b]?):PBx V bj g x:=⟨h1.trans h.box,aL h.mine h2⟩
def PBx.below {W V:w_}{bj g:Nat}{x:aM}(h:PBx W bj g x)(hb:B_ W.heap.size W V):PBx V bj g x:=h.same (hb.block _ (J2.1 h.box).1) λ_ hb'=>hb.block _ (cf h.mine hb').2
def acg (x:aM)(its:List ByteArray)(a:Option d_)(c:Nat):aM:={x with Ma:=its,ak:=a,aq:=c}
def PBx.store {V:w_}{bj g c:Nat}{x:aM}{its:List ByteArray}{a:Option d_}(h:V.heap[g]? =o_ (c_ (cW x) 51))(ho:V.ownsRow bj 9 1 (s_ a its.length c) its.length (bT.flat its))(hg:g∉blk a):PBx (V.setCell ⟨g,4,n_⟩ (s_ a its.length c)) bj g (acg x its a c):=
 ⟨cx (i:=4) h,aL ho λ_ hb=>aH λe=>hg (e▸hb)⟩
def abO (s t:dS):dS×dS:=if s.Mf then(abZ (s.Ma.drop (min s.Ma.length (ab4 t))) s,abZ (t.Ma++s.Ma.take (min s.Ma.length (ab4 t))) t)else if s.Ma.length=0 then(s,t)else(s,abZ (s.Ma.take 1) t)
def ab8 (w:w_)(o:gi)(x y:aM)(abn abC:Nat)(e:Ending)(w':w_):Prop:=e=r_ (u_ #[])/\∃x' y':aM,PBx w' abn o.s x'/\PBx w' abC o.t y'/\(x'.todS,y'.todS)=abO x.todS y.todS/\aI w w' (o.s::o.t::(blk x.ak++blk y.ak))/\(∀g∈blk x'.ak,g∈blk x.ak)/\∀g∈blk y'.ak,g∈blk y.ak\/w.heap.size<=g
def abN {W:w_}{B:Nat}{o:gi}(h:W.heap[B]? =o_ (c_ (fz o) 91)):W.cell? ⟨B,4,n_⟩=o_ (p_ (o_ ⟨o.s,0,n_⟩))/\W.cell? ⟨B,5,n_⟩=o_ (p_ (o_ ⟨o.t,0,n_⟩)):=by
 simp[World.cell?,h]
structure LkF (w:w_)(o:gi)(x y:aM)(abn abC:Nat):Prop where
 ne:o.s≠o.t
 hx:∀g∈blk x.ak,g∉blk y.ak/\g≠o.s/\g≠o.t
 hy:∀g∈blk y.ak,g≠o.s/\g≠o.t
 lo:abn<=w.heap.size/\abC<=w.heap.size
 px:dj x.todS=true
 abw:dj y.todS=true
 lt:o.s<w.heap.size/\o.t<w.heap.size
def acN (o:gi)(x y:aM)(abn abC:Nat)(w:w_)(hs:PBx w abn o.s x)(ht:PBx w abC o.t y)(hf:LkF w o x y abn abC):
  k_ J3 37 #[a_ (fz o)] w λe w'=>ab8 w o x y abn abC e w':=by
 have HF:=aA hf;have hz:B_ w.heap.size w (w.alloc (c_ (fz o) 91)):=(Kp _ _).alloc (Ki _) _;have HB:da ((w.alloc (c_ (fz o) 91)).heap[w.heap.size]? =o_ (c_ (fz o) 91)/\PBx (w.alloc (c_ (fz o) 91)) abn o.s x/\PBx (w.alloc (c_ (fz o) 91)) abC o.t y/\B_ w.heap.size w (w.alloc (c_ (fz o) 91))):=⟨Kj _ _,hs.below hz,ht.below hz,hz⟩
 have HI:da (PBx w abn o.s x/\PBx w abC o.t y):=⟨hs,ht⟩
 clear hs ht hf hz
 go_enter func37,ntmps37
 go_upto_region 1 with fail;generalize w.alloc (c_ (fz o) 91)=W0 at*;obtain⟨l4,l5⟩:=abN HB.I.1;obtain⟨u0,u1,u2,u3,u4⟩:=gE HB.I.2.1.box;obtain⟨v0,v1,v2,v3,v4⟩:=gE HB.I.2.2.1.box;cases ab6:x.Mf
 .rw [ab6]at u2
  by_cases hzl:x.Ma.length=0
  .have HZ:da (abO x.todS y.todS=(x.todS,y.todS)):=by show _=_;unfold abO;simp only[ab6];rw[if_neg (by decide),if_pos hzl]
   have hz2:decide (0<x.Ma.length)=false:=decide_eq_false zw;have hz1:¬0<x.Ma.length:=zw
   clear hzl ab6;go_wp2
   go_end0
   exact⟨rfl,x,y,HB.I.2.1,HB.I.2.2.1,HZ.I.symm,aI.dI HB.I.2.2.2,λg hg=>hg,λg hg=>.inl hg⟩
  .have hpx:=abT HF.I.px
   have hl1:x.Ma.length=1:=by have h5:=hpx.2.2.1 ab6;have h6:=hpx.2.2.2.2;rw[show x.todS.max=x.max from rfl]at*;omega
   have HZ:da (abO x.todS y.todS=(x.todS,abZ x.Ma y.todS)):=by show _=_;unfold abO;simp only[ab6];rw[if_neg (by decide),if_neg hzl,KF zw]
   have hz2:decide (0<x.Ma.length)=true:=decide_eq_true zw;have hz1:0<x.Ma.length:=zw
   obtain⟨abo,hgi⟩:∃abo,x.ak=o_ ⟨abo,0,n_⟩:=by
    rcases HB.I.2.1.mine.2 with⟨-,h6⟩|⟨g,cap,cur,h6,-⟩
    .omega
    .simp only[LD]at h6
     exact⟨g,h6.1⟩
   have HGI:=aA hgi;have Jt:=aA hl1;clear hzl ab6 hpx hl1 hgi;go_upto_region 3 with fail;clear l4 l5 u0 u1 u2 u3 u4 v0 v1 v2 v3 v4 hz1 hz2;have HS:da (W0.drew.heap[w.heap.size]? =o_ (c_ (fz o) 91)/\W0.drew.heap[o.s]? =o_ (c_ (cW x) 51)):=⟨HB.I.1,HB.I.2.1.box⟩
   refine Kr (S:=λW=>W.heap[w.heap.size]? =o_ (c_ (fz o) 91)/\W.heap[o.s]? =o_ (c_ (cW x) 51)) ZbG HS.I (λ_=>?_);have pI:B_ W0.heap.size W0 W0.drew:=(Kp _ _).drew;replace HB:da (PBx W0.drew abn o.s x/\PBx W0.drew abC o.t y/\B_ w.heap.size w W0.drew):=⟨HB.I.2.1.below pI,HB.I.2.2.1.below pI,HB.I.2.2.2.trans (pI.mono HB.I.2.2.2.size)⟩
   clear pI;generalize W0.drew=YI at*;refine tt 0 HS.I ?_;refine tt 1 HS.I ?_ (hy:=λw0 hS0=>ZbV);refine tt 2 HS.I ?_;refine tt 3 HS.I ?_ (hy:=λw0 hS0=>ZbV);refine tt 4 HS.I ?_;refine tt 5 HS.I ?_;refine tt 6 HS.I ?_ (hy:=λw0 hS0=>by obtain⟨u0,u1,u2,u3,u4⟩:=gE hS0.2;rw[HGI.I]at u4;go_simp;try with_reducible rfl)
   try simp only[pt,sb,s0,s1]
   refine L7 7 (λQ hQ=>?_);go_wp2_with fail;refine(acV ⟨abo,0,n_⟩ x.Ma x.aq YI (by have:=Jt.I;omega) (by rw[<-HGI.I];exact nP HB.I.1.mine)).mono ?_;rintro e V1 ⟨a',c',rfl,ho,hb⟩;have hvs:=HB.I.2.2.size;have hlt:=HF.I.lt;have HV:da ((V1.heap[w.heap.size]? =o_ (c_ (fz o) 91)/\V1.heap[o.s]? =o_ (c_ (cW x) 51))/\PBx V1 abn o.s x/\V1.heap[o.t]? =o_ (c_ (cW y) 51)/\V1.ownsRow YI.heap.size 9 1 (s_ a' x.Ma.length c') x.Ma.length (bT.flat x.Ma)/\B_ YI.heap.size YI V1):=⟨⟨(hb.block _ (J2.1 HS.I.1).1).trans HS.I.1,(hb.block _ (J2.1 HS.I.2).1).trans HS.I.2⟩,HB.I.1.below hb,(hb.block _ zw).trans HB.I.2.1.box,ho,hb⟩
   clear ho hb hvs hlt;refine hQ.out _ _ HV.I.1 (λ_=>?_);clear hQ Q
   try simp only[pt,sb,s0,s1]
   refine tt 8 HV.I.1 ?_;refine tt 9 HV.I.1 ?_;refine L7 10 (λQ hQ=>?_);obtain⟨-,-,-,-,v4⟩:=gE HV.I.2.2.1;have f4:V1.frozen? ⟨o.t,4,n_⟩=false:=Ze4
   go_wp2_with fail;clear v4 f4;have hvs:=HB.I.2.2.size;have hlt:=HF.I.lt;have hlo:=HF.I.lo;have hnt:∀b,b≠o.t->(V1.setCell ⟨o.t,4,n_⟩ (s_ a' x.Ma.length c')).heap[b]? =V1.heap[b]?:=λb hb=>aH hb
   refine hQ.out _ _ ⟨(hnt _ zw).trans HV.I.1.1,(hnt _ HF.I.ne).trans HV.I.1.2⟩ (λ_=>?_);clear hQ Q;refine K3 ZbG ?_ _;have HE:da (ab8 w o x y abn abC (r_ (u_ #[])) (V1.setCell ⟨o.t,4,n_⟩ (s_ a' x.Ma.length c'))):=by
    have hlow:∀b∈blk a',YI.heap.size<=b:=λb hb=>(cf HV.I.2.2.2.1 hb).1
    refine⟨rfl,x,acg y x.Ma a' c',HV.I.2.1.same (hnt _ HF.I.ne) (λb hb=>hnt b (HF.I.hx b hb).2.2),PBx.store HV.I.2.2.1 (cq HV.I.2.2.2.1 zw) (λhm=>ZdG),HZ.I.symm,?_,λg hg=>hg,λg hg=>.inr ZdC⟩;have h5:aI w V1 (o.s::o.t::(blk x.ak++blk y.ak)):=aI.dI (HB.I.2.2.trans (HV.I.2.2.2.2.mono hvs));exact h5.trans (aI.set (vs:=[_]) zy)
   clear hnt hvs hlt hlo;go_wp2
   go_end0
   exact HE.I
 .rw [ab6]at u2
  obtain⟨-,pm2,-,-,pm5⟩:=abT HF.I.px;obtain⟨tm1,tm2,-,-,tm5⟩:=abT HF.I.abw;obtain⟨N,hN⟩:∃N,min x.Ma.length (ab4 y.todS)=N:=⟨_,rfl⟩
  have hN1:N<=x.Ma.length:=zw
  have hmin:min (y.max-y.Ma.length) (x.Ma.length:Int)=(N:Int):=by rw[<-hN];unfold ab4;omega
  have HZ:da (abO x.todS y.todS=(abZ (x.Ma.drop N) x.todS,abZ (y.Ma++x.Ma.take N) y.todS)):=by show _=_;unfold abO;simp only[ab6,hN,if_true]
  have q1:x.Ma.length<=5:=zw
  have q2:y.Ma.length<=5:=zw
  have q3:(0:Int)<=y.max-y.Ma.length:=zw
  have q4:y.max-y.Ma.length<=5:=zw
  clear hN ab6;go_upto_region 4 with fail;clear l4 l5 u0 u1 u2 u3 u4 v0 v1 v2 v3 v4;have HS:da (W0.drew.heap[w.heap.size]? =o_ (c_ (fz o) 91)/\W0.drew.heap[o.t]? =o_ (c_ (cW y) 51)):=⟨HB.I.1,HB.I.2.2.1.box⟩
  refine Kr (S:=λW=>W.heap[w.heap.size]? =o_ (c_ (fz o) 91)/\W.heap[o.t]? =o_ (c_ (cW y) 51)) ZbG HS.I (λ_=>?_);have pI:B_ W0.heap.size W0 W0.drew:=(Kp _ _).drew;replace HB:da (W0.drew.heap[w.heap.size]? =o_ (c_ (fz o) 91)/\PBx W0.drew abn o.s x/\PBx W0.drew abC o.t y/\B_ w.heap.size w W0.drew):=⟨HB.I.1,HB.I.2.1.below pI,HB.I.2.2.1.below pI,HB.I.2.2.2.trans (pI.mono HB.I.2.2.2.size)⟩
  clear pI;generalize W0.drew=YI at*;refine tt 0 HS.I ?_;refine tt 1 HS.I ?_ (hy:=λw0 hS0=>ZbV);refine tt 2 HS.I ?_;refine tt 3 HS.I ?_;refine tt 4 HS.I ?_ (hy:=λw0 hS0=>Zd4);refine tt 5 HS.I ?_;refine tt 6 HS.I ?_ (hy:=λw0 hS0=>ZbV);refine tt 7 HS.I ?_;refine tt 8 HS.I ?_;refine tt 9 HS.I ?_ (hy:=λw0 hS0=>Zd4);refine tt 10 HS.I ?_;refine tt 11 HS.I ?_;refine tt 12 HS.I ?_;refine K3 ZbG ?_ _;clear HS;obtain⟨l4,l5⟩:=abN HB.I.1;obtain⟨u0,u1,u2,u3,u4⟩:=gE HB.I.2.1.box;go_upto_region 6 with fail;rw[hmin];clear l4 l5 u0 u1 u2 u3 u4 hmin;have hvs:=HB.I.2.2.2.size;have hlt:=HF.I.lt;have HSZ:da (w.heap.size<=YI.heap.size/\o.s<w.heap.size/\o.t<w.heap.size):=⟨hvs,hlt⟩
  have hcap:x.Ma.length<=x.aq:=by
   rcases HB.I.2.1.mine.2 with⟨-,h6⟩|⟨g,cap,cur,h6,-,-,h7,-⟩
   .rw [h6];exact Ky _
   .simp only[LD]at h6;rw[h6.2.2];exact h7
  have n1:(N:Int)<=(x.aq:Int):=zw
  have n2:N<=x.aq:=zw
  have n3:(0:Int)<=(N:Int):=zw
  have n4:(N:Int)<=(x.Ma.length:Int):=zw
  clear hcap hvs hlt;have HS:da (YI.drew.heap[w.heap.size]? =o_ (c_ (fz o) 91)/\YI.drew.heap[o.s]? =o_ (c_ (cW x) 51)):=⟨HB.I.1,HB.I.2.1.box⟩
  refine Kr (S:=λW=>W.heap[w.heap.size]? =o_ (c_ (fz o) 91)/\W.heap[o.s]? =o_ (c_ (cW x) 51)) ZbG HS.I (λ_=>?_);have pI:B_ YI.heap.size YI YI.drew:=(Kp _ _).drew;replace HB:da (YI.drew.heap[w.heap.size]? =o_ (c_ (fz o) 91)/\PBx YI.drew abn o.s x/\PBx YI.drew abC o.t y/\B_ w.heap.size w YI.drew):=⟨HB.I.1,HB.I.2.1.below pI,HB.I.2.2.1.below pI,HB.I.2.2.2.trans (pI.mono HB.I.2.2.2.size)⟩
  replace HSZ:da (w.heap.size<=YI.drew.heap.size/\o.s<w.heap.size/\o.t<w.heap.size):=HSZ.I;clear pI;generalize YI.drew=V1 at*;refine tt 0 HS.I ?_;refine tt 1 HS.I ?_ (hy:=λw0 hS0=>ZbV);refine tt 2 HS.I ?_;refine tt 3 HS.I ?_ (hy:=λw0 hS0=>ZbV);refine tt 4 HS.I ?_;refine tt 5 HS.I ?_;refine tt 7 HS.I ?_;refine tt 8 HS.I ?_ (hy:=λw0 hS0=>ZbV);refine tt 9 HS.I ?_;refine tt 10 HS.I ?_;refine tt 11 HS.I ?_ (hy:=λw0 hS0=>by obtain⟨u0,u1,u2,u3,u4⟩:=gE hS0.2;go_simp;try with_reducible rfl);refine tt 12 HS.I ?_;refine tt 13 HS.I ?_
  try simp only[pt,sb,s0,s1]
  refine L7 6 (λQ hQ=>?_);obtain⟨-,-,-,-,v4⟩:=gE HB.I.2.2.1.box;go_wp2_with fail;clear v4;refine hQ.out _ _ HS.I (λ_=>?_);clear hQ Q
  try simp only[pt,sb,s0,s1]
  have hlt:(x.Ma.take N).length=N:=by rw[Lk];omega
  obtain⟨a3,c3,w3,hr3,Bn,hg3,IJ⟩:=ou V1 abC y.ak y.aq y.Ma HB.I.2.2.1.mine x.ak (x.Ma.take N) x.aq (uM N (nP HB.I.2.1.mine)) (by rw[hlt];omega) (by have:=HSZ.I.1;have:=HF.I.lo;omega);rw[hlt]at hr3;rw[<-Lf]at Bn;have hlen:(y.Ma++x.Ma.take N).length=y.Ma.length+N:=by rw[Lf,hlt]
  have hkg:aI V1 w3 (blk y.ak):=aI.grown (Kp _ _) hg3;have HV:da ((w3.heap[w.heap.size]? =o_ (c_ (fz o) 91)/\w3.heap[o.s]? =o_ (c_ (cW x) 51))/\PBx w3 abn o.s x/\w3.heap[o.t]? =o_ (c_ (cW y) 51)/\w3.ownsRow abC 9 1 (s_ a3 (y.Ma++x.Ma.take N).length c3) (y.Ma++x.Ma.take N).length (bT.flat (y.Ma++x.Ma.take N))/\aI V1 w3 (blk y.ak)/\∀g∈blk a3,g∈blk y.ak\/g=V1.heap.size):=by
   have hz:=HSZ.I;have hyl:∀g∈blk y.ak,g<w.heap.size:=λg hg=>(cf HI.I.2.mine hg).2
   have e1:w3.heap[o.s]? =V1.heap[o.s]?:=hkg.same _ zw λhm=>(HF.I.hy _ hm).1 rfl
   have e2:w3.heap[o.t]? =V1.heap[o.t]?:=hkg.same _ zw λhm=>(HF.I.hy _ hm).2 rfl
   refine⟨⟨(hkg.same _ (J2.1 HS.I.1).1 λhm=>by have:=hyl _ hm;omega).trans HS.I.1,e1.trans HS.I.2⟩,HB.I.2.1.same e1 (λb hb=>hkg.same b (cf HB.I.2.1.mine hb).2 (HF.I.hx b hb).1),e2.trans HB.I.2.2.1.box,Bn,hkg,IJ⟩
  have HR:=aA hr3;clear hr3 Bn hg3 IJ hkg;refine L7 14 (λQ hQ=>?_);refine cM _ _ 49 rfl _ _ _ w3 rfl rfl HR.I ?_;refine hQ.out _ _ HV.I.1 (λ_=>?_);clear hQ Q HR
  try simp only[pt,sb,s0,s1]
  refine tt 15 HV.I.1 ?_;refine tt 16 HV.I.1 ?_;refine L7 17 (λQ hQ=>?_);obtain⟨-,-,-,-,v4⟩:=gE HV.I.2.2.1;have f4:w3.frozen? ⟨o.t,4,n_⟩=false:=Ze4
  go_wp2_with fail;clear v4 f4;have HW:da (((w3.setCell ⟨o.t,4,n_⟩ (s_ a3 (y.Ma.length+N) c3)).heap[w.heap.size]? =o_ (c_ (fz o) 91)/\(w3.setCell ⟨o.t,4,n_⟩ (s_ a3 (y.Ma.length+N) c3)).heap[o.s]? =o_ (c_ (cW x) 51))/\PBx (w3.setCell ⟨o.t,4,n_⟩ (s_ a3 (y.Ma.length+N) c3)) abn o.s x/\PBx (w3.setCell ⟨o.t,4,n_⟩ (s_ a3 (y.Ma.length+N) c3)) abC o.t (acg y (y.Ma++x.Ma.take N) a3 c3)/\aI w (w3.setCell ⟨o.t,4,n_⟩ (s_ a3 (y.Ma.length+N) c3)) (o.t::blk y.ak)/\w.heap.size<(w3.setCell ⟨o.t,4,n_⟩ (s_ a3 (y.Ma.length+N) c3)).heap.size/\∀g∈blk a3,g∈blk y.ak\/w.heap.size<g):=by
   rw[<-hlen];have hz:=HSZ.I;have hv1:w.heap.size<V1.heap.size:=(J2.1 HS.I.1).1;have hnt:∀b,b≠o.t->(w3.setCell ⟨o.t,4,n_⟩ (s_ a3 (y.Ma++x.Ma.take N).length c3)).heap[b]? =w3.heap[b]?:=λb hb=>aH hb
   refine⟨⟨(hnt _ zw).trans HV.I.1.1,(hnt _ HF.I.ne).trans HV.I.1.2⟩,HV.I.2.1.same (hnt _ HF.I.ne) (λb hb=>hnt b (HF.I.hx b hb).2.2),PBx.store HV.I.2.2.1 HV.I.2.2.2.1 (λhm=>?_),?_,?_,λg hg=>?_⟩
   .rcases HV.I.2.2.2.2.2 _ hm with h5|h5
    .exact (HF.I.hy _ h5).2 rfl
    .omega
   .have h5:aI w w3 (o.t::blk y.ak):=(aI.dI HB.I.2.2.2).trans (HV.I.2.2.2.2.1.mono λg hg=>LB _ hg)
    exact h5.trans (aI.set (vs:=[_]) zy)
   .have:=HV.I.2.2.2.2.1.size
    simp[World.setCell];omega
   .rcases HV.I.2.2.2.2.2 g hg with h5|h5
    .exact .inl h5
    .exact .inr zw
  generalize w3.setCell ⟨o.t,4,n_⟩ (s_ a3 (y.Ma.length+N) c3)=V2 at*;refine hQ.out _ _ HW.I.1 (λ_=>?_);clear hQ Q HV HS HB HSZ;refine K3 ZbG ?_ _;go_upto_region 7 with fail;refine Kr (S:=λW=>W.heap[w.heap.size]? =o_ (c_ (fz o) 91)) ZbG HW.I.1.1 (λ_=>?_);have pI:B_ V2.heap.size V2 V2.drew:=(Kp _ _).drew;have HX:da (V2.drew.heap[w.heap.size]? =o_ (c_ (fz o) 91)/\PBx V2.drew abn o.s x/\PBx V2.drew abC o.t (acg y (y.Ma++x.Ma.take N) a3 c3)/\aI w V2.drew (o.t::blk y.ak)/\w.heap.size<V2.drew.heap.size/\∀g∈blk a3,g∈blk y.ak\/w.heap.size<g):=⟨HW.I.1.1,HW.I.2.1.below pI,HW.I.2.2.1.below pI,HW.I.2.2.2.1.trans (aI.dI pI),HW.I.2.2.2.2.1,HW.I.2.2.2.2.2⟩
  clear pI HW;generalize V2.drew=V3 at*;refine tt 0 HX.I.1 ?_;refine tt 1 HX.I.1 ?_ (hy:=λw0 hS0=>Zeu);refine tt 2 HX.I.1 ?_;refine tt 3 HX.I.1 ?_ (hy:=λw0 hS0=>Zeu);refine tt 4 HX.I.1 ?_;refine tt 5 HX.I.1 ?_;refine tt 7 HX.I.1 ?_
  try simp only[pt,sb,s0,s1]
  refine L7 6 (λQ hQ=>?_);obtain⟨-,-,-,-,u4⟩:=gE HX.I.2.1.box;go_wp2_with fail;clear u4;refine hQ.out _ _ HX.I.1 (λ_=>?_);clear hQ Q
  try simp only[pt,sb,s0,s1]
  refine L7 8 (λQ hQ=>?_);go_wp2_with fail;refine(adJ x.ak x.aq N abn x.Ma V3 hN1 zw HX.I.2.1.mine).mono ?_;rintro e V4 ⟨rfl,ho4,hk4⟩;have hlt:=HF.I.lt;have hxl:∀g∈blk x.ak,g<w.heap.size:=λg hg=>(cf HI.I.1.mine hg).2
  have hv3:=HX.I.2.2.2.2.1;have e0:V4.heap[w.heap.size]? =V3.heap[w.heap.size]?:=hk4.same _ zw λhm=>by have:=hxl _ hm;omega
  have e1:V4.heap[o.s]? =V3.heap[o.s]?:=hk4.same _ zw λhm=>(HF.I.hx _ hm).2.1 rfl
  have e2:V4.heap[o.t]? =V3.heap[o.t]?:=hk4.same _ zw λhm=>(HF.I.hx _ hm).2.2 rfl
  have hld:(x.Ma.drop N).length=x.Ma.length-N:=Ql;have HY:da (V4.heap[w.heap.size]? =o_ (c_ (fz o) 91)/\V4.heap[o.s]? =o_ (c_ (cW x) 51)/\PBx V4 abC o.t (acg y (y.Ma++x.Ma.take N) a3 c3)/\V4.ownsRow abn 9 1 (s_ x.ak (x.Ma.drop N).length x.aq) (x.Ma.drop N).length (bT.flat (x.Ma.drop N))/\aI w V4 (o.s::o.t::(blk x.ak++blk y.ak))):=by
   refine⟨e0.trans HX.I.1,e1.trans HX.I.2.1.box,HX.I.2.2.1.same e2 (λb hb=>?_),by rw[hld];exact ho4,?_⟩
   .refine hk4.same b (cf HX.I.2.2.1.mine hb).2 λhm=>?_
    rcases HX.I.2.2.2.2.2 b hb with h5|h5
    .exact (HF.I.hx b hm).1 h5
    .have:=hxl b hm;omega
   .have h5:aI w V3 (o.s::o.t::(blk x.ak++blk y.ak)):=HX.I.2.2.2.1.mono λg hg=>by
     rcases Kt.1 hg with rfl|hg
     .simp
     .simp [hg]
    exact h5.trans (hk4.mono λg hg=>Zdi)
  clear e0 e1 e2 ho4 hk4;refine hQ.out _ _ HY.I.1 (λ_=>?_);clear hQ Q
  try simp only[pt,sb,s0,s1]
  refine tt 9 HY.I.1 ?_;refine tt 10 HY.I.1 ?_;refine L7 11 (λQ hQ=>?_);obtain⟨-,-,-,-,u4⟩:=gE HY.I.2.1;have f4:V4.frozen? ⟨o.s,4,n_⟩=false:=by have h5:=HY.I.2.1;simp[World.frozen?,h5,cW]
  go_wp2_with fail;clear u4 f4;have hnt:∀b,b≠o.s->(V4.setCell ⟨o.s,4,n_⟩ (s_ x.ak (x.Ma.length-N) x.aq)).heap[b]? =V4.heap[b]?:=λb hb=>aH hb
  refine hQ.out _ _ ((hnt _ zw).trans HY.I.1) (λ_=>?_);clear hQ Q;refine K3 ZbG ?_ _;have HE:da (ab8 w o x y abn abC (r_ (u_ #[])) (V4.setCell ⟨o.s,4,n_⟩ (s_ x.ak (x.Ma.length-N) x.aq))):=by
   refine⟨rfl,acg x (x.Ma.drop N) x.ak x.aq,acg y (y.Ma++x.Ma.take N) a3 c3,?_,HY.I.2.2.1.same (hnt _ (λe=>HF.I.ne e.symm)) (λb hb=>hnt b λe=>?_),HZ.I.symm,HY.I.2.2.2.2.trans (aI.set (vs:=[_]) zy),λg hg=>hg,λg hg=>?_⟩
   .rw [<-hld]
    exact PBx.store HY.I.2.1 HY.I.2.2.2.1 λhm=>(HF.I.hx _ hm).2.1 rfl
   .rcases HX.I.2.2.2.2.2 b hb with h5|h5
    .exact (HF.I.hy b h5).1 e
    .omega
   .rcases HX.I.2.2.2.2.2 g hg with h5|h5
    .exact .inl h5
    .exact .inr zw
  clear hnt hlt hxl hv3 hld;go_wp2
  go_end0
  exact HE.I
end Go.Proofs.YtckenjkcmajicaaGreat
