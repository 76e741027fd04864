/- What the proof leans on, part 21. -/
import Derived.Test.YtckenjkcmajicaaGreatOwnF18
import Derived.Test.YtckenjkcmajicaaGreatOwnF19
import Derived.Sort.OwnSortedInts
set_option linter.all false
set_option maxRecDepth 100000
set_option maxHeartbeats 8000000
open Go.Proofs.Tryz
open Go renaming World->w_,Value->v_,Calls->k_,Addr->d_
open Go.Ending renaming returned->r_
open Go.IntKind renaming i64->j_
open Go.Obj renaming cells->c_
open Go.RowKit renaming Below->B_,Hid->bN
open Go.Value renaming int->i_,slice->s_,bool->b_,string->t_,agg->a_,pointer->p_,tuple->u_
open Option renaming some->o_,none->n_
open Go renaming wp_at_succ->Kd,wp_at_zero->Kc
open Go.Proofs.Tryz renaming prog->J3
open List renaming getElem_cons_succ->K1,getElem_cons_zero->K0,getElem_toArray->KZ,length_cons->Lg,length_nil->K4,length_singleton->adg,nil_append->Ll

namespace Go.Proofs.YtckenjkcmajicaaGreat
section
open Go.RowKit Go.Maps
attribute [local go_sem ↓] Kc Kd
def An {p:aE} {y:dS} (h:aQ p) (hy:y∈p.ai):y.max<=5:=by
 have h1:=(cK h.ai y hy).2;unfold dj at h1;simp only [J7] at h1;exact (bz.1 h1.1.1).2
def Av (q:af) (n bi:Nat) (x:ao) (o:dN) (w:w_) (h:ap w bi q) (hb:bi<=w.heap.size) (hr:aQ q.pure) (hx:q.L8[n]? =o_ x) (hs:x.Md=1) (hn:q.next<=999999990) (ho:kc o=true) (hk:o.1=13):
  k_ J3 187 #[a_ q.cells,i_ j_ n,a_ (j9 o)] w (jH w bi q (ig o x.id q.pure)):=by
 obtain ⟨-,f1,f2,f3,f4⟩:=dv ho;have hM:=bz.1 f2;obtain ⟨k,N,M,s⟩:=o;simp only at hk hM f1 f3 f4;subst hk;have HR:bN (aQ q.pure/\q.L8[n]? =o_ x/\x.Md=1/\q.next<=999999990/\(-1<=M/\M<=1000)):=⟨hr,hx,hs,hn,hM⟩
 have HF:=aA (dW hr);clear f2 hr hx hs hn hM ho;have S:=aA (Xf.start (o:=(13,N,M,s)) h hb);clear h hb
 go_enter func187,ntmps187
 go_upto_region 1 with fail;generalize ((w.alloc (c_ q.cells 46)).alloc (c_ (j9 (13,N,M,s)) 217)).alloc (c_ ar 46)=A at *;obtain ⟨-,o1,-,-⟩:=S.I.op.cells;simp only at o1;have hpf:=ef (num:=fun x:aM=>x.id) N q.ai 0;have Mb:=uV q N A Zb4 S.I.fr.own.at;generalize place (q.ai.map (fun x=>x.id)) N 0=z at *;go_wp2_with (refine eT _ S.I.fr.box ?_);refine Mb.mono ?_;clear Mb;rintro e A2 ⟨rfl,hb2⟩;replace S:=aA (S.I.reads hb2);clear hb2 o1;have hfm:=lJ (num:=fun x:dS=>x.id) (je:=fun x:aM=>x.id) (g:=fun x:aM=>x.todS) (fun _=>rfl) (id:=N) q.ai;rcases hpf with ⟨hz,hf⟩ | ⟨m,y,hz,hm,hid,hf⟩
 .subst hz
  rw [hf] at hfm;have HE:bN (ig (13,N,M,s) x.id q.pure=bu 3 x.id q.pure):=by show ig (13,N,M,s) x.id q.pure=_; unfold ig; rw [show cg (fun x:dS=>x.id) N q.pure.ai=n_ from hfm]
  exact ZbB
 rw [hf] at hfm;rw [Li] at hz;subst hz;have afO:decide ((m:Int) < 0)=false:=decide_eq_false zw;have HM:bN (q.ai[m]? =o_ y/\y.id=N/\cg (fun x:dS=>x.id) N q.pure.ai=o_ y.todS):=⟨hm,hid,hfm⟩
 have hml:=(Lj.1 hm).1;have j0:(0:Int)<=(m:Int):=zw
 have j1:(m:Int) < (q.ai.length:Int):=zw
 clear hm hid hf hfm hml;go_upto_region 2 with fail;replace S:=aA (S.I.reads (Kp _ _).drew);refine aT (fun w1=>w1=A2.drew) ZbY rfl ?_;generalize A2.drew=B at *;obtain ⟨Y5,iE,hat⟩:=lm S.I.fr.own.at.2.2.2.2.2 HM.I.1;have m7:=S.I.fr.box.cells.2.2.2.2.2.2.2;rw [iE] at m7;have d0:=hat.1;have d1:=hat.2.1;have d2:=hat.2.2.1;have d3:=hat.2.2.2.1;have d4:=hat.2.2.2.2;have HG:bN (q.aK=o_ ⟨Y5,0,n_⟩):=iE;clear hat iE;obtain ⟨o0,-,-,-⟩:=S.I.op.cells;simp only at o0
 iterate 14 (refine agj ?_)
 refine bk ZbY ?_ _;intro w1 cm;rw [cm];clear cm w1 afO;have IB:bN (bw s=true):=f3;clear f1 f3 f4;have tI:bN ((∀ u∈y.Ma,bw u=true)/\y.Ma.length<=5/\(y.Ma.length:Int)<=y.max/\1<=y.max):=by
  have h5:=nB (o:=(13,N,M,s)) HR.I.1 HM.I.2.2; have h6:=An HR.I.1 (Lr.2 ⟨y,KA HM.I.1,rfl⟩);exact ZaR
 cases hu:y.I
 .rw [hu] at d1
  have HE:bN (ig (13,N,M,s) x.id q.pure=bu 3 x.id q.pure):=by show ig (13,N,M,s) x.id q.pure=_; unfold ig; rw [show cg (fun x:dS=>x.id) N q.pure.ai=o_ y.todS from HM.I.2.2]; exact if_pos hu
  exact ZbF
 have HO:bN (y.I=true):=hu;clear hu;rw [HO.I] at d1;have h5:=(Kp B.heap.size B).alloc (Ki _) (c_ #[i_ j_ y.id,b_ true,b_ y.Mf,i_ j_ y.max,s_ y.ak y.Ma.length y.aq] 51);have afa:bN ((B.alloc (c_ #[i_ j_ y.id,b_ true,b_ y.Mf,i_ j_ y.max,s_ y.ak y.Ma.length y.aq] 51)).heap[B.heap.size]? =o_ (c_ #[i_ j_ y.id,b_ true,b_ y.Mf,i_ j_ y.max,s_ y.ak y.Ma.length y.aq] 51)/\w.heap.size+3<=B.heap.size):=⟨Kj _ _,S.I.fr.sz.2.1⟩
 replace S:=aA (S.I.reads h5);clear h5;go_upto_region 5 with fail;generalize B.alloc (c_ #[i_ j_ y.id,b_ true,b_ y.Mf,i_ j_ y.max,s_ y.ak y.Ma.length y.aq] 51)=C at *;generalize B.heap.size=X at *;clear m7 d0 d1 d2 d3 d4 o0;obtain ⟨o0,-,-,-⟩:=S.I.op.cells;simp only at o0;have x2:C.cell? ⟨X,2,n_⟩=o_ (b_ y.Mf):=by simp [World.cell?,afa.I.1]
 have x3:C.cell? ⟨X,3,n_⟩=o_ (i_ j_ y.max):=by simp [World.cell?,afa.I.1]
 have x4:C.cell? ⟨X,4,n_⟩=o_ (s_ y.ak y.Ma.length y.aq):=by simp [World.cell?,afa.I.1]
 cases nu:y.Mf
 .rw [nu] at x2
  have HE:bN (ig (13,N,M,s) x.id q.pure=bu 0 x.id (gU N [s] q.pure)):=by show ig (13,N,M,s) x.id q.pure=_; unfold ig; rw [show cg (fun x:dS=>x.id) N q.pure.ai=o_ y.todS from HM.I.2.2]; dsimp only; rw [if_neg (show ¬ y.I=false by rw [HO.I]; decide),if_pos nu]
  clear nu afa;go_upto_region 7 with fail;clear x2 x3 x4 o0;have m7:=S.I.fr.box.cells.2.2.2.2.2.2.2;rw [HG.I] at m7;obtain ⟨-,-,-,o3⟩:=S.I.op.cells;simp only at o3;have b1:B_ C.heap.size C (C.alloc (c_ #[t_ s] 9)):=(Kp _ _).alloc (Ki _) _;have mP:World.ownsRow (C.alloc (c_ #[t_ s] 9)) C.heap.size 9 1 (s_ (o_ ⟨C.heap.size,0,n_⟩) [s].length 1) [s].length (bT.flat [s]):=IN _ _;have afS:World.cell? (C.alloc (c_ #[t_ s] 9)) ⟨w.heap.size,7,n_⟩=o_ (s_ (o_ ⟨Y5,0,n_⟩) q.ai.length q.aV):=(b1.cell (p:=⟨w.heap.size,7,n_⟩) (av.lt S.I.fr.box)).trans m7;obtain ⟨s1,⟨u,c⟩,f⟩:=pg (n:=m) S.I.fr.own (aI.dI b1) HM.I.1 HG.I (cq mP S.I.low) (fun g hg=> .inr (cf mP hg).1);replace S:=aA (S.I.call s1);clear s1 mP;simp only [Lg,K4,Li] at S c f;go_upto_region 8 with fail;generalize World.setCell (C.alloc (c_ #[t_ s] 9)) ⟨Y5,m * 5+4,n_⟩ (s_ (o_ ⟨C.heap.size,0,n_⟩) 1 1)=E at *;clear m7 afS c f u o3 b1;generalize C.heap.size=gx at *;have CK:bN (∃ q1:af,q1= { q with ai:=q.ai.set m { y with Ma:= [s],ak:=(o_ ⟨gx,0,n_⟩),aq:=1 } } /\q1.pure=gU N [s] q.pure/\q1.cells=q.cells/\aQ q1.pure/\q1.L8[n]? =o_ x):=by
   have hq:({ q with ai:=q.ai.set m { y with Ma:= [s],ak:=(o_ ⟨gx,0,n_⟩),aq:=1 } } :af).pure=gU N [s] q.pure:=sq HR.I.1.ai HM.I.1 HM.I.2.1;have hr2:aQ (gU N [s] q.pure):=by
    refine jj HR.I.1 (fun z hz hk=> ?_) (fun t0 ht=> ?_)
    .rw [only HR.I.1.ai HM.I.2.2 hz hk]; exact tI.I.2.2.2
    .simp only [Kt,Ku,or_false] at ht; rw [ht]; exact IB.I
   exact ZaD
  obtain ⟨q1,hq1,hq⟩:=CK.I;rw [<- hq1] at S;have HQ:=aA hq;clear hq1 hq CK;have Mb:=bB (n:=n) 0 S.I.fr.own S.I.low HQ.I.2.2.1 HQ.I.2.2.2 Zb6;rw [HQ.I.1,HQ.I.2.1] at Mb;exact gz
 rw [nu] at x2;have HU:bN (ig (13,N,M,s) x.id q.pure=if (y.Ma.length:Int)=y.max then bu 1 x.id q.pure else bu 0 x.id (gU N (y.Ma ++ [s]) q.pure)):=by show ig (13,N,M,s) x.id q.pure=_; unfold ig; rw [show cg (fun x:dS=>x.id) N q.pure.ai=o_ y.todS from HM.I.2.2]; dsimp only; rw [if_neg (show ¬ y.I=false by rw [HO.I]; decide),if_neg (show ¬ y.Mf=false by rw [nu]; decide)]
 have CK:bN (y.Mf=true):=nu;clear nu;by_cases hfl:(y.Ma.length:Int)=y.max
 .have HE:bN (ig (13,N,M,s) x.id q.pure=bu 1 x.id q.pure):=HU.I.trans (if_pos hfl)
  have e1:((y.Ma.length:Int) == y.max)=true:=by simp [hfl]
  clear hfl;have Mb:=bB (n:=n) 1 S.I.fr.own S.I.low HR.I.1 HR.I.2.1 Zb6;exact gz
 have HE:bN (ig (13,N,M,s) x.id q.pure=bu 0 x.id (gU N (y.Ma ++ [s]) q.pure)):=HU.I.trans (if_neg hfl);have e1:((y.Ma.length:Int) == y.max)=false:=by simp [hfl]
 have HN:bN (¬ (y.Ma.length:Int)=y.max):=hfl;clear hfl HU;go_upto_region 11 with fail;clear e1 x2 x3 x4 o0;replace S:=aA (S.I.reads (Kp _ _).drew);replace afa:bN (C.drew.heap[X]? =o_ (c_ #[i_ j_ y.id,b_ true,b_ y.Mf,i_ j_ y.max,s_ y.ak y.Ma.length y.aq] 51)/\w.heap.size+3<=X):=afa.I;refine Kr (S:=fun w'=>av w' w.heap.size q/\oo w' (w.heap.size+1) (13,N,M,s)/\w'.heap[X]? =o_ (c_ #[i_ j_ y.id,b_ true,b_ y.Mf,i_ j_ y.max,s_ y.ak y.Ma.length y.aq] 51)) ZbY ⟨S.I.fr.box,S.I.op,afa.I.1⟩ (fun bE=> ?_);generalize C.drew=V2 at *;refine agi 0 bE ?_;refine agi 1 bE ?_;refine agi 2 bE ?_;refine agi 4 bE ?_;refine agi 5 bE ?_;refine agi 7 bE ?_;refine agi 8 bE ?_;clear bE;have hbz:w.heap.size+3<=V2.heap.size:=S.I.fr.sz.2.1;have lW:=(J2.1 afa.I.1).1;have hS: ∀ W,B_ V2.heap.size V2 W->av W w.heap.size q/\oo W (w.heap.size+1) (13,N,M,s)/\W.heap[X]? =o_ (c_ #[i_ j_ y.id,b_ true,b_ y.Mf,i_ j_ y.max,s_ y.ak y.Ma.length y.aq] 51):=fun W hb=>⟨S.I.fr.box.below hb,(hb.block _ zw).trans S.I.op,(hb.block _ lW).trans afa.I.1⟩
 have hil:y.Ma.length<=5:=tI.I.2.1;have wg:bN (∀ (W:w_) (g:Nat),B_ V2.heap.size V2 W->W.heap[g]? =o_ (c_ #[] 9)->V2.heap.size<=g-> ∃ a5 c5 w5,(Builtin.append_ #[49,49] 49 #[s_ (o_ ⟨g,0,n_⟩) 0 0,s_ y.ak y.Ma.length y.aq]).run J3 W= .ok (s_ a5 y.Ma.length c5) w5/\w5.ownsRow V2.heap.size 9 1 (s_ a5 y.Ma.length c5) y.Ma.length (bT.flat y.Ma)/\B_ V2.heap.size V2 w5/\ ∀ h,V2.heap.size<=h->h≠g->h < W.heap.size->w5.heap[h]? =W.heap[h]?):=fun W g hb hg hge=>by
  obtain ⟨a5,c5,w5,hap,oe,A7,-⟩:=tO W V2.heap.size g hg hge y.ak y.Ma y.aq (nJ (S.I.fr.own.below hb).at.2.2.2.2.2 HM.I.1) zw hb.size;exact ZaJ
 have afR: ∀ (W:w_) (c:Obj),B_ V2.heap.size V2 W->B_ V2.heap.size V2 (W.alloc c):=fun W c hb=>hb.alloc hb.size _
 refine KW (rs:= [3,9]) ZbY zy ?_;refine KX rfl (fun K hK=> ?_) (KX rfl (fun K hK=> ?_) KY)
 focus
  have b1:B_ V2.heap.size V2 (V2.alloc (c_ #[] 9)):=afR _ _ (Kp _ _);simp only [KZ,K0,K1];rw [if_pos (by rfl)];go_wp2_with fail;refine hK.out _ _ (hS _ b1) (fun bE=> ?_);clear hK K bE
  try simp only [pt,sb,s0,s1]
  have b7:B_ V2.heap.size V2 ((V2.alloc (c_ #[] 9)).alloc (c_ #[t_ s] 9)):=afR _ _ b1;refine KW (rs:= [6,9]) ZbY zy ?_;refine KX rfl (fun K hK=> ?_) (KX rfl (fun K hK=> ?_) KY)
  focus
   clear b7;obtain ⟨a5,c5,w5,hap,oe,iJ,-⟩:=wg.I _ _ b1 (Kj _ _) (Ki _);simp only [KZ,K0,K1];rw [if_pos (by rfl)];refine cM _ _ _ rfl _ _ _ w5 rfl rfl hap ?_;refine hK.out _ _ (hS _ iJ) (fun bE=> ?_);clear hK K bE
   try simp only [pt,sb,s0,s1]
   refine L7 9 (fun K hK=> ?_);go_wp2_with fail;refine hK.out _ _ (hS _ (afR _ _ iJ)) (fun bE=> ?_);clear hK K bE
   try simp only [pt,sb,s0,s1]
   have qJ:bN ((w5.alloc (c_ #[t_ s] 9)).ownsRow V2.heap.size 9 1 (s_ a5 y.Ma.length c5) y.Ma.length (bT.flat y.Ma)/\(w5.alloc (c_ #[t_ s] 9)).heap[w5.heap.size]? =o_ (c_ #[t_ s] 9)/\B_ V2.heap.size V2 (w5.alloc (c_ #[t_ s] 9))):=⟨cR oe ((Kp _ _).alloc (Ki _) _),Kj _ _,afR _ _ iJ⟩
   clear hap oe iJ b1 afR hS;generalize w5.alloc (c_ #[t_ s] 9)=w6 at *;generalize w5.heap.size=gx at *
  rotate_left
  focus
   obtain ⟨a5,c5,w6,om,qH,jQ,zU⟩:=wg.I _ _ b7 ((PU zy).trans (Kj _ _)) (Ki _);simp only [KZ,K0,K1];rw [if_pos (by rfl)];go_wp2_with fail;refine hK.out _ _ (hS _ b7) (fun bE=> ?_);clear hK K bE
   try simp only [pt,sb,s0,s1]
   refine L7 6 (fun K hK=> ?_);refine cM _ _ _ rfl _ _ _ w6 rfl rfl om ?_;refine hK.out _ _ (hS _ jQ) (fun bE=> ?_);clear hK K bE
   try simp only [pt,sb,s0,s1]
   have qJ:bN (w6.ownsRow V2.heap.size 9 1 (s_ a5 y.Ma.length c5) y.Ma.length (bT.flat y.Ma)/\w6.heap[(V2.heap.size+1)]? =o_ (c_ #[t_ s] 9)/\B_ V2.heap.size V2 w6):=⟨qH,(zU _ zw zw ZcE).trans ZcK,jQ⟩
   clear om qH jQ zU b1 b7 afR hS
 rotate_left 2
 focus
  have b7:B_ V2.heap.size V2 (V2.alloc (c_ #[t_ s] 9)):=afR _ _ (Kp _ _);simp only [KZ,K0,K1];rw [if_pos (by rfl)];go_wp2_with fail;refine hK.out _ _ (hS _ b7) (fun bE=> ?_);clear hK K bE
  try simp only [pt,sb,s0,s1]
  have b1:B_ V2.heap.size V2 ((V2.alloc (c_ #[t_ s] 9)).alloc (c_ #[] 9)):=afR _ _ b7;refine L7 3 (fun K hK=> ?_);go_wp2_with fail;refine hK.out _ _ (hS _ b1) (fun bE=> ?_);clear hK K bE
  try simp only [pt,sb,s0,s1]
  obtain ⟨a5,c5,w6,om,qH,jQ,zU⟩:=wg.I ((V2.alloc (c_ #[t_ s] 9)).alloc (c_ #[] 9)) (V2.heap.size+1) b1 (Kq _ _ _) zw;refine L7 6 (fun K hK=> ?_);refine cM _ _ _ rfl _ _ _ w6 rfl rfl om ?_;refine hK.out _ _ (hS _ jQ) (fun bE=> ?_);clear hK K bE
  try simp only [pt,sb,s0,s1]
  have qJ:bN (w6.ownsRow V2.heap.size 9 1 (s_ a5 y.Ma.length c5) y.Ma.length (bT.flat y.Ma)/\w6.heap[V2.heap.size]? =o_ (c_ #[t_ s] 9)/\B_ V2.heap.size V2 w6):=⟨qH,(zU _ zw zw ZcE).trans ((PU zy).trans (Kj _ _)),jQ⟩
  clear om qH jQ zU b1 b7 afR hS
 all_goals
  obtain ⟨a7,c7,w7,gT,mP,xI,-⟩:=ou w6 V2.heap.size a5 c5 y.Ma qJ.I.1 _ [s] 1 (jO qJ.I.2.1) (by simp only [Lg,K4]; omega) qJ.I.2.2.size;have mI:(y.Ma ++ [s]).length=y.Ma.length+1:=by rw [Lf]; rfl
  simp only [Lg,K4,Li] at gT mP;have gh:B_ V2.heap.size V2 w7:=qJ.I.2.2.grown xI qJ.I.2.2.size fun c e=>(cf qJ.I.1 (di e)).1
  rw [<- mI] at gT mP;obtain ⟨s1,⟨u,c⟩,f⟩:=pg (n:=m) S.I.fr.own (aI.dI gh) HM.I.1 HG.I (cq mP S.I.low) (fun g hg=> .inr (cf mP hg).1);rw [mI] at gT s1;refine L7 10 (fun K hK=> ?_);refine cM _ _ _ rfl _ _ _ w7 rfl rfl gT ?_;refine hK.out _ _ ⟨S.I.fr.box.below gh,(gh.block _ zw).trans S.I.op,(gh.block _ lW).trans afa.I.1⟩ (fun bE=> ?_);clear hK K bE
  try simp only [pt,sb]
  have wj:av w7 w.heap.size q/\oo w7 (w.heap.size+1) (13,N,M,s)/\w7.heap[X]? =o_ (c_ #[i_ j_ y.id,b_ true,b_ y.Mf,i_ j_ y.max,s_ y.ak y.Ma.length y.aq] 51):=⟨S.I.fr.box.below gh,(gh.block _ zw).trans S.I.op,(gh.block _ lW).trans afa.I.1⟩
  replace S:=aA (S.I.call s1);clear gT mP xI gh qJ wg s1;refine agi 11 wj ?_;refine agi 12 wj ?_;refine KW (rs:= [13]) ZbY zy ?_;refine KX rfl (fun K hK=> ?_) KY;have uQ:(w7.setCell ⟨Y5,m * 5+4,n_⟩ (s_ a7 (y.Ma.length+1) c7)).heap[X]? =o_ (c_ #[i_ j_ y.id,b_ true,b_ y.Mf,i_ j_ y.max,s_ y.ak y.Ma.length y.aq] 51):=(aH (fun e=> ?_)).trans wj.2.2;rotate_left
  .have h5:=(S.I.fr.lo Y5 (gD (.inr <| .inr <| .inr <| .inr <| .inr <| (by rw [HG.I]; simp [blk])))).2; have:=afa.I.2; omega
  simp only [KZ,K0,K1];rw [if_pos (by rfl)];go_wp2_with fail;refine hK.out _ _ ⟨S.I.fr.box,S.I.op,uQ⟩ (fun bE=> ?_);clear hK K bE;refine K3 ZbY ?_ _;clear c f u wj uQ lW hbz;go_upto_region 12 with fail;generalize w7.setCell ⟨Y5,m * 5+4,n_⟩ (s_ a7 (y.Ma.length+1) c7)=C at *;have CK:bN (∃ q1:af,q1= { q with ai:=q.ai.set m { y with Ma:=(y.Ma ++ [s]),ak:=a7,aq:=c7 } } /\q1.pure=gU N (y.Ma ++ [s]) q.pure/\q1.cells=q.cells/\aQ q1.pure/\q1.L8[n]? =o_ x):=by
   have hq:({ q with ai:=q.ai.set m { y with Ma:=(y.Ma ++ [s]),ak:=a7,aq:=c7 } } :af).pure=gU N (y.Ma ++ [s]) q.pure:=sq HR.I.1.ai HM.I.1 HM.I.2.1;have hr2:aQ (gU N (y.Ma ++ [s]) q.pure):=by
    refine jj HR.I.1 (fun z hz hk=> ?_) (fun t0 ht=> ?_)
    .rw [only HR.I.1.ai HM.I.2.2 hz hk,mI]; have:=HN.I; have h7:=tI.I.2.2.1; have h8:y.todS.max=y.max:=rfl; push_cast; omega
    .exact (Kg.1 ht).elim (fun ht=>tI.I.1 t0 ht) (fun ht=>by simp only [Kt,Ku,or_false] at ht; rw [ht]; exact IB.I)
   exact ZaD
  obtain ⟨q1,hq1,hq⟩:=CK.I;rw [<- hq1] at S;have HQ:=aA hq;clear hq1 hq CK;have Mb:=bB (n:=n) 0 S.I.fr.own S.I.low HQ.I.2.2.1 HQ.I.2.2.2 Zb6;rw [HQ.I.1,HQ.I.2.1] at Mb;go_wp2_with (refine eT _ S.I.fr.box ?_);refine Mb.mono ?_;clear Mb;rintro e A2 ⟨q9,rfl,hp,ht⟩;replace S:=aA (S.I.call ht);have HP:bN (q9.pure=_):=hp;clear hp ht;go_wp2_with (refine ec _ _ q9.cells S.I.an ?_);refine gZ results187 S.I.an ?_;exact ⟨q9,rfl,HP.I.trans HE.I.symm,S.I.done _⟩
def BS (q:af) (n bi:Nat) (x:ao) (o:dN) (w:w_) (h:ap w bi q) (hb:bi<=w.heap.size) (hr:aQ q.pure) (hx:q.L8[n]? =o_ x) (hs:x.Md=1) (hn:q.next<=999999990) (ho:kc o=true) (hk:o.1=14):
  k_ J3 187 #[a_ q.cells,i_ j_ n,a_ (j9 o)] w (jH w bi q (gC o x.id q.pure)):=by
 obtain ⟨-,f1,f2,f3,f4⟩:=dv ho;have hM:=bz.1 f2;obtain ⟨k,N,M,s⟩:=o;simp only at hk hM f1 f3 f4;subst hk;have HR:bN (aQ q.pure/\q.L8[n]? =o_ x/\x.Md=1/\q.next<=999999990/\(-1<=M/\M<=1000)):=⟨hr,hx,hs,hn,hM⟩
 have HF:=aA (dW hr);clear f2 hr hx hs hn hM ho;have S:=aA (Xf.start (o:=(14,N,M,s)) h hb);clear h hb
 go_enter func187,ntmps187
 go_upto_region 1 with fail;generalize ((w.alloc (c_ q.cells 46)).alloc (c_ (j9 (14,N,M,s)) 217)).alloc (c_ ar 46)=A at *;obtain ⟨-,o1,-,-⟩:=S.I.op.cells;simp only at o1;have hpf:=ef (num:=fun x:aM=>x.id) N q.ai 0;have Mb:=uV q N A Zb4 S.I.fr.own.at;generalize place (q.ai.map (fun x=>x.id)) N 0=z at *;go_wp2_with (refine eT _ S.I.fr.box ?_);refine Mb.mono ?_;clear Mb;rintro e A2 ⟨rfl,hb2⟩;replace S:=aA (S.I.reads hb2);clear hb2 o1;have hfm:=lJ (num:=fun x:dS=>x.id) (je:=fun x:aM=>x.id) (g:=fun x:aM=>x.todS) (fun _=>rfl) (id:=N) q.ai;rcases hpf with ⟨hz,hf⟩ | ⟨m,y,hz,hm,hid,hf⟩
 .subst hz
  rw [hf] at hfm;have HE:bN (gC (14,N,M,s) x.id q.pure=bu 3 x.id q.pure):=by show gC (14,N,M,s) x.id q.pure=_; unfold gC; rw [show cg (fun x:dS=>x.id) N q.pure.ai=n_ from hfm]
  exact ZbB
 rw [hf] at hfm;rw [Li] at hz;subst hz;have afO:decide ((m:Int) < 0)=false:=decide_eq_false zw;have HM:bN (q.ai[m]? =o_ y/\y.id=N/\cg (fun x:dS=>x.id) N q.pure.ai=o_ y.todS):=⟨hm,hid,hfm⟩
 have hml:=(Lj.1 hm).1;have j0:(0:Int)<=(m:Int):=zw
 have j1:(m:Int) < (q.ai.length:Int):=zw
 clear hm hid hf hfm hml;go_upto_region 2 with fail;replace S:=aA (S.I.reads (Kp _ _).drew);refine aT (fun w1=>w1=A2.drew) ZbY rfl ?_;generalize A2.drew=B at *;obtain ⟨Y5,iE,hat⟩:=lm S.I.fr.own.at.2.2.2.2.2 HM.I.1;have m7:=S.I.fr.box.cells.2.2.2.2.2.2.2;rw [iE] at m7;have d0:=hat.1;have d1:=hat.2.1;have d2:=hat.2.2.1;have d3:=hat.2.2.2.1;have d4:=hat.2.2.2.2;have HG:bN (q.aK=o_ ⟨Y5,0,n_⟩):=iE;clear hat iE;obtain ⟨o0,-,-,-⟩:=S.I.op.cells;simp only at o0
 iterate 14 (refine agj ?_)
 refine bk ZbY ?_ _;intro w1 cm;rw [cm];clear cm w1 afO;clear f1 f3 f4;have tI:bN ((∀ u∈y.Ma,bw u=true)/\y.Ma.length<=5/\(y.Ma.length:Int)<=y.max/\1<=y.max):=by
  have h5:=nB (o:=(14,N,M,s)) HR.I.1 HM.I.2.2; have h6:=An HR.I.1 (Lr.2 ⟨y,KA HM.I.1,rfl⟩);exact ZaR
 cases hu:y.I;rotate_left
 .rw [hu] at d1
  have HE:bN (gC (14,N,M,s) x.id q.pure=bu 3 x.id q.pure):=by show gC (14,N,M,s) x.id q.pure=_; unfold gC; rw [show cg (fun x:dS=>x.id) N q.pure.ai=o_ y.todS from HM.I.2.2]; exact if_pos hu
  exact ZbF
 have HO:bN (y.I=false):=hu;clear hu;rw [HO.I] at d1;have h5:=(Kp B.heap.size B).alloc (Ki _) (c_ #[i_ j_ y.id,b_ false,b_ y.Mf,i_ j_ y.max,s_ y.ak y.Ma.length y.aq] 51);have afa:bN ((B.alloc (c_ #[i_ j_ y.id,b_ false,b_ y.Mf,i_ j_ y.max,s_ y.ak y.Ma.length y.aq] 51)).heap[B.heap.size]? =o_ (c_ #[i_ j_ y.id,b_ false,b_ y.Mf,i_ j_ y.max,s_ y.ak y.Ma.length y.aq] 51)/\w.heap.size+3<=B.heap.size):=⟨Kj _ _,S.I.fr.sz.2.1⟩
 replace S:=aA (S.I.reads h5);clear h5;go_upto_region 5 with fail;generalize B.alloc (c_ #[i_ j_ y.id,b_ false,b_ y.Mf,i_ j_ y.max,s_ y.ak y.Ma.length y.aq] 51)=C at *;generalize B.heap.size=X at *;clear m7 d0 d1 d2 d3 d4 o0;obtain ⟨o0,-,-,-⟩:=S.I.op.cells;simp only at o0;go_upto_region 13 with fail;clear o0;obtain ⟨gp,l9,-⟩:=cn S.I.fr.own.at.1 HR.I.2.1;have m2:=S.I.fr.box.cells.2.2.1;have k1:(n:Int) < (q.L8.length:Int):=by have:=(Lj.1 HR.I.2.1).1; omega
 have k0:(0:Int)<=(n:Int):=zw
 rw [l9] at m2;have ud:bN (q.aN=o_ ⟨gp,0,n_⟩):=l9;clear l9;obtain ⟨s1,⟨u,c⟩,f⟩:=eY (n:=n) (j:=9) (v:=t_ ⟨#[]⟩) (y:= { x with got:=rM }) S.I.fr.own HR.I.2.1 ud.I ⟨rfl,rfl,rfl⟩ (by decide) rfl;have lW:(C.setCell ⟨gp,n * 12+9,n_⟩ (t_ ⟨#[]⟩)).heap[X]? =o_ (c_ #[i_ j_ y.id,b_ false,b_ y.Mf,i_ j_ y.max,s_ y.ak y.Ma.length y.aq] 51):=(aH (fun e=>by have h5:=(S.I.fr.lo gp (gD (.inl (by rw [ud.I]; simp [blk])))).2; have:=afa.I.2; omega)).trans afa.I.1;replace S:=aA (S.I.call s1);replace afa:=aA (And.intro lW afa.I.2);clear s1 lW;go_upto_region 14 with fail;generalize C.setCell ⟨gp,n * 12+9,n_⟩ (t_ ⟨#[]⟩)=D at *;clear m2 c f u;have x4:D.cell? ⟨X,4,n_⟩=o_ (s_ y.ak y.Ma.length y.aq):=by simp [World.cell?,afa.I.1]
 cases hit:y.Ma with
 | nil=>
  rw [hit] at x4;have HE:bN (gC (14,N,M,s) x.id q.pure=bu 1 x.id (ez rM x.id q.pure)):=by show gC (14,N,M,s) x.id q.pure=_; unfold gC; rw [show cg (fun x:dS=>x.id) N q.pure.ai=o_ y.todS from HM.I.2.2]; dsimp only; rw [if_neg (show ¬ y.I=true by rw [HO.I]; decide),show y.todS.Ma= [] from hit]
  clear afa hit;obtain ⟨q1,hq1,hq⟩:=kg HR.I.1 HR.I.2.1 jX;rw [<- hq1] at S;have HQ:=aA hq;clear hq1 hq;have Mb:=bB (n:=n) 1 S.I.fr.own S.I.low HQ.I.2.2.1 HQ.I.2.2.2 Zcb;rw [HQ.I.1,HQ.I.2.1] at Mb;exact gz
 | cons t0 r=>
  have jA:bN (y.Ma=t0 :: r/\bw t0=true/\ ∀ u∈r,bw u=true):=⟨hit,tI.I.1 t0 (by rw [hit]; simp),fun u hu=>tI.I.1 u (by rw [hit]; simp [hu])⟩
  have il:(0:Int) < (y.Ma.length:Int):=by rw [hit]; simp
  have il3:0 < y.Ma.length:=by rw [hit]; simp
  have il4: ¬ y.Ma.length=0:=zw
  have il2:((y.Ma.length:Int) == 0)=false:=by rw [hit]; simp; omega
  have HU:bN (gC (14,N,M,s) x.id q.pure=bu 0 x.id (if y.Mf then gU N r (ez t0 x.id q.pure) else ez t0 x.id q.pure)):=by show gC (14,N,M,s) x.id q.pure=_; unfold gC; rw [show cg (fun x:dS=>x.id) N q.pure.ai=o_ y.todS from HM.I.2.2]; dsimp only; rw [if_neg (show ¬ y.I=true by rw [HO.I]; decide),show y.todS.Ma=t0 :: r from hit]
  clear hit;go_upto_region 16 with fail;clear x4 il2;replace afa:bN (D.drew.heap[X]? =o_ (c_ #[i_ j_ y.id,b_ false,b_ y.Mf,i_ j_ y.max,s_ y.ak y.Ma.length y.aq] 51)/\w.heap.size+3<=X):=afa.I;replace S:=aA (S.I.reads (Kp _ _).drew);refine eD (fun w1=>w1=D.drew) 9 ZbY rfl ?_;generalize D.drew=E at *;have x4:E.cell? ⟨X,4,n_⟩=o_ (s_ y.ak y.Ma.length y.aq):=by simp [World.cell?,afa.I.1]
  obtain ⟨abo,hgi,x5⟩:=zl (nJ S.I.fr.own.at.2.2.2.2.2 HM.I.1) (show y.Ma[0]? =o_ t0 by rw [jA.I.1]; rfl);rw [hgi] at x4;have m2:=S.I.fr.box.cells.2.2.1;rw [ud.I] at m2;obtain ⟨s1,⟨u,c⟩,f⟩:=eY (n:=n) (j:=9) (v:=t_ t0) (x:= { x with got:=rM }) (y:= { x with got:=t0 }) S.I.fr.own (by show (q.L8.set n _)[n]? =_; rw [LU (Lj.1 HR.I.2.1).1]) ud.I ⟨rfl,rfl,rfl⟩ (by decide) rfl;have lW:(E.setCell ⟨gp,n * 12+9,n_⟩ (t_ t0)).heap[X]? =o_ (c_ #[i_ j_ y.id,b_ false,b_ y.Mf,i_ j_ y.max,s_ y.ak y.Ma.length y.aq] 51):=(aH (fun e=>by have h5:=(S.I.fr.lo gp (gD (.inl (by rw [ud.I]; simp [blk])))).2; have:=afa.I.2; omega)).trans afa.I.1;replace S:=aA (S.I.call s1);replace afa:=aA (And.intro lW afa.I.2);clear s1 lW hgi;simp only [PV] at S
  iterate 9 (refine ly 10 (v:= ?_) (o_ _) rfl rfl ZbY (fun _ _ _ h=>h) (bV ZbY ?_) ?_; rotate_left; (intro w0 hS0; subst hS0; go_simp; try with_reducible rfl); simp only [pt,sb,s0,s1])
  refine fL rfl ZbY ZbY ZbY ?_;intro w1 cm;rw [cm];clear cm w1
  go_simp
  generalize E.setCell ⟨gp,n * 12+9,n_⟩ (t_ t0)=G at *;clear m2 x4 x5 c f u k0 k1 il il3 il4;obtain ⟨q1,hq1,hq⟩:=kg HR.I.1 HR.I.2.1 jA.I.2.1;have HB:bN (q1.ai=q.ai/\q1.aK=q.aK/\q1.pure.ai=q.pure.ai):=by rw [hq1]; exact ⟨rfl,rfl,rfl⟩
  rw [<- hq1] at S;have HQ:=aA hq;clear hq1 hq;have x2:G.cell? ⟨X,2,n_⟩=o_ (b_ y.Mf):=by simp [World.cell?,afa.I.1]
  cases nu:y.Mf
  .rw [nu] at x2
   have HE:bN (gC (14,N,M,s) x.id q.pure=bu 0 x.id (ez t0 x.id q.pure)):=by show gC (14,N,M,s) x.id q.pure=_; rw [HU.I,nu]; rfl
   clear nu afa HU;have Mb:=bB (n:=n) 0 S.I.fr.own S.I.low HQ.I.2.2.1 HQ.I.2.2.2 Zcb;rw [HQ.I.1,HQ.I.2.1] at Mb;exact gz
  rw [nu] at x2;have HE:bN (gC (14,N,M,s) x.id q.pure=bu 0 x.id (gU N r (ez t0 x.id q.pure))):=by show gC (14,N,M,s) x.id q.pure=_; rw [HU.I,nu]; rfl
  clear nu HU;go_upto_region 18 with fail;clear x2;replace S:=aA (S.I.reads (Kp _ _).drew);replace afa:bN (G.drew.heap[X]? =o_ (c_ #[i_ j_ y.id,b_ false,b_ y.Mf,i_ j_ y.max,s_ y.ak y.Ma.length y.aq] 51)/\w.heap.size+3<=X):=afa.I;refine Kr (S:=fun w'=>av w' w.heap.size q/\w'.heap[X]? =o_ (c_ #[i_ j_ y.id,b_ false,b_ y.Mf,i_ j_ y.max,s_ y.ak y.Ma.length y.aq] 51)) ZbY ⟨S.I.fr.box,afa.I.1⟩ (fun bE=> ?_);generalize G.drew=V2 at *;have GO:bN (q1.ai[m]? =o_ y):=by rw [HB.I.1]; exact HM.I.1
  have il:(1:Int)<=(y.Ma.length:Int):=by rw [jA.I.1]; simp; omega
  have af5:(y.Ma.length:Int)<=(y.aq:Int):=by have h5:y.Ma.length<=y.aq:=nV (S.I.fr.own.eR y (KA GO.I)); omega
  have ic2:(1:Int)<=(y.aq:Int):=zw
  obtain ⟨afs,hTA⟩: ∃ afs:Option d_,(if y.aq=1 then y.ak else Option.map (fun x:d_=>(⟨x.block,x.off+1,n_⟩:d_)) y.ak)=afs:=⟨_,rfl⟩
  refine agi 0 bE ?_;refine agi 1 bE ?_;refine agi 2 bE ?_;refine agi 4 bE ?_;refine agi 5 bE ?_;refine agi 6 bE ?_;clear bE il af5 ic2;have lW:=(J2.1 afa.I.1).1;have hS: ∀ W,B_ V2.heap.size V2 W->av W w.heap.size q/\W.heap[X]? =o_ (c_ #[i_ j_ y.id,b_ false,b_ y.Mf,i_ j_ y.max,s_ y.ak y.Ma.length y.aq] 51):=fun W hb=>⟨S.I.fr.box.below hb,(hb.block _ lW).trans afa.I.1⟩
  have b1:B_ V2.heap.size V2 (V2.alloc (c_ #[] 9)):=(Kp _ _).alloc (Ki _) _;refine L7 3 (fun K hK=> ?_);go_wp2_with fail;refine hK.out _ _ (hS _ b1) (fun bE=> ?_);clear hK K bE
  try simp only [pt,sb,s0,s1]
  have hlr:y.Ma.length - 1=r.length:=by rw [jA.I.1]; rfl
  have pI:y.Ma.drop 1=r:=by rw [jA.I.1]; rfl
  have hsrc:=vg (c:=y.aq) (nV (S.I.fr.own.eR y (KA GO.I))) (nJ (S.I.fr.own.below b1).at.2.2.2.2.2 GO.I);rw [hTA] at hsrc;obtain ⟨a7,c7,w7,hap,mP,xI,-⟩:=ou (V2.alloc (c_ #[] 9)) V2.heap.size (o_ ⟨V2.heap.size,0,n_⟩) 0 [] (i6 (Kj _ _) (Ki _)) afs (y.Ma.drop 1) (y.aq - 1) hsrc (by rw [Ql]; have:=tI.I.2.1; show 0+_<=_; omega) b1.size;clear hsrc hTA;have gh:B_ V2.heap.size V2 w7:=b1.grown xI b1.size fun c e=>by cases e; exact Ki _
  rw [Ql,hlr] at hap mP;simp only [K4,Li,Ll,pI] at hap mP;rw [<- hlr] at hap;obtain ⟨s1,⟨u,c⟩,f⟩:=pg (n:=m) S.I.fr.own (aI.dI gh) GO.I (HB.I.2.1.trans HG.I) (cq mP S.I.low) (fun g hg=> .inr (cf mP hg).1);rw [<- hlr] at s1;have HLR:bN (y.Ma.length - 1=r.length):=hlr;clear hlr;refine L7 7 (fun K hK=> ?_);refine cM _ _ _ rfl _ _ _ w7 rfl rfl hap ?_;refine hK.out _ _ ⟨S.I.fr.box.below gh,(gh.block _ lW).trans afa.I.1⟩ (fun bE=> ?_);clear hK K bE
  try simp only [pt,sb]
  have wj:av w7 w.heap.size q/\w7.heap[X]? =o_ (c_ #[i_ j_ y.id,b_ false,b_ y.Mf,i_ j_ y.max,s_ y.ak y.Ma.length y.aq] 51):=⟨S.I.fr.box.below gh,(gh.block _ lW).trans afa.I.1⟩
  replace S:=aA (S.I.call s1);clear hap mP xI gh s1 b1 hS;refine agi 8 wj ?_;refine agi 9 wj ?_;have uQ:(w7.setCell ⟨Y5,m * 5+4,n_⟩ (s_ a7 (y.Ma.length - 1) c7)).heap[X]? =o_ (c_ #[i_ j_ y.id,b_ false,b_ y.Mf,i_ j_ y.max,s_ y.ak y.Ma.length y.aq] 51):=(aH (fun e=>by have h5:=(S.I.fr.lo Y5 (gD (.inr <| .inr <| .inr <| .inr <| .inr <| by rw [HG.I]; simp [blk]))).2; have:=afa.I.2; omega)).trans wj.2;refine L7 10 (fun K hK=> ?_);go_wp2_with fail;refine hK.out _ _ ⟨S.I.fr.box,uQ⟩ (fun bE=> ?_);clear hK K bE;refine K3 ZbY ?_ _;clear c f u wj lW uQ;go_upto_region 19 with fail;generalize w7.setCell ⟨Y5,m * 5+4,n_⟩ (s_ a7 (y.Ma.length - 1) c7)=J at *;obtain ⟨q2,pv⟩: ∃ q2:af,q2= { q1 with ai:=q1.ai.set m { y with Ma:=r,ak:=a7,aq:=c7 } } :=⟨_,rfl⟩
  have ky:bN (q2.pure=gU N r (ez t0 x.id q.pure)/\q2.cells=q.cells/\aQ q2.pure/\q2.L8[n]? =o_ { x with got:=t0 }):=by
   have h5:q2.pure=gU N r q1.pure:=by rw [pv]; exact sq HQ.I.2.2.1.ai GO.I HM.I.2.1
   have h6:aQ (gU N r q1.pure):=jj HQ.I.2.2.1 (fun z hz hk=>by rw [HB.I.2.2] at hz; rw [only HR.I.1.ai HM.I.2.2 hz hk]; have h7:=tI.I.2.2.1; rw [jA.I.1] at h7; have h8:y.todS.max=y.max:=rfl; simp only [Lg] at h7; omega) jA.I.2.2;exact ⟨by rw [h5,HQ.I.1],by rw [pv]; exact Eq.trans (by unfold af.cells; simp) HQ.I.2.1,by rw [h5]; exact h6,by rw [pv]; exact HQ.I.2.2.2⟩
  rw [<- pv] at S;clear pv HLR pI afa;have Mb:=bB (n:=n) 0 S.I.fr.own S.I.low ky.I.2.2.1 ky.I.2.2.2 Zcb;rw [ky.I.1,ky.I.2.1] at Mb;exact gz
def Nbr (cs:List eQ) (q:eQ->Bool) (i:Int) (l:List Int):Prop:= ∀ c∈cs,(c.dst=i->c.src∈l)/\(q c=true->c.src=i->c.dst∈l)
section
variable {cs:List eQ} {q:eQ->Bool} {ids l l1 l2 l3:List Int} {id z i:Int} {n:Nat} {c:eQ}
def Nbr.mono (h:Nbr cs q i l) (hs: ∀ x∈l,x∈l2):Nbr cs q i l2:=fun c hc=>⟨fun e=>hs _ ((h c hc).1 e),fun hq e=>hs _ ((h c hc).2 hq e)⟩
def Yj (h1:XT cs q id z) (h2:XT cs q z i):XT cs q id i:=fun P hp hs=>h2 P (h1 P hp hs) hs
structure Found (cs:List eQ) (q:eQ->Bool) (ids l:List Int) (id:Int) (l':List Int):Prop where
 nodup:l'.Nodup
 ids: ∀ i∈l',i∈ids
 ext: ∃ t,l'=l ++ t/\ ∀ i∈t,XT cs q id i/\Nbr cs q i l'
 has:id∈l'
structure Xp (cs:List eQ) (q:eQ->Bool) (ids l1:List Int) (id:Int) (n:Nat) (l2:List Int):Prop where
 nodup:l2.Nodup
 ids: ∀ i∈l2,i∈ids
 ext: ∃ t,l2=l1 ++ t/\ ∀ i∈t,XT cs q id i/\Nbr cs q i l2
 done:Nbr (cs.take n) q id l2
def Xp.call (h:Xp cs q ids l1 id n l2) (hz:XT cs q id z) (hf:Found cs q ids l2 z l3):Xp cs q ids l1 id n l3/\z∈l3/\ ∀ x∈l2,x∈l3:=by
 obtain ⟨t,e,ht⟩:=h.ext;obtain ⟨t2,e2,ht2⟩:=hf.ext;have hs: ∀ x∈l2,x∈l3:=fun x hx=>by rw [e2]; exact Lz _ hx
 refine ⟨⟨hf.nodup,hf.ids,⟨t ++ t2,by rw [e2,e,Lm],fun i hi=> ?_⟩,h.done.mono hs⟩,hf.has,hs⟩;rcases Kg.1 hi with hi | hi
 .exact ⟨(ht i hi).1,(ht i hi).2.mono hs⟩
 .exact ⟨Yj hz (ht2 i hi).1,(ht2 i hi).2⟩
def Xp.next (h:Xp cs q ids l1 id n l2) (hc:cs[n]? =o_ c) (h1:c.dst=id->c.src∈l2) (h2:q c=true->c.src=id->c.dst∈l2):Xp cs q ids l1 id (n+1) l2:=
 ⟨h.nodup,h.ids,h.ext,fun d hd=>by
  rw [cj hc] at hd;rcases Kg.1 hd with hd | hd
  .exact h.done d hd
  .rw [KB.1 hd]; exact ⟨h1,h2⟩⟩
def Xp.start (hn:l.Nodup) (hi: ∀ i∈l,i∈ids) (hid:id∈ids) (hnot:id∉l):Xp cs q ids (l ++ [id]) id 0 (l ++ [id]):=
 ⟨Kf.2 ⟨hn,by simp,fun x hx y hy e=>hnot ZcC⟩,fun i hm=>by
  rcases Kg.1 hm with hm | hm
  .exact hi i hm
  .rw [KB.1 hm]; exact hid,⟨[],by simp,fun i hi=>by cases hi⟩,fun c hc=>by simp at hc⟩
def Xp.len (h:Xp cs q ids (l ++ [id]) id n l2):l.length < l2.length/\l2.length<=ids.length:=by
 obtain ⟨t,e,-⟩:=h.ext;refine ⟨by rw [e]; simp,Xs h.nodup h.ids⟩
def Xp.end (h:Xp cs q ids (l ++ [id]) id n l2) (hn:cs.length<=n):Found cs q ids l id l2:=by
 obtain ⟨t,e,ht⟩:=h.ext;have hd:=h.done;rw [KF hn] at hd;exact ⟨h.nodup,h.ids,⟨[id] ++ t,by rw [e,Lm],fun i hi=>by
  rcases Kg.1 hi with hi | hi
  .rw [KB.1 hi]; exact ⟨XA,hd⟩
  .exact ht i hi⟩,by rw [e]; simp⟩
end
structure Xh (V:w_) (F N:Nat) (l:List Int) (a:Option d_) (cap:Nat) (W:w_):Prop where
 kept:aI V W [F]
 XS:W.heap[F]? =o_ (c_ #[s_ a l.length cap] 53)
 own:W.ownsRow N 2 1 (s_ a l.length cap) l.length (Xn l)
section
variable {V W W2:w_} {F N:Nat} {l:List Int} {a:Option d_} {cap:Nat}
def Xh.below (h:Xh V F N l a cap W) (hb:B_ W.heap.size W W2):Xh V F N l a cap W2:=⟨h.kept.trans (.dI hb),(hb.block _ (J2.1 h.XS).1).trans h.XS,cR h.own hb⟩
def Xh.more {a2:Option d_} {Ta:Nat} {an1:w_} {z:Int} (h:Xh V F N l a cap W) (hF:F < N) (hN:V.heap.size<=N) (ho:an1.ownsRow N 2 1 (s_ a2 (l.length+1) Ta) (l.length+1) (Xn (l ++ [z]))) (hk:aI W an1 (blk a)):Xh V F N (l ++ [z]) a2 Ta (an1.setCell ⟨F,0,n_⟩ (s_ a2 (l.length+1) Ta)):=by
 have hlow: ∀ g∈blk a,N<=g:=fun g hg=>(cf h.own hg).1
 have hf7:an1.heap[F]? =o_ (c_ #[s_ a l.length cap] 53):=(hk.same F (J2.1 h.XS).1 fun hm=>by have:=hlow F hm; omega).trans h.XS;have h7:aI V an1 [F] :=⟨hk.os.trans h.kept.os,hk.tape.trans h.kept.tape,hk.output.trans h.kept.output,LG h.kept.size hk.size,fun g hg hn=>(hk.same g Zcs fun hm=>by have:=hlow g hm; omega).trans (h.kept.same g hg hn)⟩
 refine ⟨h7.trans (aI.set (off:=0) [_] zy),?_,?_⟩
 .rw [Lf,adg]
  simp [World.setCell,Array.getElem?_modify,hf7]
 .rw [Lf,adg]
  exact aL ho fun g hg=>Go.Deep.blk_setCell_other _ _ _ _ (by have:=(cf ho hg).1; show g≠F; omega)
end
structure Env (V:w_) (K H:Nat) (la:Option d_) (Yk:Nat) (ls:List gi) (q:eQ->Bool) (ids:List Int):Prop where
 kbox:V.heap[H]? =o_ (c_ #[p_ (o_ ⟨K,0,n_⟩)] 56)
 find:V.heap[H+2]? =o_ (c_ #[.func (.func 52) #[] #[p_ (o_ ⟨H+1,0,n_⟩),p_ (o_ ⟨H,0,n_⟩),p_ (o_ ⟨H+2,0,n_⟩)]] 70)
 cell:V.cell? ⟨K,64,n_⟩=o_ (s_ la ls.length Yk)
 VS:K < H
 row:Row V la (qo.flat ls)
 rowl: ∀ g∈blk la,g < H
 port: ∀ o∈ls,∃ x:aM,V.heap[o.s]? =o_ (c_ (cW x) 51)/\x.Mf=q o.c/\o.s < H
 mem: ∀ o∈ls,o.c.src∈ids/\o.c.dst∈ids
 short:ls.length<=10/\ids.length<=6
 size:V.heap.size=H+3
section
variable {V W:w_} {K H:Nat} {la:Option d_} {Yk:Nat} {ls:List gi} {q:eQ->Bool} {ids:List Int}
def Env.kept (h:Env V K H la Yk ls q ids) (hk:aI V W [H+1]):W.cell? ⟨H,0,n_⟩=o_ (p_ (o_ ⟨K,0,n_⟩))/\W.cell? ⟨H+2,0,n_⟩=o_ (.func (.func 52) #[] #[p_ (o_ ⟨H+1,0,n_⟩),p_ (o_ ⟨H,0,n_⟩),p_ (o_ ⟨H+2,0,n_⟩)])/\W.cell? ⟨K,64,n_⟩=o_ (s_ la ls.length Yk)/\Row W la (qo.flat ls)/\ ∀ o∈ls,∃ x:aM,W.heap[o.s]? =o_ (c_ (cW x) 51)/\x.Mf=q o.c:=by
 have hs:=h.size;have hkf:=h.VS;have e1:W.heap[H]? =_:=(hk.same H zw zy).trans h.kbox;have e2:W.heap[H+2]? =_:=(hk.same (H+2) zw zy).trans h.find;refine ⟨by simp [World.cell?,e1],by simp [World.cell?,e2],(J1 (w:=V) (a:=⟨K,64,n_⟩) (hk.same K zw ZbZ)).trans h.cell,XZ h.row fun g hg=>hk.same g (by have:=h.rowl g hg; omega) (by have:=h.rowl g hg; simp; omega),fun o ho=> ?_⟩;obtain ⟨x,hx,hq,hl⟩:=h.port o ho;exact ⟨x,(hk.same o.s zw ZbZ).trans hx,hq⟩
end
structure Xm (F:Nat) (W:w_) (a:Option d_) (W':w_) (a':Option d_):Prop where
 kept:aI W W' (F :: blk a)
 new: ∀ g∈blk a',g∈blk a\/W.heap.size<=g
section
variable {F:Nat} {W W1 W2:w_} {a a1 a2:Option d_}
def Xm.refl:Xm F W a W a:=⟨aI.refl _ _,fun _ h=> .inl h⟩
def Xm.trans (h:Xm F W a W1 a1) (h':Xm F W1 a1 W2 a2):Xm F W a W2 a2:=
 ⟨⟨h'.kept.os.trans h.kept.os,h'.kept.tape.trans h.kept.tape,h'.kept.output.trans h.kept.output,LG h.kept.size h'.kept.size,fun g hg hn=>(h'.kept.same g Zcs fun hm=>by
  rcases Kt.1 hm with e | hm
  .exact hn (by simp [e])
  .rcases h.new g hm with h5 | h5
   .exact hn (LB _ h5)
   .omega).trans (h.kept.same g hg hn)⟩,fun g hg=>by
  rcases h'.new g hg with h5 | h5
  .exact h.new g h5
  .exact .inr (LG h.kept.size h5)⟩
def Xm.below (h:Xm F W a W1 a1) (hb:B_ W1.heap.size W1 W2):Xm F W a W2 a1:=⟨h.kept.trans (.dI hb),h.new⟩
end
def Yu (V:w_) (H:Nat) (ls:List gi) (q:eQ->Bool) (ids l:List Int) (id:Int) (W0:w_) (a0:Option d_) (e:Ending) (W:w_):Prop:=e=r_ (u_ #[])/\ ∃ (l':List Int) (a:Option d_) (cap:Nat),Xh V (H+1) V.heap.size l' a cap W/\Found (ls.map (·.c)) q ids l id l'/\Xm (H+1) W0 a0 W a
def XK {W:w_} {X:Nat} {o:gi} (h:W.heap[X]? =o_ (c_ (fz o) 91)):W.cell? ⟨X,0,n_⟩=o_ (i_ j_ o.c.src)/\W.cell? ⟨X,2,n_⟩=o_ (i_ j_ o.c.dst)/\W.cell? ⟨X,4,n_⟩=o_ (p_ (o_ ⟨o.s,0,n_⟩)):=by
 simp [World.cell?,h]
def Yn (V:w_) (K H:Nat) (la:Option d_) (Yk:Nat) (ls:List gi) (q:eQ->Bool) (ids:List Int) (hE:Env V K H la Yk ls q ids): ∀ (m:Nat) (l:List Int) (a:Option d_) (cap:Nat) (W:w_) (id:Int),Xh V (H+1) V.heap.size l a cap W->l.Nodup->(∀ i∈l,i∈ids)->id∈ids->ids.length+1 - l.length<=m->
  k_ J3 52 #[i_ j_ id,p_ (o_ ⟨H+1,0,n_⟩),p_ (o_ ⟨H,0,n_⟩),p_ (o_ ⟨H+2,0,n_⟩)] W fun e W'=>Yu V H ls q ids l id W a e W':=by
 intro m
 induction m with
 | zero=>intro l a cap W id h hn hi hid hm; have:=Xs hn hi; omega
 | succ m ih=>
  intro l a cap W id hD hn hi hid hm;have IH:=aA ih;have HE:=aA hE;have S:=aA hD;have HP:=aA (And.intro hn (And.intro hi (And.intro hid hm)));have HL:bN (l.length<=6):=by show l.length<=6; have:=Xs hn hi; have:=hE.short; omega
  clear ih hE hD hn hi hid hm;have c0:W.cell? ⟨H+1,0,n_⟩=o_ (s_ a l.length cap):=by simp [World.cell?,S.I.XS]
  have Mb:=Yg a l cap id W (by have:=HL.I; omega) (nP S.I.own)
  go_enter func52,ntmps52
  go_wp2_with fail;refine Mb.mono ?_;clear Mb;rintro e W1 ⟨rfl,rfl⟩;by_cases hin:id∈l
  .have HN:bN (Found (ls.map (·.c)) q ids l id l):=⟨HP.I.1,HP.I.2.1,⟨[],by simp,fun i hi=>by cases hi⟩,hin⟩
   rw [decide_eq_true hin];clear hin;go_wp2
   go_end0
   exact ⟨rfl,l,a,cap,S.I,HN.I,Xm.refl⟩
  obtain ⟨a2,Ta,W3,hap,ho,hkp,hbl⟩:=XB id S.I.own (by have:=HL.I; omega) S.I.kept.size;have ES:bN (Xp (ls.map (·.c)) q ids (l ++ [id]) id 0 (l ++ [id])):=Xp.start HP.I.1 HP.I.2.1 HP.I.2.2.1 hin;have S1:=aA (S.I.more (by have:=HE.I.size; omega) (Ki _) ho hkp);have hf3:W3.heap[H+1]? =o_ (c_ #[s_ a l.length cap] 53):=(hkp.same _ (J2.1 S.I.XS).1 fun hm=>by have:=(cf S.I.own hm).1; have:=HE.I.size; omega).trans S.I.XS;have d0:W3.cell? ⟨H+1,0,n_⟩=o_ (s_ a l.length cap):=by simp [World.cell?,hf3]
  have f0:W3.frozen? ⟨H+1,0,n_⟩=false:=by simp [World.frozen?,hf3]
  rw [decide_eq_false hin];have HG:bN (Xm (H+1) W1 a (W3.setCell ⟨H+1,0,n_⟩ (s_ a2 (l.length+1) Ta)) a2):=⟨(hkp.mono fun g hg=>LB _ hg).trans (aI.set (off:=0) [_] zy),hbl⟩
  clear hin ho hkp hf3 hbl;go_upto_region 2 with (at_builtin; refine br _ rfl _ _ 53 rfl _ _ _ _ rfl rfl hap ?_);clear d0 f0 c0 hap S;generalize W3.setCell ⟨H+1,0,n_⟩ (s_ a2 (l.length+1) Ta)=W4 at *;obtain ⟨e0,-,e2,-,-⟩:=HE.I.kept S1.I.kept;go_wp2_with fail;clear e0 e2;have hls:ls.length<=10:=HE.I.short.1
  go_loopw [19] (fun j wr=> ∃ (n:Nat) (l2:List Int) (a3:Option d_) (UY:Nat),n<=ls.length/\j=i_ j_ n/\bN (Xh V (H+1) V.heap.size l2 a3 UY wr/\Xp (ls.map (·.c)) q ids (l ++ [id]) id n l2/\Xm (H+1) W1 a wr a3)) (fun j _=>ls.length - (Go.RowKit.intOf j).toNat)
  case atStart=>exact ⟨0,l ++ [id],a2,Ta,Ky _,rfl,S1.I,ES.I,HG.I⟩
  case round=>
   clear S1 ES HG;obtain ⟨n,l2,a3,UY,hn,rfl,S⟩:=hrel;by_cases hlt:n < ls.length
   .have i0:(0:Int)<=(n:Int):=zw
    have i1:(n:Int) < (ls.length:Int):=zw
    obtain ⟨o,ho⟩: ∃ o,ls[n]? =o_ o:=⟨_,Kz hlt⟩
    obtain ⟨e0,-,e2,hrow,-⟩:=HE.I.kept S.I.1.kept;obtain ⟨gl,rfl,k0,k1,k2,k3,k4,k5⟩:=Vq hrow ho;have hom:=KA ho;have HO:bN ((ls.map (·.c))[n]? =o_ o.c/\o∈ls/\o.c.src∈ids/\o.c.dst∈ids/\o.c∈ls.map (·.c)):=⟨by rw [Kk,ho]; rfl,hom,(HE.I.mem o hom).1,(HE.I.mem o hom).2,Lr.2 ⟨o,hom,rfl⟩⟩
    clear ho hom hrow e0 e2;go_upto_region 5 with fail;clear k0 k1 k2 k3 k4 k5;have hz:B_ wr.heap.size wr (wr.alloc (c_ (fz o) 91)):=(Kp _ _).alloc (Ki _) _;have HX:bN ((wr.alloc (c_ (fz o) 91)).heap[wr.heap.size]? =o_ (c_ (fz o) 91)/\H+1≠wr.heap.size):=⟨Kj _ _,by have:=S.I.1.kept.size; have:=HE.I.size; omega⟩
    have HXB:bN (∀ g∈blk a3,g≠wr.heap.size):=fun g hg=>by have:=(cf S.I.1.own hg).2; omega
    replace S:=aA (And.intro (S.I.1.below hz) (And.intro S.I.2.1 (S.I.2.2.below hz)));clear hz;generalize wr.alloc (c_ (fz o) 91)=W5 at *;generalize wr.heap.size=X at *;by_cases hd:o.c.dst=id
    .have HM:bN (ids.length+1 - l2.length<=m):=by show _<=m; have h5:=S.I.2.1.len; have h6:=HP.I.2.2.2; omega
     have Mb:=IH.I l2 a3 UY W5 o.c.src S.I.1 S.I.2.1.nodup S.I.2.1.ids HO.I.2.2.1 HM.I;have Yx:bN (XT (ls.map (·.c)) q id o.c.src):=Yi HO.I.2.2.2.2 (by rw [hd]; exact XA);have e1:(o.c.dst == id)=true:=by simp [hd]
     obtain ⟨b0,b2,b4⟩:=XK HX.I.1;obtain ⟨-,e3,-,-,-⟩:=HE.I.kept S.I.1.kept;clear hd;go_wp2_with fail;clear b0 b2 b4 e3 e1;refine Mb.mono ?_;clear Mb;rintro e W6 ⟨rfl,l3,a4,XM,hD,hF,hG⟩;have hx6:=(hG.kept.same X (J2.1 HX.I.1).1 (fun hm=>by
      rcases Kt.1 hm with e | hm
      .exact HX.I.2 e.symm
      .exact HXB.I X hm rfl)).trans HX.I.1
     obtain ⟨q1,q2,-⟩:=S.I.2.1.call Yx.I hF;replace S:bN (Xh V (H+1) V.heap.size l3 a4 XM W6/\Xp (ls.map (·.c)) q ids (l ++ [id]) id n l3/\Xm (H+1) W1 a W6 a4/\(o.c.dst=id->o.c.src∈l3)):=⟨hD,q1,S.I.2.2.trans hG,fun _=>q2⟩
     replace HX:bN (W6.heap[X]? =o_ (c_ (fz o) 91)):=hx6;clear hD hF hG hx6 q1 q2 Yx HM HXB;go_upto_region 7 with fail;obtain ⟨b0,b2,b4⟩:=XK HX.I;obtain ⟨-,e3,-,-,hpt⟩:=HE.I.kept S.I.1.kept;obtain ⟨x,hx,hxq⟩:=hpt o HO.I.2.1;have p2:=(gg hx).2;have HXQ:=aA hxq;clear hpt hx hxq;by_cases hs:o.c.src=id
     case neg=>
      have HN:bN (Xp (ls.map (·.c)) q ids (l ++ [id]) id (n+1) l3):=S.I.2.1.next HO.I.1 S.I.2.2.2 (fun _ h=>absurd h hs);have e1:(o.c.src == id)=false:=by simp [hs]
      clear hs;exact ZaK
     have e1:(o.c.src == id)=true:=by simp [hs]
     have HSI:=aA hs;clear hs;cases hq:x.Mf
     .have HN:bN (Xp (ls.map (·.c)) q ids (l ++ [id]) id (n+1) l3):=S.I.2.1.next HO.I.1 S.I.2.2.2 (fun h=>by rw [<- HXQ.I,hq] at h; cases h)
      rw [hq] at p2;clear hq;exact ZaK
     rw [hq] at p2;have HM:bN (ids.length+1 - l3.length<=m):=by show _<=m; have h5:=S.I.2.1.len; have h6:=HP.I.2.2.2; omega
     have Mb:=IH.I l3 a4 XM W6 o.c.dst S.I.1 S.I.2.1.nodup S.I.2.1.ids HO.I.2.2.2.1 HM.I;exact m_
    .have e1:(o.c.dst == id)=false:=by simp [hd]
     obtain ⟨b0,b2,b4⟩:=XK HX.I.1;replace S:bN (Xh V (H+1) V.heap.size l2 a3 UY W5/\Xp (ls.map (·.c)) q ids (l ++ [id]) id n l2/\Xm (H+1) W1 a W5 a3/\(o.c.dst=id->o.c.src∈l2)):=⟨S.I.1,S.I.2.1,S.I.2.2,fun h=>absurd h hd⟩
     replace HX:bN (W5.heap[X]? =o_ (c_ (fz o) 91)):=HX.I.1;clear hd HXB;go_upto_region 7 with fail;clear b0 b2 b4 e1;obtain ⟨b0,b2,b4⟩:=XK HX.I;obtain ⟨-,e3,-,-,hpt⟩:=HE.I.kept S.I.1.kept;obtain ⟨x,hx,hxq⟩:=hpt o HO.I.2.1;have p2:=(gg hx).2;have HXQ:=aA hxq;clear hpt hx hxq;by_cases hs:o.c.src=id
     case neg=>
      have HN:bN (Xp (ls.map (·.c)) q ids (l ++ [id]) id (n+1) l2):=S.I.2.1.next HO.I.1 S.I.2.2.2 (fun _ h=>absurd h hs);have e1:(o.c.src == id)=false:=by simp [hs]
      clear hs;exact ZaL
     have e1:(o.c.src == id)=true:=by simp [hs]
     have HSI:=aA hs;clear hs;cases hq:x.Mf
     .have HN:bN (Xp (ls.map (·.c)) q ids (l ++ [id]) id (n+1) l2):=S.I.2.1.next HO.I.1 S.I.2.2.2 (fun h=>by rw [<- HXQ.I,hq] at h; cases h)
      rw [hq] at p2;clear hq;exact ZaL
     rw [hq] at p2;have HM:bN (ids.length+1 - l2.length<=m):=by show _<=m; have h5:=S.I.2.1.len; have h6:=HP.I.2.2.2; omega
     have Mb:=IH.I l2 a3 UY W5 o.c.dst S.I.1 S.I.2.1.nodup S.I.2.1.ids HO.I.2.2.2.1 HM.I;exact m_
   .have i1: ¬ (n:Int) < (ls.length:Int):=zw
    have HN:bN (Found (ls.map (·.c)) q ids l id l2):=S.I.2.1.end ZbZ;go_wp2
    go_end0
    exact ⟨rfl,l2,a3,UY,S.I.1,HN.I,S.I.2.2⟩
end
section
open Go.RowKit Go.Maps Go.Sort
attribute [local go_sem ↓] Kc Kd
def Yc (k:kd) (part:Int) (W0:w_) (e:Ending) (W:w_):Prop:= ∃ (l:List Int) (a:Option d_) (cap:Nat),e=r_ (s_ a l.length cap)/\W.ownsRow W0.heap.size 2 1 (s_ a l.length cap) l.length (Xn l)/\XO k.eC (zo k.parts) part l/\B_ W0.heap.size W0 W
def X7 {l:List Int} (h:l.Nodup):(l.mergeSort (fun x y=>decide (x<=y))).Pairwise (· < ·):=by
 have h1:=List.pairwise_mergeSort (le:=fun x y:Int=>decide (x<=y)) (fun a b c h1 h2=>by simp at *; omega) (fun a b=>by simp; omega) l;have h2:(l.mergeSort (fun x y=>decide (x<=y))).Nodup:=(List.mergeSort_perm l _).symm.nodup h;exact (List.pairwise_and_iff.2 ⟨h1,h2⟩).imp (fun {a b} h=>by have h3:=h.1; have h4:=h.2; simp only [decide_eq_true_eq] at h3; omega)
def port_s {w:w_} {l:List (aZ × Nat)} {ps:List aE} {o:gi} (hp: ∀ p∈l,∃ bi,cJ w bi p.2 p.1) (hl:l.map (·.1.pure)=ps) (h:Joins l o): ∃ x:aM,w.heap[o.s]? =o_ (c_ (cW x) 51)/\x.Mf=zo ps o.c:=by
 rcases D3 hp hl o.c.src o.c.ga with ⟨h1,-⟩ | ⟨g,x,h1,h2,hx⟩
 .rw [h.1] at h1; cases h1
 have e:=h.1.symm.trans h1;simp only [LF] at e;rw [<- e] at hx;exact ⟨x,hx,(X9 h2).symm⟩
def Yp {k:kd} {w1 W U:w_} {K b:Nat} {bj:Int} {tab:Array v_} {l:List (aZ × Nat)} {ls:List gi} {a:Option d_} {cap:Nat} {fv:v_} (hU:U=((W.alloc (c_ #[p_ (o_ ⟨K,0,n_⟩)] 56)).alloc (c_ #[s_ n_ 0 0] 53)).alloc (c_ #[fv] 70)) (hfv:fv= .func (.func 52) #[] #[p_ (o_ ⟨W.heap.size+1,0,n_⟩),p_ (o_ ⟨W.heap.size,0,n_⟩),p_ (o_ ⟨W.heap.size+2,0,n_⟩)])
  (hk:eP k=true) (Yy:VK w1 K b l) (hl:l.map (·.1.pure)=k.parts) (hc:ls.map (·.c)=k.eC) (hj: ∀ o∈ls,Joins l o) (hL:T1 w1 K b bj tab a cap ls W):
  Env U K W.heap.size a cap ls (zo k.parts) (k.parts.map (·.id))/\U.heap[W.heap.size+1]? =o_ (c_ #[s_ n_ 0 0] 53)/\B_ W.heap.size W U:=by
 have hb:B_ W.heap.size W U:=by rw [hU]; exact (((Kp _ W).alloc (Ki _) _).alloc zy _).alloc ZbZ _
 have g2:U.heap[W.heap.size+1+1]? =o_ (c_ #[fv] 70):=by rw [hU]; exact tE _ _ _ _
 have g1:U.heap[W.heap.size+1]? =o_ (c_ #[s_ n_ 0 0] 53):=by rw [hU]; exact (PU zy).trans (Kq _ _ _)
 have g0:U.heap[W.heap.size]? =o_ (c_ #[p_ (o_ ⟨K,0,n_⟩)] 56):=by rw [hU]; exact (PU ZbZ).trans ((PU zy).trans (Kj _ _))
 have hsz:U.heap.size=W.heap.size+3:=by rw [hU]; simp
 have hPW:=Yy.kept hL.kept;obtain ⟨ki1,ki2,ki3,ki4⟩:=Xo hk;refine ⟨⟨g0,?_,?_,hL.TN.lt,(nP hL.own).below hb,fun g hg=>(cf hL.own hg).2,fun o ho=> ?_,fun o ho=> ?_,⟨?_,by simpa using ki2⟩,hsz⟩,g1,hb⟩
 .rw [<- hfv]
  exact g2
 .exact ((J1 (w:=W) (a:=⟨K,64,n_⟩) (hb.block K hL.TN.lt))).trans (hL.TN.cell (i:=64) zw)
 .obtain ⟨x,hx,hq⟩:=port_s (fun p hp=>(hPW.part p hp).imp fun _ h=>h.2) hl (hj o ho)
  have hlt:=(J2.1 hx).1;exact ⟨x,(hb.block _ hlt).trans hx,hq,hlt⟩
 .exact XQ (ki4 o.c (by rw [<- hc]; exact Lr.2 ⟨o,ho,rfl⟩))
 .have:=congrArg List.length hc; simp at this; omega
def X5 (k:kd) (part:Int) (w1 W:w_) (K b:Nat) (bj:Int) (tab:Array v_) (l:List (aZ × Nat)) (ls:List gi) (a:Option d_) (cap:Nat) (hk:eP k=true) (hpt:part∈k.parts.map (·.id)) (Yy:VK w1 K b l) (hl:l.map (·.1.pure)=k.parts) (hc:ls.map (·.c)=k.eC) (hj: ∀ o∈ls,Joins l o) (hL:T1 w1 K b bj tab a cap ls W):
  k_ J3 28 #[p_ (o_ ⟨K,0,n_⟩),i_ j_ part] W fun e W'=>Yc k part W e W':=by
 have HA:=aA (And.intro hk (And.intro hpt (And.intro Yy (And.intro hl (And.intro hc (And.intro hj hL))))));clear hk hpt Yy hl hc hj hL
 go_enter func28,ntmps28
 have g3:(((W.alloc (c_ #[p_ (o_ ⟨K,0,n_⟩)] 56)).alloc (c_ #[s_ n_ 0 0] 53)).alloc (c_ #[.nilFunc] 70)).heap[W.heap.size+1+1]? =o_ (c_ #[.nilFunc] 70):=tE _ _ _ _;have c3:(((W.alloc (c_ #[p_ (o_ ⟨K,0,n_⟩)] 56)).alloc (c_ #[s_ n_ 0 0] 53)).alloc (c_ #[.nilFunc] 70)).cell? ⟨W.heap.size+1+1,0,n_⟩=o_ .nilFunc:=by unfold World.cell?; rw [g3]; rfl
 have f3:(((W.alloc (c_ #[p_ (o_ ⟨K,0,n_⟩)] 56)).alloc (c_ #[s_ n_ 0 0] 53)).alloc (c_ #[.nilFunc] 70)).frozen? ⟨W.heap.size+1+1,0,n_⟩=false:=by unfold World.frozen?; rw [g3]; rfl
 have HV:bN (Env (((W.alloc (c_ #[p_ (o_ ⟨K,0,n_⟩)] 56)).alloc (c_ #[s_ n_ 0 0] 53)).alloc (c_ #[.func (.func 52) #[] #[p_ (o_ ⟨W.heap.size+1,0,n_⟩),p_ (o_ ⟨W.heap.size,0,n_⟩),p_ (o_ ⟨W.heap.size+1+1,0,n_⟩)]] 70)) K W.heap.size a cap ls (zo k.parts) (k.parts.map (·.id))/\(((W.alloc (c_ #[p_ (o_ ⟨K,0,n_⟩)] 56)).alloc (c_ #[s_ n_ 0 0] 53)).alloc (c_ #[.func (.func 52) #[] #[p_ (o_ ⟨W.heap.size+1,0,n_⟩),p_ (o_ ⟨W.heap.size,0,n_⟩),p_ (o_ ⟨W.heap.size+1+1,0,n_⟩)]] 70)).heap[W.heap.size+1]? =o_ (c_ #[s_ n_ 0 0] 53)/\B_ W.heap.size W (((W.alloc (c_ #[p_ (o_ ⟨K,0,n_⟩)] 56)).alloc (c_ #[s_ n_ 0 0] 53)).alloc (c_ #[.func (.func 52) #[] #[p_ (o_ ⟨W.heap.size+1,0,n_⟩),p_ (o_ ⟨W.heap.size,0,n_⟩),p_ (o_ ⟨W.heap.size+1+1,0,n_⟩)]] 70))):=Yp rfl rfl HA.I.1 HA.I.2.2.1 HA.I.2.2.2.1 HA.I.2.2.2.2.1 HA.I.2.2.2.2.2.1 HA.I.2.2.2.2.2.2;have hst:Sem.run J3 (store ⟨W.heap.size+1+1,0,n_⟩ (.func (.func 52) #[] #[p_ (o_ ⟨W.heap.size+1,0,n_⟩),p_ (o_ ⟨W.heap.size,0,n_⟩),p_ (o_ ⟨W.heap.size+1+1,0,n_⟩)])) (((W.alloc (c_ #[p_ (o_ ⟨K,0,n_⟩)] 56)).alloc (c_ #[s_ n_ 0 0] 53)).alloc (c_ #[.nilFunc] 70))= .ok () ((((W.alloc (c_ #[p_ (o_ ⟨K,0,n_⟩)] 56)).alloc (c_ #[s_ n_ 0 0] 53)).alloc (c_ #[.nilFunc] 70)).setCell ⟨W.heap.size+1+1,0,n_⟩ (.func (.func 52) #[] #[p_ (o_ ⟨W.heap.size+1,0,n_⟩),p_ (o_ ⟨W.heap.size,0,n_⟩),p_ (o_ ⟨W.heap.size+1+1,0,n_⟩)])):=by rw [run_store _ _ _ _ _ rfl,c3]; simp [f3]
 clear c3 f3 g3;go_upto_region 4 with fail;clear hst;generalize ((W.alloc (c_ #[p_ (o_ ⟨K,0,n_⟩)] 56)).alloc (c_ #[s_ n_ 0 0] 53)).alloc (c_ #[.func (.func 52) #[] #[p_ (o_ ⟨W.heap.size+1,0,n_⟩),p_ (o_ ⟨W.heap.size,0,n_⟩),p_ (o_ ⟨W.heap.size+1+1,0,n_⟩)]] 70)=V at *;generalize hH:W.heap.size=H at *;have HH:=aA hH;clear hH;have HD:bN (Xh V (H+1) V.heap.size [] n_ 0 V):=⟨aI.refl _ _,HV.I.2.1,Ke _ _ _ _⟩
 have Mb:=Yn V K H a cap ls (zo k.parts) (k.parts.map (·.id)) HV.I.1 ((k.parts.map (·.id)).length+1) [] n_ 0 V part HD.I zy (fun i hi=>by cases hi) HA.I.2.1 zy;have e3:V.cell? ⟨H+1+1,0,n_⟩=o_ (.func (.func 52) #[] #[p_ (o_ ⟨H+1,0,n_⟩),p_ (o_ ⟨H,0,n_⟩),p_ (o_ ⟨H+1+1,0,n_⟩)]):=(HV.I.1.kept (aI.refl _ _)).2.1;go_wp2_with fail;clear e3;refine Mb.mono ?_;clear Mb HD;rintro e W6 ⟨rfl,l6,a6,XH,hD,hF,-⟩;obtain ⟨t6,et,ht⟩:=hF.ext;rw [Ll] at et;subst et;have HF:bN (l6.Nodup/\(∀ i,i∈l6↔XT k.eC (zo k.parts) part i)/\l6.length<=6):=by
  have hc:=HA.I.2.2.2.2.1;refine ⟨hF.nodup,Yh hF.has (fun i hi=>by rw [<- hc]; exact (ht i hi).1) (fun c hcm=> ?_),?_⟩
  .rw [<- hc] at hcm
   exact ⟨fun hd=>((ht _ hd).2 c hcm).1 rfl,fun hq hs=>((ht _ hs).2 c hcm).2 hq rfl⟩
  .have h5:=Xs hF.nodup hF.ids
   have h6:=HV.I.1.short.2;omega
 have hne:l6≠ [] :=fun e=>by have:=hF.has; rw [e] at this; cases this
 obtain ⟨Xi,cur,rfl,q1,q2,q3,q4,q5,q6⟩: ∃ Xi cur,a6=o_ ⟨Xi,0,n_⟩/\V.heap.size<=Xi/\W6.heap[Xi]? =o_ (c_ cur 2)/\l6.length<=XH/\XH<=maxLen/\cur.size=XH * 1/\cur.toList.take l6.length=Xn l6:=by
  rcases hD.own.2 with ⟨-,h5⟩ | ⟨Xi,c9,cur,e9,h1,h2,h3,h4,h5,h6⟩
  .exact absurd (List.eq_nil_of_length_eq_zero h5) hne
  .cases e9
   exact ⟨Xi,cur,rfl,h1,h2,h3,h4,h5,by simpa using h6⟩
 have HO:bN (Xh V (H+1) V.heap.size l6 (o_ ⟨Xi,0,n_⟩) XH W6/\V.heap.size<=Xi/\W6.heap[Xi]? =o_ (c_ cur 2)/\l6.length<=XH/\XH<=maxLen/\cur.size=XH * 1):=⟨hD,q1,q2,q3,q4,q5⟩
 have Mb:k_ J3 54 #[s_ (o_ ⟨Xi,0,n_⟩) l6.length XH] W6 _:=AnyM.slices_Sort_int Tryz.sortA Xi 0 XH l6 W6 (holds_of_blockI q2 q6) (J2.1 q2).1 (by have:=HF.I.2.2; omega);have c1:W6.cell? ⟨H+1,0,n_⟩=o_ (s_ (o_ ⟨Xi,0,n_⟩) l6.length XH):=by simp [World.cell?,hD.XS]
 clear hD hF ht hne q1 q2 q3 q4 q5 q6;go_wp2_with fail;clear c1;refine Mb.mono ?_;clear Mb;rintro e an1 ⟨rfl,n7,os7,hw7⟩;have xI:W6.grownBy an1 (o_ Xi):=by rw [hw7]; exact grownBy_sortedI _
 have Em:bN (an1.ownsRow H 2 1 (s_ (o_ ⟨Xi,0,n_⟩) l6.length XH) l6.length (Xn (l6.mergeSort fun x y=>decide (x<=y)))/\an1.heap[H+1]? =o_ (c_ #[s_ (o_ ⟨Xi,0,n_⟩) l6.length XH] 53)/\B_ H W an1):=by
  have hs:=HV.I.1.size;have hg:=HO.I.2.1;refine ⟨by rw [hw7]; exact ownsRow_sortedI zy zw HO.I.2.2.1 HO.I.2.2.2.1 HO.I.2.2.2.2.1 HO.I.2.2.2.2.2,(xI.block _ (J2.1 HO.I.1.XS).1 ZbZ).trans HO.I.1.XS,?_⟩;have h6:B_ H W W6:=HV.I.2.2.trans (HO.I.1.kept.below zw fun g hm=>by rw [KB.1 hm]; omega);exact h6.trans ⟨xI.os,xI.tape,xI.output,xI.size,fun g hgl=>xI.block g (by have:=HO.I.1.kept.size; omega) ZbZ⟩
 have c1:an1.cell? ⟨H+1,0,n_⟩=o_ (s_ (o_ ⟨Xi,0,n_⟩) l6.length XH):=by simp [World.cell?,Em.I.2.1]
 clear hw7 xI;go_wp2;go_ret;refine ⟨l6.mergeSort fun x y=>decide (x<=y),o_ ⟨Xi,0,n_⟩,XH,?_,?_,⟨fun i=> ?_,X7 HF.I.1⟩,?_⟩
 .rw [List.length_mergeSort]; rfl
 .rw [List.length_mergeSort,HH.I]; exact Em.I.1
 .rw [<- HF.I.2.1 i]; exact (List.mergeSort_perm l6 _).mem_iff
 .rw [HH.I]; exact Em.I.2.2
def Xw (k:eA) (part:Int) (g bi:Nat) (w:w_) (hid:(Lit.int j_ part).wf=true) (hs:k.pure.Small) (ho:gp w bi k) (hg:k.vb=o_ ⟨g,0,n_⟩/\g < w.heap.size):
  k_ J3 14 #[a_ k.row,i_ j_ part] w fun e w'=>XW w k.pure part e w':=by
 have S:=aA (dr.first ho.at);have hz:B_ w.heap.size w (w.alloc (c_ k.row 30)):=(Kp _ _).alloc (Ki _) _;have Mb:=Pq k g (w.alloc (c_ k.row 30)) hs (ho.at.below hz) (fun p hp=>(U7 hs ho p hp).below hz) ⟨hg.1,by have:=hz.size; omega⟩;have HI:=aA hid;clear hid hs ho hg hz
 go_enter func14,ntmps14
 go_upto_region 1 with fail;generalize w.alloc (c_ k.row 30)=W0 at *;obtain ⟨m0,m1,m2,m3,m4⟩:=S.I.box.cells;go_wp2_with fail;clear m0 m1 m2 m3 m4;refine Mb.mono ?_;clear Mb;rintro e W1 ⟨hb1,⟨hno,rfl⟩ | ⟨fm,K,rfl,hK⟩⟩
 .have HN:bN (Xr k.pure part [] /\B_ w.heap.size w W1):=⟨⟨fun h=>absurd h (by rw [hno]; simp),fun _=>rfl⟩,(S.I.below hb1).low⟩
  clear hno hb1;go_wp2;go_ret;exact ⟨[],n_,0,rfl,Ke _ _ _ _,HN.I.1,HN.I.2⟩
 obtain ⟨w1,b,tab,l,ls,a,cap,-,Yy,hl,hc,hj,hL,-,hlo⟩:=hK.ex;have hKM:=hL.apL Yy;have Yw:bN (B_ w.heap.size w W1):=(S.I.below hb1).low;have hfind:(l.find? (fun p=>p.1.q.id == part)).isSome=decide (part∈k.pure.parts.map (·.id)):=by
  rw [<- hl,Lv];by_cases hm:part∈l.map ((fun p:aE=>p.id) ∘ fun x=>x.1.pure)
  .rw [decide_eq_true hm]
   obtain ⟨x,hx,e⟩:=Lr.1 hm;rw [List.find?_isSome];exact ⟨x,hx,by have e2:x.1.q.id=part:=e; simpa using e2⟩
  .rw [decide_eq_false hm]
   cases hf:l.find? (fun p=>p.1.q.id == part) with
   | none=>rfl
   | some x=>exact absurd (Lr.2 ⟨x,List.mem_of_find?_eq_some hf,by have e2:x.1.q.id=part:=(by simpa using List.find?_some hf); exact e2⟩) hm
 have Mb:=fun hpt=>X5 k.pure part w1 W1 K b k.pure.bj tab l ls a cap fm hpt Yy hl hc hj hL
 have HF:=aA hfind;have HC:=aA Mb;have HY:=aA fm;have c63:=hKM.cell;have hlk:=hKM.map.look underlying66 (TQ W1) HI.I true;rw [Tf] at hlk;simp only [if_true] at hlk;clear fm hK Yy hl hL hlo hKM hb1 HI hc hj hfind Mb;cases hf:l.find? (fun p=>p.1.q.id == part) with
 | none=>
  have HN:bN (Xr k.pure part []):=⟨fun _ hm=>(by have h5:=HF.I; rw [hf,decide_eq_true hm] at h5; cases h5),fun _=>rfl⟩
  rw [hf] at hlk;simp only [Option.map_none,Option.isSome_none,qz] at hlk;clear hf HC HF HY;go_wp2;go_ret;exact ⟨[],n_,0,rfl,Ke _ _ _ _,HN.I,Yw.I⟩
 | some p=>
  have HM:bN (part∈k.pure.parts.map (·.id)):=by have h5:=HF.I; rw [hf] at h5; show part∈_; exact of_decide_eq_true h5.symm
  rw [hf] at hlk;simp only [Option.map_some,Option.isSome_some,qz,dt] at hlk;have Mb:=HC.I HM.I;clear hf HC HF;go_wp2_with fail;clear c63 hlk;refine Mb.mono ?_;clear Mb;rintro e W2 ⟨l2,a2,Ta,rfl,ho,hF,hb2⟩;have HN:bN (W2.ownsRow w.heap.size 2 1 (s_ a2 l2.length Ta) l2.length (Xn l2)/\Xr k.pure part l2/\B_ w.heap.size w W2):=⟨cq ho Yw.I.size,⟨fun _ _=>hF,fun h=>by
   rcases h with h | h
   .rw [HY.I] at h; cases h
   .exact absurd HM.I h⟩,Yw.I.trans (hb2.mono Yw.I.size)⟩
  clear ho hF hb2;go_wp2;go_ret;exact ⟨l2,a2,Ta,rfl,HN.I⟩
end
end Go.Proofs.YtckenjkcmajicaaGreat
