/- What the proof leans on, part 20. -/
import Derived.Test.YtfncpmaefninjaaGreatDoorOwnQ16
set_option linter.all false
set_option maxRecDepth 100000
set_option maxHeartbeats 8000000
open Go.Proofs.Tryz
open Go renaming World->w_,Calls->k_,Addr->d_
open Go.IntKind renaming i64->j_
open Go.Obj renaming cells->c_
open Go.RowKit renaming Below->B_,Hid->bN
open Go.Value renaming int->i_,slice->s_,bool->b_,string->t_,agg->a_
open Option renaming some->o_,none->n_
open Function renaming comp_def->Ls
open Go renaming wp_at_succ->Kd,wp_at_zero->Kc
open Go.Proofs.Tryz renaming prog->J3
open List renaming getElem_cons_succ->K1,getElem_cons_zero->K0,getElem_toArray->KZ,length_cons->Lg,length_nil->K4,nil_append->Ll

open Go.RowKit
namespace Go.Proofs.YtfncpmaefninjaaGreatDoor
open Go.Maps
attribute [local go_sem ↓] Kc Kd
theorem uJ {p:aE} {y:ci} (h:aQ p) (hy:y∈p.ae):y.max<=5:=by
 have h1:=(cK h.ae y hy).2;unfold ct at h1;simp only [J7] at h1;exact (bz.1 h1.1).2
theorem CD (q:af) (n bj:Nat) (x:ao) (bC:Int) (o:dN) (w:w_) (h:ap w bj q) (hb:bj<=w.heap.size) (hr:aQ q.pure) (hx:q.L8[n]? =o_ x) (hs:x.Md=1) (hn:q.next<=999999990) (eu:0<=bC/\bC<=1000000000) (ho:kc o=true) (hk:o.1=8):
  k_ J3 90 #[a_ q.cells,i_ j_ n,a_ (j9 o),i_ j_ bC] w (jH w bj q (lc o bC x.id q.pure)):=by
 obtain ⟨-,f1,f2,f3,f4⟩:=dv ho;have hM:=bz.1 f2;obtain ⟨k,N,M,s⟩:=o;simp only at hk hM f1 f3 f4;subst hk;have HR:=aA (SD hr hx hs hn eu hM);have HF:=aA (dW hr);clear f2 hr hx hs hn eu hM ho;have S:=aA (Xf.start (o:=(8,N,M,s)) h hb);clear h hb
 go_enter func90,ntmps90
 go_upto_region 1 with fail;generalize ((w.alloc (c_ q.cells 31)).alloc (c_ (j9 (8,N,M,s)) 45)).alloc (c_ ar 31)=A at *;obtain ⟨-,o1,-,-⟩:=S.I.op.cells;simp only at o1;have hpf:=ef (num:=fun x:au=>x.id) N q.ae 0;have Mb:=lr q N A Zcx S.I.fr.own.at;generalize place (q.ae.map (fun x=>x.id)) N 0=z at *;go_wp2_with (refine eT _ S.I.fr.box ?_);refine Mb.mono ?_;clear Mb;rintro e A2 ⟨rfl,hb2⟩;replace S:=aA (S.I.reads hb2);clear hb2 o1;have hfm:=lJ (num:=fun x:ci=>x.id) (je:=fun x:au=>x.id) (g:=fun x:au=>x.toci) (fun _=>rfl) (id:=N) q.ae;rcases hpf with ⟨hz,hf⟩ | ⟨m,y,hz,hm,hid,hf⟩
 .subst hz
  rw [hf] at hfm;have HE:bN (lc (8,N,M,s) bC x.id q.pure=bu 3 x.id q.pure):=by show lc (8,N,M,s) bC x.id q.pure=_; unfold lc; rw [show cg (fun x:ci=>x.id) N q.pure.ae=n_ from hfm]
  exact Zcn
 rw [hf] at hfm;rw [Li] at hz;subst hz;have afO:decide ((m:Int) < 0)=false:=decide_eq_false zo;have HM:bN (q.ae[m]? =o_ y/\y.id=N/\cg (fun x:ci=>x.id) N q.pure.ae=o_ y.toci):=⟨hm,hid,hfm⟩
 have hml:=(Lj.1 hm).1;have j0:(0:Int)<=(m:Int):=zo
 have j1:(m:Int) < (q.ae.length:Int):=zo
 clear hm hid hf hfm hml;obtain ⟨Y5,iE,hat⟩:=iA S.I.fr.own.at.2.2.2.2.1 HM.I.1;have m6:=S.I.fr.box.cells.2.2.2.2.2.2.1;rw [iE] at m6;have d0:=hat.1;have d1:=hat.2.1;have d2:=hat.2.2;have HG:bN (q.am=o_ ⟨Y5,0,n_⟩):=iE;clear hat iE;have h5:=(Kp A2.heap.size A2).alloc (Ki _) (c_ #[i_ j_ y.id,i_ j_ y.max,s_ y.ak y.Ma.length y.aq] 96);have afa:bN ((A2.alloc (c_ #[i_ j_ y.id,i_ j_ y.max,s_ y.ak y.Ma.length y.aq] 96)).heap[A2.heap.size]? =o_ (c_ #[i_ j_ y.id,i_ j_ y.max,s_ y.ak y.Ma.length y.aq] 96)/\w.heap.size+3<=A2.heap.size):=⟨Kj _ _,S.I.fr.sz.2.1⟩
 replace S:=aA (S.I.reads h5);clear h5;go_upto_region 5 with fail;generalize A2.alloc (c_ #[i_ j_ y.id,i_ j_ y.max,s_ y.ak y.Ma.length y.aq] 96)=B at *;generalize A2.heap.size=X at *;clear m6 d0 d1 d2 afO;obtain ⟨o0,o1,-,-⟩:=S.I.op.cells;simp only at o0 o1;have Mb:=ij q 6 N B Zcx S.I.fr.own.at;go_wp2_with (refine eT _ S.I.fr.box ?_);refine Mb.mono ?_;clear Mb o0 o1;rintro e A3 ⟨⟨z,rfl,gV⟩,hb2⟩;replace afa:=aA (And.intro ((hb2.block X (J2.1 afa.I.1).1).trans afa.I.1) afa.I.2);replace S:=aA (S.I.reads hb2);clear hb2;have IB:bN (bw s=true):=f3;clear f1 f3 f4;rcases pp gV with ⟨hz,hw⟩ | ⟨i,v,hz,hi,hw⟩
 .have HW:bN (jl 6 N q.pure.L8=n_):=hw
  have afO:decide (z>=0)=false:=decide_eq_false zo;clear gV hz hw;have HU:bN (lc (8,N,M,s) bC x.id q.pure=if (y.Ma.length:Int)=y.max then mX 5 (8,N,M,s) bC x.id q.pure else bu 0 x.id (cV N (y.Ma ++ [s]) q.pure)):=by show lc (8,N,M,s) bC x.id q.pure=_; unfold lc; rw [show cg (fun x:ci=>x.id) N q.pure.ae=o_ y.toci from HM.I.2.2]; dsimp only; rw [HW.I]
  have x1:A3.cell? ⟨X,1,n_⟩=o_ (i_ j_ y.max):=by simp [World.cell?,afa.I.1]
  have x2:A3.cell? ⟨X,2,n_⟩=o_ (s_ y.ak y.Ma.length y.aq):=by simp [World.cell?,afa.I.1]
  by_cases hfl:(y.Ma.length:Int)=y.max
  .have HE:bN (lc (8,N,M,s) bC x.id q.pure=mX 5 (8,N,M,s) bC x.id q.pure):=HU.I.trans (if_pos hfl)
   have e1:((y.Ma.length:Int) == y.max)=true:=by simp [hfl]
   clear hfl;have Mb:=oR q n bj x 5 bC (8,N,M,s) A3 S.I.fr.own S.I.low HR.I.1 HR.I.2.1 Zcz ZcV HR.I.2.2.2.2.1 HR.I.2.2.2.2.2;go_wp2_with (first | (refine eT _ S.I.fr.box ?_) | (refine LS rfl 45 (.tmp 6) rfl (w.heap.size+1) (by rfl) 45 (j9 (8,N,M,s)) (0,0) _ S.I.op underlying45 rfl Zcq ?_));exact Zb1
  have HE:bN (lc (8,N,M,s) bC x.id q.pure=bu 0 x.id (cV N (y.Ma ++ [s]) q.pure)):=HU.I.trans (if_neg hfl);have e1:((y.Ma.length:Int) == y.max)=false:=by simp [hfl]
  have HN:bN (¬ (y.Ma.length:Int)=y.max):=hfl;clear hfl HU;go_upto_region 7 with fail;clear e1 afO x1 x2;replace S:=aA (S.I.reads (Kp _ _).drew);replace afa:bN (A3.drew.heap[X]? =o_ (c_ #[i_ j_ y.id,i_ j_ y.max,s_ y.ak y.Ma.length y.aq] 96)/\w.heap.size+3<=X):=afa.I;refine Kr (S:=fun w'=>av w' w.heap.size q/\oo w' (w.heap.size+1) (8,N,M,s)/\w'.heap[X]? =o_ (c_ #[i_ j_ y.id,i_ j_ y.max,s_ y.ak y.Ma.length y.aq] 96)) Zcq ⟨S.I.fr.box,S.I.op,afa.I.1⟩ (fun bE=> ?_);generalize A3.drew=V2 at *;refine agi 0 bE ?_;refine agi 1 bE ?_;refine agi 2 bE ?_;refine agi 4 bE ?_;refine agi 5 bE ?_;refine agi 7 bE ?_;refine agi 8 bE ?_;clear bE;have hbz:w.heap.size+3<=V2.heap.size:=S.I.fr.sz.2.1;have lW:=(J2.1 afa.I.1).1;have hS: ∀ W,B_ V2.heap.size V2 W->av W w.heap.size q/\oo W (w.heap.size+1) (8,N,M,s)/\W.heap[X]? =o_ (c_ #[i_ j_ y.id,i_ j_ y.max,s_ y.ak y.Ma.length y.aq] 96):=fun W hb=>⟨S.I.fr.box.below hb,(hb.block _ zo).trans S.I.op,(hb.block _ lW).trans afa.I.1⟩
  have hil:y.Ma.length<=5:=by have h5:=(ji (o:=(8,N,M,s)) HR.I.1 HM.I.2.2).2.2.1; have h6:=uJ HR.I.1 (Lr.2 ⟨y,KA HM.I.1,rfl⟩); have h7:y.toci.Ma=y.Ma:=rfl; have h8:y.toci.max=y.max:=rfl; omega
  have wg:bN (∀ (W:w_) (g:Nat),B_ V2.heap.size V2 W->W.heap[g]? =o_ (c_ #[] 9)->V2.heap.size<=g-> ∃ a5 c5 w5,(Builtin.append_ #[94,94] 94 #[s_ (o_ ⟨g,0,n_⟩) 0 0,s_ y.ak y.Ma.length y.aq]).run J3 W= .ok (s_ a5 y.Ma.length c5) w5/\w5.ownsRow V2.heap.size 9 1 (s_ a5 y.Ma.length c5) y.Ma.length (bT.flat y.Ma)/\B_ V2.heap.size V2 w5/\ ∀ h,V2.heap.size<=h->h≠g->h < W.heap.size->w5.heap[h]? =W.heap[h]?):=fun W g hb hg hge=>by
   obtain ⟨a5,c5,w5,hap,oe,A7,-⟩:=tO W V2.heap.size g hg hge y.ak y.Ma y.aq (lj (S.I.fr.own.below hb).at.2.2.2.2.1 HM.I.1) zo hb.size;exact Za2
  have afR: ∀ (W:w_) (c:Obj),B_ V2.heap.size V2 W->B_ V2.heap.size V2 (W.alloc c):=fun W c hb=>hb.alloc hb.size _
  refine KW (rs:= [3,9]) Zcq zw ?_;refine KX rfl (fun K hK=> ?_) (KX rfl (fun K hK=> ?_) KY)
  focus
   have b1:B_ V2.heap.size V2 (V2.alloc (c_ #[] 9)):=afR _ _ (Kp _ _);simp only [KZ,K0,K1];rw [if_pos (by rfl)];go_wp2_with fail;refine hK.out _ _ (hS _ b1) (fun bE=> ?_);clear hK K bE
   try simp only [pt,sb,s0,s1]
   have b7:B_ V2.heap.size V2 ((V2.alloc (c_ #[] 9)).alloc (c_ #[t_ s] 9)):=afR _ _ b1;refine KW (rs:= [6,9]) Zcq zw ?_;refine KX rfl (fun K hK=> ?_) (KX rfl (fun K hK=> ?_) KY)
   focus
    clear b7;obtain ⟨a5,c5,w5,hap,oe,iJ,-⟩:=wg.I _ _ b1 (Kj _ _) (Ki _);simp only [KZ,K0,K1];rw [if_pos (by rfl)];refine cM _ _ _ rfl _ _ _ w5 rfl rfl hap ?_;refine hK.out _ _ (hS _ iJ) (fun bE=> ?_);clear hK K bE
    try simp only [pt,sb,s0,s1]
    refine L7 9 (fun K hK=> ?_);go_wp2_with fail;refine hK.out _ _ (hS _ (afR _ _ iJ)) (fun bE=> ?_);clear hK K bE
    try simp only [pt,sb,s0,s1]
    have qJ:bN ((w5.alloc (c_ #[t_ s] 9)).ownsRow V2.heap.size 9 1 (s_ a5 y.Ma.length c5) y.Ma.length (bT.flat y.Ma)/\(w5.alloc (c_ #[t_ s] 9)).heap[w5.heap.size]? =o_ (c_ #[t_ s] 9)/\B_ V2.heap.size V2 (w5.alloc (c_ #[t_ s] 9))):=⟨cR oe ((Kp _ _).alloc (Ki _) _),Kj _ _,afR _ _ iJ⟩
    clear hap oe iJ b1 afR hS;generalize w5.alloc (c_ #[t_ s] 9)=w6 at *;generalize w5.heap.size=gx at *
   rotate_left
   focus
    obtain ⟨a5,c5,w6,om,qH,jQ,zU⟩:=wg.I _ _ b7 ((PU zw).trans (Kj _ _)) (Ki _);simp only [KZ,K0,K1];rw [if_pos (by rfl)];go_wp2_with fail;refine hK.out _ _ (hS _ b7) (fun bE=> ?_);clear hK K bE
    try simp only [pt,sb,s0,s1]
    refine L7 6 (fun K hK=> ?_);refine cM _ _ _ rfl _ _ _ w6 rfl rfl om ?_;refine hK.out _ _ (hS _ jQ) (fun bE=> ?_);clear hK K bE
    try simp only [pt,sb,s0,s1]
    have qJ:bN (w6.ownsRow V2.heap.size 9 1 (s_ a5 y.Ma.length c5) y.Ma.length (bT.flat y.Ma)/\w6.heap[(V2.heap.size+1)]? =o_ (c_ #[t_ s] 9)/\B_ V2.heap.size V2 w6):=⟨qH,(zU _ zo zo Zc5).trans Zdd,jQ⟩
    clear om qH jQ zU b1 b7 afR hS
  rotate_left 2
  focus
   have b7:B_ V2.heap.size V2 (V2.alloc (c_ #[t_ s] 9)):=afR _ _ (Kp _ _);simp only [KZ,K0,K1];rw [if_pos (by rfl)];go_wp2_with fail;refine hK.out _ _ (hS _ b7) (fun bE=> ?_);clear hK K bE
   try simp only [pt,sb,s0,s1]
   have b1:B_ V2.heap.size V2 ((V2.alloc (c_ #[t_ s] 9)).alloc (c_ #[] 9)):=afR _ _ b7;refine L7 3 (fun K hK=> ?_);go_wp2_with fail;refine hK.out _ _ (hS _ b1) (fun bE=> ?_);clear hK K bE
   try simp only [pt,sb,s0,s1]
   obtain ⟨a5,c5,w6,om,qH,jQ,zU⟩:=wg.I ((V2.alloc (c_ #[t_ s] 9)).alloc (c_ #[] 9)) (V2.heap.size+1) b1 (Kq _ _ _) zo;refine L7 6 (fun K hK=> ?_);refine cM _ _ _ rfl _ _ _ w6 rfl rfl om ?_;refine hK.out _ _ (hS _ jQ) (fun bE=> ?_);clear hK K bE
   try simp only [pt,sb,s0,s1]
   have qJ:bN (w6.ownsRow V2.heap.size 9 1 (s_ a5 y.Ma.length c5) y.Ma.length (bT.flat y.Ma)/\w6.heap[V2.heap.size]? =o_ (c_ #[t_ s] 9)/\B_ V2.heap.size V2 w6):=⟨qH,(zU _ zo zo Zc5).trans ((PU zw).trans (Kj _ _)),jQ⟩
   clear om qH jQ zU b1 b7 afR hS
  all_goals
   obtain ⟨a7,c7,w7,gT,mP,xI,-⟩:=ou w6 V2.heap.size a5 c5 y.Ma qJ.I.1 _ [s] 1 (jO qJ.I.2.1) (by simp only [Lg,K4]; omega) qJ.I.2.2.size;have mI:(y.Ma ++ [s]).length=y.Ma.length+1:=by rw [Lf]; rfl
   simp only [Lg,K4,Li] at gT mP;have gh:B_ V2.heap.size V2 w7:=qJ.I.2.2.grown xI qJ.I.2.2.size fun c e=>(cf qJ.I.1 (di e)).1
   rw [<- mI] at gT mP;obtain ⟨s1,⟨u,c⟩,f⟩:=mB (n:=m) S.I.fr.own (aI.dI gh) HM.I.1 HG.I (cq mP S.I.low) (fun g hg=> .inr (cf mP hg).1);rw [mI] at gT s1;refine L7 10 (fun K hK=> ?_);refine cM _ _ _ rfl _ _ _ w7 rfl rfl gT ?_;refine hK.out _ _ ⟨S.I.fr.box.below gh,(gh.block _ zo).trans S.I.op,(gh.block _ lW).trans afa.I.1⟩ (fun bE=> ?_);clear hK K bE
   try simp only [pt,sb]
   have wj:av w7 w.heap.size q/\oo w7 (w.heap.size+1) (8,N,M,s)/\w7.heap[X]? =o_ (c_ #[i_ j_ y.id,i_ j_ y.max,s_ y.ak y.Ma.length y.aq] 96):=⟨S.I.fr.box.below gh,(gh.block _ zo).trans S.I.op,(gh.block _ lW).trans afa.I.1⟩
   replace S:=aA (S.I.call s1);clear gT mP xI gh qJ wg s1;refine agi 11 wj ?_;refine agi 12 wj ?_;refine KW (rs:= [13]) Zcq zw ?_;refine KX rfl (fun K hK=> ?_) KY;have uQ:(w7.setCell ⟨Y5,m * 3+2,n_⟩ (s_ a7 (y.Ma.length+1) c7)).heap[X]? =o_ (c_ #[i_ j_ y.id,i_ j_ y.max,s_ y.ak y.Ma.length y.aq] 96):=(aH (fun e=> ?_)).trans wj.2.2;rotate_left
   .have h5:=(S.I.fr.lo Y5 (gD (.inr <| .inr <| .inr <| .inr <| .inl <| (by rw [HG.I]; simp [blk])))).2; have:=afa.I.2; omega
   simp only [KZ,K0,K1];rw [if_pos (by rfl)];go_wp2_with fail;refine hK.out _ _ ⟨S.I.fr.box,S.I.op,uQ⟩ (fun bE=> ?_);clear hK K bE;refine K3 Zcq ?_ _;clear c f u wj uQ lW hbz;go_upto_region 13 with fail;generalize w7.setCell ⟨Y5,m * 3+2,n_⟩ (s_ a7 (y.Ma.length+1) c7)=C at *;have CK:bN (∃ q1:af,q1= { q with ae:=q.ae.set m { y with Ma:=(y.Ma ++ [s]),ak:=a7,aq:=c7 } } /\q1.pure=cV N (y.Ma ++ [s]) q.pure/\q1.cells=q.cells/\aQ q1.pure/\q1.L8[n]? =o_ x):=by
    have hq:({ q with ae:=q.ae.set m { y with Ma:=(y.Ma ++ [s]),ak:=a7,aq:=c7 } } :af).pure=cV N (y.Ma ++ [s]) q.pure:=oN HR.I.1.ae HM.I.1 HM.I.2.1;have hr2:aQ (cV N (y.Ma ++ [s]) q.pure):=by
     refine gN HR.I.1 (fun z hz hk=> ?_) (fun t0 ht=> ?_)
     .have:=HN.I; have h5:=(ji (o:=(8,N,M,s)) HR.I.1 HM.I.2.2).2.2.1; have h7:y.toci.Ma=y.Ma:=rfl; have h8:y.toci.max=y.max:=rfl; rw [only HR.I.1.ae HM.I.2.2 hz hk,mI]; rw [h7] at h5; push_cast; omega
     .exact (Kg.1 ht).elim (fun ht=>(ji (o:=(8,N,M,s)) HR.I.1 HM.I.2.2).2.2.2 t0 ht) (fun ht=>by simp only [Kt,Ku,or_false] at ht; rw [ht]; exact IB.I)
    exact ZaW
   obtain ⟨q1,hq1,hq⟩:=CK.I;rw [<- hq1] at S;have HQ:=aA hq;clear hq1 hq CK;have Mb:=bB (n:=n) 0 S.I.fr.own S.I.low HQ.I.2.2.1 HQ.I.2.2.2 Zcz;rw [HQ.I.1,HQ.I.2.1] at Mb;go_wp2_with (refine eT _ S.I.fr.box ?_);refine Mb.mono ?_;clear Mb;rintro e A2 ⟨q2,rfl,hp,ht⟩;replace S:=aA (S.I.call ht);have HP:bN (q2.pure=_):=hp;clear hp ht;go_wp2_with (refine ec _ _ q2.cells S.I.an ?_);refine gZ results90 S.I.an ?_;exact ⟨q2,rfl,HP.I.trans HE.I.symm,S.I.done _⟩
 have HW:bN (jl 6 N q.pure.L8=o_ v.toaD/\q.L8[i]? =o_ v/\v.Md=6):=⟨hw,hi,(ft hw).2.1⟩
 subst hz;have afO:decide ((i:Int)>=0)=true:=decide_eq_true zo;clear gV hw hi afa;have HE:bN (lc (8,N,M,s) bC x.id q.pure=bu 0 x.id (gF (lG s) q.pure v.toaD)):=by show lc (8,N,M,s) bC x.id q.pure=_; unfold lc; rw [show cg (fun x:ci=>x.id) N q.pure.ae=o_ y.toci from HM.I.2.2]; dsimp only; rw [HW.I.1]
 obtain ⟨-,-,-,o3⟩:=S.I.op.cells;simp only at o3;obtain ⟨gp,l9,-⟩:=cn S.I.fr.own.at.1 HW.I.2.1;have m2:=S.I.fr.box.cells.2.2.1;have k1:(i:Int) < (q.L8.length:Int):=by have:=(Lj.1 HW.I.2.1).1; omega
 have k0:(0:Int)<=(i:Int):=zo
 rw [l9] at m2;obtain ⟨s1,⟨u,c⟩,f⟩:=eY (n:=i) (j:=9) (v:=t_ s) (y:= { v with got:=s }) S.I.fr.own HW.I.2.1 l9 ⟨rfl,rfl,rfl⟩ (by decide) rfl;replace S:=aA (S.I.call s1);clear s1 l9;go_upto_region 10 with fail;generalize A3.setCell ⟨gp,i * 12+9,n_⟩ (t_ s)=E at *;clear m2 c f u k0 k1 afO o3;obtain ⟨afn,hqg,g1,g2,g3,g4⟩:=kg HR.I.1 HW.I.2.1 IB.I;rw [<- hqg] at S;have Mb:=lP (n:=i) S.I.fr.own S.I.low g3 g4 (by show ¬ v.Md=0; rw [HW.I.2.2]; decide) (by rw [hqg]; have:=HR.I.2.2.2.1; show q.next<=_; omega);rw [g1,g2,show ({ v with got:=s } :ao).toaD=lG s v.toaD from rfl,Bz] at Mb;clear hqg g1 g2 g3 g4;go_wp2_with (refine eT _ S.I.fr.box ?_);refine Mb.mono ?_;clear Mb;rintro e afP ⟨q2,rfl,hp,ht⟩;replace S:=aA (S.I.call ht);obtain ⟨hr2,x2,hx2,sw⟩:=qp HR.I.1 HR.I.2.1 HR.I.2.2.1 HW.I.2.1 ZcI ZcI (.inr ⟨_,IB.I,rfl⟩) ZcV hp;have S2:=aA S.I.put;go_upto_region 13 with (refine ec _ _ q2.cells S.I.fr.box ?_);generalize afP.setRow w.heap.size q2.cells=afv at *;clear S;have S:=S2;clear S2;have Mb:=bB (n:=n) 0 S.I.fr.own S.I.low hr2 hx2 Zcy;rw [show x2.id=x.id from congrArg aD.id sw,hp,<- HE.I] at Mb;clear hp ht hr2 hx2 sw;go_wp2_with (refine eT _ S.I.fr.box ?_);refine Mb.mono ?_;clear Mb;rintro e E32 ⟨q3,rfl,hp,ht⟩;replace S:=aA (S.I.call ht);have HP:bN (q3.pure=_):=hp;clear hp ht;go_wp2_with (refine ec _ _ q3.cells S.I.an ?_);refine gZ results90 S.I.an ?_;exact ⟨q3,rfl,HP.I,S.I.done _⟩
end Go.Proofs.YtfncpmaefninjaaGreatDoor

namespace Go.Proofs.YtfncpmaefninjaaGreatDoor
open Go.Maps
attribute [local go_sem ↓] Kc Kd
theorem An {p:aE} {y:dS} (h:aQ p) (hy:y∈p.ai):y.max<=5:=by
 have h1:=(cK h.ai y hy).2;unfold dj at h1;simp only [J7] at h1;exact (bz.1 h1.1.1).2
theorem Av (q:af) (n bj:Nat) (x:ao) (o:dN) (w:w_) (h:ap w bj q) (hb:bj<=w.heap.size) (hr:aQ q.pure) (hx:q.L8[n]? =o_ x) (hs:x.Md=1) (hn:q.next<=999999990) (ho:kc o=true) (hk:o.1=13):
  k_ J3 92 #[a_ q.cells,i_ j_ n,a_ (j9 o)] w (jH w bj q (ig o x.id q.pure)):=by
 obtain ⟨-,f1,f2,f3,f4⟩:=dv ho;have hM:=bz.1 f2;obtain ⟨k,N,M,s⟩:=o;simp only at hk hM f1 f3 f4;subst hk;have HR:bN (aQ q.pure/\q.L8[n]? =o_ x/\x.Md=1/\q.next<=999999990/\(-1<=M/\M<=1000)):=⟨hr,hx,hs,hn,hM⟩
 have HF:=aA (dW hr);clear f2 hr hx hs hn hM ho;have S:=aA (Xf.start (o:=(13,N,M,s)) h hb);clear h hb
 go_enter func92,ntmps92
 go_upto_region 1 with fail;generalize ((w.alloc (c_ q.cells 31)).alloc (c_ (j9 (13,N,M,s)) 45)).alloc (c_ ar 31)=A at *;obtain ⟨-,o1,-,-⟩:=S.I.op.cells;simp only at o1;have hpf:=ef (num:=fun x:aM=>x.id) N q.ai 0;have Mb:=uV q N A Zcx S.I.fr.own.at;generalize place (q.ai.map (fun x=>x.id)) N 0=z at *;go_wp2_with (refine eT _ S.I.fr.box ?_);refine Mb.mono ?_;clear Mb;rintro e A2 ⟨rfl,hb2⟩;replace S:=aA (S.I.reads hb2);clear hb2 o1;have hfm:=lJ (num:=fun x:dS=>x.id) (je:=fun x:aM=>x.id) (g:=fun x:aM=>x.todS) (fun _=>rfl) (id:=N) q.ai;rcases hpf with ⟨hz,hf⟩ | ⟨m,y,hz,hm,hid,hf⟩
 .subst hz
  rw [hf] at hfm;have HE:bN (ig (13,N,M,s) x.id q.pure=bu 3 x.id q.pure):=by show ig (13,N,M,s) x.id q.pure=_; unfold ig; rw [show cg (fun x:dS=>x.id) N q.pure.ai=n_ from hfm]
  exact Zb3
 rw [hf] at hfm;rw [Li] at hz;subst hz;have afO:decide ((m:Int) < 0)=false:=decide_eq_false zo;have HM:bN (q.ai[m]? =o_ y/\y.id=N/\cg (fun x:dS=>x.id) N q.pure.ai=o_ y.todS):=⟨hm,hid,hfm⟩
 have hml:=(Lj.1 hm).1;have j0:(0:Int)<=(m:Int):=zo
 have j1:(m:Int) < (q.ai.length:Int):=zo
 clear hm hid hf hfm hml;go_upto_region 2 with fail;replace S:=aA (S.I.reads (Kp _ _).drew);refine aT (fun w1=>w1=A2.drew) Zcq rfl ?_;generalize A2.drew=B at *;obtain ⟨Y5,iE,hat⟩:=lm S.I.fr.own.at.2.2.2.2.2 HM.I.1;have m7:=S.I.fr.box.cells.2.2.2.2.2.2.2;rw [iE] at m7;have d0:=hat.1;have d1:=hat.2.1;have d2:=hat.2.2.1;have d3:=hat.2.2.2.1;have d4:=hat.2.2.2.2;have HG:bN (q.aK=o_ ⟨Y5,0,n_⟩):=iE;clear hat iE;obtain ⟨o0,-,-,-⟩:=S.I.op.cells;simp only at o0
 iterate 14 (refine agj ?_)
 refine bk Zcq ?_ _;intro w1 cm;rw [cm];clear cm w1 afO;have IB:bN (bw s=true):=f3;clear f1 f3 f4;have tI:bN ((∀ u∈y.Ma,bw u=true)/\y.Ma.length<=5/\(y.Ma.length:Int)<=y.max/\1<=y.max):=by
  have h5:=nB (o:=(13,N,M,s)) HR.I.1 HM.I.2.2; have h6:=An HR.I.1 (Lr.2 ⟨y,KA HM.I.1,rfl⟩);exact Zba
 cases hu:y.I
 .rw [hu] at d1
  have HE:bN (ig (13,N,M,s) x.id q.pure=bu 3 x.id q.pure):=by show ig (13,N,M,s) x.id q.pure=_; unfold ig; rw [show cg (fun x:dS=>x.id) N q.pure.ai=o_ y.todS from HM.I.2.2]; exact if_pos hu
  exact Zb7
 have HO:bN (y.I=true):=hu;clear hu;rw [HO.I] at d1;have h5:=(Kp B.heap.size B).alloc (Ki _) (c_ #[i_ j_ y.id,b_ true,b_ y.Mf,i_ j_ y.max,s_ y.ak y.Ma.length y.aq] 115);have afa:bN ((B.alloc (c_ #[i_ j_ y.id,b_ true,b_ y.Mf,i_ j_ y.max,s_ y.ak y.Ma.length y.aq] 115)).heap[B.heap.size]? =o_ (c_ #[i_ j_ y.id,b_ true,b_ y.Mf,i_ j_ y.max,s_ y.ak y.Ma.length y.aq] 115)/\w.heap.size+3<=B.heap.size):=⟨Kj _ _,S.I.fr.sz.2.1⟩
 replace S:=aA (S.I.reads h5);clear h5;go_upto_region 5 with fail;generalize B.alloc (c_ #[i_ j_ y.id,b_ true,b_ y.Mf,i_ j_ y.max,s_ y.ak y.Ma.length y.aq] 115)=C at *;generalize B.heap.size=X at *;clear m7 d0 d1 d2 d3 d4 o0;obtain ⟨o0,-,-,-⟩:=S.I.op.cells;simp only at o0;have x2:C.cell? ⟨X,2,n_⟩=o_ (b_ y.Mf):=by simp [World.cell?,afa.I.1]
 have x3:C.cell? ⟨X,3,n_⟩=o_ (i_ j_ y.max):=by simp [World.cell?,afa.I.1]
 have x4:C.cell? ⟨X,4,n_⟩=o_ (s_ y.ak y.Ma.length y.aq):=by simp [World.cell?,afa.I.1]
 cases nu:y.Mf
 .rw [nu] at x2
  have HE:bN (ig (13,N,M,s) x.id q.pure=bu 0 x.id (gU N [s] q.pure)):=by show ig (13,N,M,s) x.id q.pure=_; unfold ig; rw [show cg (fun x:dS=>x.id) N q.pure.ai=o_ y.todS from HM.I.2.2]; dsimp only; rw [if_neg (show ¬ y.I=false by rw [HO.I]; decide),if_pos nu]
  clear nu afa;go_upto_region 7 with fail;clear x2 x3 x4 o0;have m7:=S.I.fr.box.cells.2.2.2.2.2.2.2;rw [HG.I] at m7;obtain ⟨-,-,-,o3⟩:=S.I.op.cells;simp only at o3;have b1:B_ C.heap.size C (C.alloc (c_ #[t_ s] 9)):=(Kp _ _).alloc (Ki _) _;have mP:World.ownsRow (C.alloc (c_ #[t_ s] 9)) C.heap.size 9 1 (s_ (o_ ⟨C.heap.size,0,n_⟩) [s].length 1) [s].length (bT.flat [s]):=IN _ _;have afS:World.cell? (C.alloc (c_ #[t_ s] 9)) ⟨w.heap.size,7,n_⟩=o_ (s_ (o_ ⟨Y5,0,n_⟩) q.ai.length q.aV):=(b1.cell (p:=⟨w.heap.size,7,n_⟩) (av.lt S.I.fr.box)).trans m7;obtain ⟨s1,⟨u,c⟩,f⟩:=pg (n:=m) S.I.fr.own (aI.dI b1) HM.I.1 HG.I (cq mP S.I.low) (fun g hg=> .inr (cf mP hg).1);replace S:=aA (S.I.call s1);clear s1 mP;simp only [Lg,K4,Li] at S c f;go_upto_region 8 with fail;generalize World.setCell (C.alloc (c_ #[t_ s] 9)) ⟨Y5,m * 5+4,n_⟩ (s_ (o_ ⟨C.heap.size,0,n_⟩) 1 1)=E at *;clear m7 afS c f u o3 b1;generalize C.heap.size=gx at *;have CK:bN (∃ q1:af,q1= { q with ai:=q.ai.set m { y with Ma:= [s],ak:=(o_ ⟨gx,0,n_⟩),aq:=1 } } /\q1.pure=gU N [s] q.pure/\q1.cells=q.cells/\aQ q1.pure/\q1.L8[n]? =o_ x):=by
   have hq:({ q with ai:=q.ai.set m { y with Ma:= [s],ak:=(o_ ⟨gx,0,n_⟩),aq:=1 } } :af).pure=gU N [s] q.pure:=sq HR.I.1.ai HM.I.1 HM.I.2.1;have hr2:aQ (gU N [s] q.pure):=by
    refine jj HR.I.1 (fun z hz hk=> ?_) (fun t0 ht=> ?_)
    .rw [only HR.I.1.ai HM.I.2.2 hz hk]; exact tI.I.2.2.2
    .simp only [Kt,Ku,or_false] at ht; rw [ht]; exact IB.I
   exact ZaW
  obtain ⟨q1,hq1,hq⟩:=CK.I;rw [<- hq1] at S;have HQ:=aA hq;clear hq1 hq CK;have Mb:=bB (n:=n) 0 S.I.fr.own S.I.low HQ.I.2.2.1 HQ.I.2.2.2 Zcz;rw [HQ.I.1,HQ.I.2.1] at Mb;exact h_
 rw [nu] at x2;have HU:bN (ig (13,N,M,s) x.id q.pure=if (y.Ma.length:Int)=y.max then bu 1 x.id q.pure else bu 0 x.id (gU N (y.Ma ++ [s]) q.pure)):=by show ig (13,N,M,s) x.id q.pure=_; unfold ig; rw [show cg (fun x:dS=>x.id) N q.pure.ai=o_ y.todS from HM.I.2.2]; dsimp only; rw [if_neg (show ¬ y.I=false by rw [HO.I]; decide),if_neg (show ¬ y.Mf=false by rw [nu]; decide)]
 have CK:bN (y.Mf=true):=nu;clear nu;by_cases hfl:(y.Ma.length:Int)=y.max
 .have HE:bN (ig (13,N,M,s) x.id q.pure=bu 1 x.id q.pure):=HU.I.trans (if_pos hfl)
  have e1:((y.Ma.length:Int) == y.max)=true:=by simp [hfl]
  clear hfl;have Mb:=bB (n:=n) 1 S.I.fr.own S.I.low HR.I.1 HR.I.2.1 Zcz;exact h_
 have HE:bN (ig (13,N,M,s) x.id q.pure=bu 0 x.id (gU N (y.Ma ++ [s]) q.pure)):=HU.I.trans (if_neg hfl);have e1:((y.Ma.length:Int) == y.max)=false:=by simp [hfl]
 have HN:bN (¬ (y.Ma.length:Int)=y.max):=hfl;clear hfl HU;go_upto_region 11 with fail;clear e1 x2 x3 x4 o0;replace S:=aA (S.I.reads (Kp _ _).drew);replace afa:bN (C.drew.heap[X]? =o_ (c_ #[i_ j_ y.id,b_ true,b_ y.Mf,i_ j_ y.max,s_ y.ak y.Ma.length y.aq] 115)/\w.heap.size+3<=X):=afa.I;refine Kr (S:=fun w'=>av w' w.heap.size q/\oo w' (w.heap.size+1) (13,N,M,s)/\w'.heap[X]? =o_ (c_ #[i_ j_ y.id,b_ true,b_ y.Mf,i_ j_ y.max,s_ y.ak y.Ma.length y.aq] 115)) Zcq ⟨S.I.fr.box,S.I.op,afa.I.1⟩ (fun bE=> ?_);generalize C.drew=V2 at *;refine agi 0 bE ?_;refine agi 1 bE ?_;refine agi 2 bE ?_;refine agi 4 bE ?_;refine agi 5 bE ?_;refine agi 7 bE ?_;refine agi 8 bE ?_;clear bE;have hbz:w.heap.size+3<=V2.heap.size:=S.I.fr.sz.2.1;have lW:=(J2.1 afa.I.1).1;have hS: ∀ W,B_ V2.heap.size V2 W->av W w.heap.size q/\oo W (w.heap.size+1) (13,N,M,s)/\W.heap[X]? =o_ (c_ #[i_ j_ y.id,b_ true,b_ y.Mf,i_ j_ y.max,s_ y.ak y.Ma.length y.aq] 115):=fun W hb=>⟨S.I.fr.box.below hb,(hb.block _ zo).trans S.I.op,(hb.block _ lW).trans afa.I.1⟩
 have hil:y.Ma.length<=5:=tI.I.2.1;have wg:bN (∀ (W:w_) (g:Nat),B_ V2.heap.size V2 W->W.heap[g]? =o_ (c_ #[] 9)->V2.heap.size<=g-> ∃ a5 c5 w5,(Builtin.append_ #[94,94] 94 #[s_ (o_ ⟨g,0,n_⟩) 0 0,s_ y.ak y.Ma.length y.aq]).run J3 W= .ok (s_ a5 y.Ma.length c5) w5/\w5.ownsRow V2.heap.size 9 1 (s_ a5 y.Ma.length c5) y.Ma.length (bT.flat y.Ma)/\B_ V2.heap.size V2 w5/\ ∀ h,V2.heap.size<=h->h≠g->h < W.heap.size->w5.heap[h]? =W.heap[h]?):=fun W g hb hg hge=>by
  obtain ⟨a5,c5,w5,hap,oe,A7,-⟩:=tO W V2.heap.size g hg hge y.ak y.Ma y.aq (nJ (S.I.fr.own.below hb).at.2.2.2.2.2 HM.I.1) zo hb.size;exact Za2
 have afR: ∀ (W:w_) (c:Obj),B_ V2.heap.size V2 W->B_ V2.heap.size V2 (W.alloc c):=fun W c hb=>hb.alloc hb.size _
 refine KW (rs:= [3,9]) Zcq zw ?_;refine KX rfl (fun K hK=> ?_) (KX rfl (fun K hK=> ?_) KY)
 focus
  have b1:B_ V2.heap.size V2 (V2.alloc (c_ #[] 9)):=afR _ _ (Kp _ _);simp only [KZ,K0,K1];rw [if_pos (by rfl)];go_wp2_with fail;refine hK.out _ _ (hS _ b1) (fun bE=> ?_);clear hK K bE
  try simp only [pt,sb,s0,s1]
  have b7:B_ V2.heap.size V2 ((V2.alloc (c_ #[] 9)).alloc (c_ #[t_ s] 9)):=afR _ _ b1;refine KW (rs:= [6,9]) Zcq zw ?_;refine KX rfl (fun K hK=> ?_) (KX rfl (fun K hK=> ?_) KY)
  focus
   clear b7;obtain ⟨a5,c5,w5,hap,oe,iJ,-⟩:=wg.I _ _ b1 (Kj _ _) (Ki _);simp only [KZ,K0,K1];rw [if_pos (by rfl)];refine cM _ _ _ rfl _ _ _ w5 rfl rfl hap ?_;refine hK.out _ _ (hS _ iJ) (fun bE=> ?_);clear hK K bE
   try simp only [pt,sb,s0,s1]
   refine L7 9 (fun K hK=> ?_);go_wp2_with fail;refine hK.out _ _ (hS _ (afR _ _ iJ)) (fun bE=> ?_);clear hK K bE
   try simp only [pt,sb,s0,s1]
   have qJ:bN ((w5.alloc (c_ #[t_ s] 9)).ownsRow V2.heap.size 9 1 (s_ a5 y.Ma.length c5) y.Ma.length (bT.flat y.Ma)/\(w5.alloc (c_ #[t_ s] 9)).heap[w5.heap.size]? =o_ (c_ #[t_ s] 9)/\B_ V2.heap.size V2 (w5.alloc (c_ #[t_ s] 9))):=⟨cR oe ((Kp _ _).alloc (Ki _) _),Kj _ _,afR _ _ iJ⟩
   clear hap oe iJ b1 afR hS;generalize w5.alloc (c_ #[t_ s] 9)=w6 at *;generalize w5.heap.size=gx at *
  rotate_left
  focus
   obtain ⟨a5,c5,w6,om,qH,jQ,zU⟩:=wg.I _ _ b7 ((PU zw).trans (Kj _ _)) (Ki _);simp only [KZ,K0,K1];rw [if_pos (by rfl)];go_wp2_with fail;refine hK.out _ _ (hS _ b7) (fun bE=> ?_);clear hK K bE
   try simp only [pt,sb,s0,s1]
   refine L7 6 (fun K hK=> ?_);refine cM _ _ _ rfl _ _ _ w6 rfl rfl om ?_;refine hK.out _ _ (hS _ jQ) (fun bE=> ?_);clear hK K bE
   try simp only [pt,sb,s0,s1]
   have qJ:bN (w6.ownsRow V2.heap.size 9 1 (s_ a5 y.Ma.length c5) y.Ma.length (bT.flat y.Ma)/\w6.heap[(V2.heap.size+1)]? =o_ (c_ #[t_ s] 9)/\B_ V2.heap.size V2 w6):=⟨qH,(zU _ zo zo Zc5).trans Zdd,jQ⟩
   clear om qH jQ zU b1 b7 afR hS
 rotate_left 2
 focus
  have b7:B_ V2.heap.size V2 (V2.alloc (c_ #[t_ s] 9)):=afR _ _ (Kp _ _);simp only [KZ,K0,K1];rw [if_pos (by rfl)];go_wp2_with fail;refine hK.out _ _ (hS _ b7) (fun bE=> ?_);clear hK K bE
  try simp only [pt,sb,s0,s1]
  have b1:B_ V2.heap.size V2 ((V2.alloc (c_ #[t_ s] 9)).alloc (c_ #[] 9)):=afR _ _ b7;refine L7 3 (fun K hK=> ?_);go_wp2_with fail;refine hK.out _ _ (hS _ b1) (fun bE=> ?_);clear hK K bE
  try simp only [pt,sb,s0,s1]
  obtain ⟨a5,c5,w6,om,qH,jQ,zU⟩:=wg.I ((V2.alloc (c_ #[t_ s] 9)).alloc (c_ #[] 9)) (V2.heap.size+1) b1 (Kq _ _ _) zo;refine L7 6 (fun K hK=> ?_);refine cM _ _ _ rfl _ _ _ w6 rfl rfl om ?_;refine hK.out _ _ (hS _ jQ) (fun bE=> ?_);clear hK K bE
  try simp only [pt,sb,s0,s1]
  have qJ:bN (w6.ownsRow V2.heap.size 9 1 (s_ a5 y.Ma.length c5) y.Ma.length (bT.flat y.Ma)/\w6.heap[V2.heap.size]? =o_ (c_ #[t_ s] 9)/\B_ V2.heap.size V2 w6):=⟨qH,(zU _ zo zo Zc5).trans ((PU zw).trans (Kj _ _)),jQ⟩
  clear om qH jQ zU b1 b7 afR hS
 all_goals
  obtain ⟨a7,c7,w7,gT,mP,xI,-⟩:=ou w6 V2.heap.size a5 c5 y.Ma qJ.I.1 _ [s] 1 (jO qJ.I.2.1) (by simp only [Lg,K4]; omega) qJ.I.2.2.size;have mI:(y.Ma ++ [s]).length=y.Ma.length+1:=by rw [Lf]; rfl
  simp only [Lg,K4,Li] at gT mP;have gh:B_ V2.heap.size V2 w7:=qJ.I.2.2.grown xI qJ.I.2.2.size fun c e=>(cf qJ.I.1 (di e)).1
  rw [<- mI] at gT mP;obtain ⟨s1,⟨u,c⟩,f⟩:=pg (n:=m) S.I.fr.own (aI.dI gh) HM.I.1 HG.I (cq mP S.I.low) (fun g hg=> .inr (cf mP hg).1);rw [mI] at gT s1;refine L7 10 (fun K hK=> ?_);refine cM _ _ _ rfl _ _ _ w7 rfl rfl gT ?_;refine hK.out _ _ ⟨S.I.fr.box.below gh,(gh.block _ zo).trans S.I.op,(gh.block _ lW).trans afa.I.1⟩ (fun bE=> ?_);clear hK K bE
  try simp only [pt,sb]
  have wj:av w7 w.heap.size q/\oo w7 (w.heap.size+1) (13,N,M,s)/\w7.heap[X]? =o_ (c_ #[i_ j_ y.id,b_ true,b_ y.Mf,i_ j_ y.max,s_ y.ak y.Ma.length y.aq] 115):=⟨S.I.fr.box.below gh,(gh.block _ zo).trans S.I.op,(gh.block _ lW).trans afa.I.1⟩
  replace S:=aA (S.I.call s1);clear gT mP xI gh qJ wg s1;refine agi 11 wj ?_;refine agi 12 wj ?_;refine KW (rs:= [13]) Zcq zw ?_;refine KX rfl (fun K hK=> ?_) KY;have uQ:(w7.setCell ⟨Y5,m * 5+4,n_⟩ (s_ a7 (y.Ma.length+1) c7)).heap[X]? =o_ (c_ #[i_ j_ y.id,b_ true,b_ y.Mf,i_ j_ y.max,s_ y.ak y.Ma.length y.aq] 115):=(aH (fun e=> ?_)).trans wj.2.2;rotate_left
  .have h5:=(S.I.fr.lo Y5 (gD (.inr <| .inr <| .inr <| .inr <| .inr <| (by rw [HG.I]; simp [blk])))).2; have:=afa.I.2; omega
  simp only [KZ,K0,K1];rw [if_pos (by rfl)];go_wp2_with fail;refine hK.out _ _ ⟨S.I.fr.box,S.I.op,uQ⟩ (fun bE=> ?_);clear hK K bE;refine K3 Zcq ?_ _;clear c f u wj uQ lW hbz;go_upto_region 12 with fail;generalize w7.setCell ⟨Y5,m * 5+4,n_⟩ (s_ a7 (y.Ma.length+1) c7)=C at *;have CK:bN (∃ q1:af,q1= { q with ai:=q.ai.set m { y with Ma:=(y.Ma ++ [s]),ak:=a7,aq:=c7 } } /\q1.pure=gU N (y.Ma ++ [s]) q.pure/\q1.cells=q.cells/\aQ q1.pure/\q1.L8[n]? =o_ x):=by
   have hq:({ q with ai:=q.ai.set m { y with Ma:=(y.Ma ++ [s]),ak:=a7,aq:=c7 } } :af).pure=gU N (y.Ma ++ [s]) q.pure:=sq HR.I.1.ai HM.I.1 HM.I.2.1;have hr2:aQ (gU N (y.Ma ++ [s]) q.pure):=by
    refine jj HR.I.1 (fun z hz hk=> ?_) (fun t0 ht=> ?_)
    .rw [only HR.I.1.ai HM.I.2.2 hz hk,mI]; have:=HN.I; have h7:=tI.I.2.2.1; have h8:y.todS.max=y.max:=rfl; push_cast; omega
    .exact (Kg.1 ht).elim (fun ht=>tI.I.1 t0 ht) (fun ht=>by simp only [Kt,Ku,or_false] at ht; rw [ht]; exact IB.I)
   exact ZaW
  obtain ⟨q1,hq1,hq⟩:=CK.I;rw [<- hq1] at S;have HQ:=aA hq;clear hq1 hq CK;have Mb:=bB (n:=n) 0 S.I.fr.own S.I.low HQ.I.2.2.1 HQ.I.2.2.2 Zcz;rw [HQ.I.1,HQ.I.2.1] at Mb;go_wp2_with (refine eT _ S.I.fr.box ?_);refine Mb.mono ?_;clear Mb;rintro e A2 ⟨q9,rfl,hp,ht⟩;replace S:=aA (S.I.call ht);have HP:bN (q9.pure=_):=hp;clear hp ht;go_wp2_with (refine ec _ _ q9.cells S.I.an ?_);refine gZ results92 S.I.an ?_;exact ⟨q9,rfl,HP.I.trans HE.I.symm,S.I.done _⟩
end Go.Proofs.YtfncpmaefninjaaGreatDoor

namespace Go.Proofs.YtfncpmaefninjaaGreatDoor
open Go.Maps
attribute [local go_sem ↓] Kc Kd
theorem yY (N:Int) (l k:List ByteArray) (p:aE):cV N l (cV N k p)=cV N l p:=by
 unfold cV jP;simp only [Lv]
 congr 1
 refine Lw fun z _=> ?_
 simp only [Ls];by_cases h:z.id=N <;> simp [h]
theorem Ig {W:w_} {bj Y5 gp:Nat} {q:af} (h:ap W bj q) (iE:q.am=o_ ⟨Y5,0,n_⟩) (l9:q.aN=o_ ⟨gp,0,n_⟩):Y5≠gp:=by
 have h1:=h.nodup;unfold af.Mc at h1;obtain ⟨-,-,h3⟩:=Kf.1 h1;exact fun e=>h3 gp (by rw [l9]; simp [blk]) Y5 (by simp only [Kg]; exact .inr (.inr (.inr (.inr (.inl (by rw [iE]; simp [blk])))))) e.symm
theorem C0 (q:af) (n bj:Nat) (x:ao) (bC:Int) (o:dN) (w:w_) (h:ap w bj q) (hb:bj<=w.heap.size) (hr:aQ q.pure) (hx:q.L8[n]? =o_ x) (hs:x.Md=1) (hn:q.next<=999999990) (eu:0<=bC/\bC<=1000000000) (ho:kc o=true) (hk:o.1=9):
  k_ J3 90 #[a_ q.cells,i_ j_ n,a_ (j9 o),i_ j_ bC] w (jH w bj q (ka o bC x.id q.pure)):=by
 obtain ⟨-,f1,f2,f3,f4⟩:=dv ho;have hM:=bz.1 f2;obtain ⟨k,N,M,s⟩:=o;simp only at hk hM f1 f3 f4;subst hk;have HR:=aA (SD hr hx hs hn eu hM);have HF:=aA (dW hr);clear f2 hr hx hs hn eu hM ho;have S:=aA (Xf.start (o:=(9,N,M,s)) h hb);clear h hb
 go_enter func90,ntmps90
 go_upto_region 1 with fail;generalize ((w.alloc (c_ q.cells 31)).alloc (c_ (j9 (9,N,M,s)) 45)).alloc (c_ ar 31)=A at *;obtain ⟨-,o1,-,-⟩:=S.I.op.cells;simp only at o1;have hpf:=ef (num:=fun x:au=>x.id) N q.ae 0;have Mb:=lr q N A Zcx S.I.fr.own.at;generalize place (q.ae.map (fun x=>x.id)) N 0=z at *;go_wp2_with (refine eT _ S.I.fr.box ?_);refine Mb.mono ?_;clear Mb;rintro e A2 ⟨rfl,hb2⟩;replace S:=aA (S.I.reads hb2);clear hb2 o1;have hfm:=lJ (num:=fun x:ci=>x.id) (je:=fun x:au=>x.id) (g:=fun x:au=>x.toci) (fun _=>rfl) (id:=N) q.ae;rcases hpf with ⟨hz,hf⟩ | ⟨m,y,hz,hm,hid,hf⟩
 .subst hz
  rw [hf] at hfm;have HE:bN (ka (9,N,M,s) bC x.id q.pure=bu 3 x.id q.pure):=by show ka (9,N,M,s) bC x.id q.pure=_; unfold ka; rw [show cg (fun x:ci=>x.id) N q.pure.ae=n_ from hfm]
  exact Zcn
 rw [hf] at hfm;rw [Li] at hz;subst hz;have afO:decide ((m:Int) < 0)=false:=decide_eq_false zo;have HM:bN (q.ae[m]? =o_ y/\y.id=N/\cg (fun x:ci=>x.id) N q.pure.ae=o_ y.toci):=⟨hm,hid,hfm⟩
 have hml:=(Lj.1 hm).1;have j0:(0:Int)<=(m:Int):=zo
 have j1:(m:Int) < (q.ae.length:Int):=zo
 clear hm hid hf hfm hml;obtain ⟨Y5,iE,hat⟩:=iA S.I.fr.own.at.2.2.2.2.1 HM.I.1;have m6:=S.I.fr.box.cells.2.2.2.2.2.2.1;rw [iE] at m6;have d0:=hat.1;have d1:=hat.2.1;have d2:=hat.2.2;have HG:bN (q.am=o_ ⟨Y5,0,n_⟩):=iE;clear hat iE;have h5:=(Kp A2.heap.size A2).alloc (Ki _) (c_ #[i_ j_ y.id,i_ j_ y.max,s_ y.ak y.Ma.length y.aq] 96);have afa:bN ((A2.alloc (c_ #[i_ j_ y.id,i_ j_ y.max,s_ y.ak y.Ma.length y.aq] 96)).heap[A2.heap.size]? =o_ (c_ #[i_ j_ y.id,i_ j_ y.max,s_ y.ak y.Ma.length y.aq] 96)/\w.heap.size+3<=A2.heap.size):=⟨Kj _ _,S.I.fr.sz.2.1⟩
 replace S:=aA (S.I.reads h5);clear h5;go_upto_region 5 with fail;generalize A2.alloc (c_ #[i_ j_ y.id,i_ j_ y.max,s_ y.ak y.Ma.length y.aq] 96)=B at *;generalize A2.heap.size=X at *;clear m6 d0 d1 d2 afO;obtain ⟨o0,-,-,-⟩:=S.I.op.cells;simp only at o0;have x2:B.cell? ⟨X,2,n_⟩=o_ (s_ y.ak y.Ma.length y.aq):=by simp [World.cell?,afa.I.1]
 have HF4:=aA (f4 (by decide) (by decide) (by decide));clear f1 f3 f4;cases hit:y.Ma with
 | nil=>
  rw [hit] at x2;have HE:bN (ka (9,N,M,s) bC x.id q.pure=mX 6 (9,N,M,s) bC x.id (ez rM x.id q.pure)):=by show ka (9,N,M,s) bC x.id q.pure=_; unfold ka; rw [show cg (fun x:ci=>x.id) N q.pure.ae=o_ y.toci from HM.I.2.2]; dsimp only; rw [show y.toci.Ma= [] from hit]
  clear afa hit;go_upto_region 15 with fail;clear x2 o0;obtain ⟨gp,l9,-⟩:=cn S.I.fr.own.at.1 HR.I.2.1;have m2:=S.I.fr.box.cells.2.2.1;have k1:(n:Int) < (q.L8.length:Int):=by have:=(Lj.1 HR.I.2.1).1; omega
  have k0:(0:Int)<=(n:Int):=zo
  rw [l9] at m2;obtain ⟨s1,⟨u,c⟩,f⟩:=eY (n:=n) (j:=9) (v:=t_ ⟨#[]⟩) (y:= { x with got:=rM }) S.I.fr.own HR.I.2.1 l9 ⟨rfl,rfl,rfl⟩ (by decide) rfl;replace S:=aA (S.I.call s1);clear s1 l9;go_upto_region 16 with fail;generalize B.setCell ⟨gp,n * 12+9,n_⟩ (t_ ⟨#[]⟩)=C at *;clear m2 c f u k0 k1;obtain ⟨q1,hq1,hq⟩:=kg HR.I.1 HR.I.2.1 jX;have HB:bN (q1.next=q.next):=by rw [hq1]; exact rfl
  rw [<- hq1] at S;have HQ:=aA hq;clear hq1 hq;have Mb:=oR q1 n bj { x with got:=rM } 6 bC (9,N,M,s) C S.I.fr.own S.I.low HQ.I.2.2.1 HQ.I.2.2.2 ZcD (by have:=HR.I.2.2.2.1; rw [HB.I]; omega) HR.I.2.2.2.2.1 HR.I.2.2.2.2.2;rw [HQ.I.1,HQ.I.2.1] at Mb;go_wp2_with (first | (refine eT _ S.I.fr.box ?_) | (refine LS rfl 45 (.tmp 6) rfl (w.heap.size+1) (by rfl) 45 (j9 (9,N,M,s)) (0,0) _ S.I.op underlying45 rfl Zcq ?_));exact Zb1
 | cons t0 r=>
  have tI:bN (y.Ma=t0 :: r/\bw t0=true/\(∀ u∈r,bw u=true)/\y.Ma.length<=5/\(y.Ma.length:Int)<=y.max):=by
   have h5:=(ji (o:=(9,N,M,s)) HR.I.1 HM.I.2.2).2.2; have h6:=uJ HR.I.1 (Lr.2 ⟨y,KA HM.I.1,rfl⟩);have h7:y.toci.Ma=y.Ma:=rfl;have h8:y.toci.max=y.max:=rfl;rw [h7] at h5;exact ⟨hit,h5.2 t0 (by rw [hit]; simp),fun u hu=>h5.2 u (by rw [hit]; simp [hu]),zo,by rw [<- h8]; exact h5.1⟩
  have il:(0:Int) < (y.Ma.length:Int):=by rw [hit]; simp
  have il3:0 < y.Ma.length:=by rw [hit]; simp
  have il4: ¬ y.Ma.length=0:=zo
  have il2:((y.Ma.length:Int) == 0)=false:=by rw [hit]; simp; omega
  clear hit;go_upto_region 17 with fail;clear x2 o0 il2;replace afa:bN (B.drew.heap[X]? =o_ (c_ #[i_ j_ y.id,i_ j_ y.max,s_ y.ak y.Ma.length y.aq] 96)/\w.heap.size+3<=X):=afa.I;replace S:=aA (S.I.reads (Kp _ _).drew);refine eD (fun w1=>w1=B.drew) 9 Zcq rfl ?_;generalize B.drew=C at *;have HG1:=aA (kg HR.I.1 HR.I.2.1 tI.I.2.1);have x2:C.cell? ⟨X,2,n_⟩=o_ (s_ y.ak y.Ma.length y.aq):=by simp [World.cell?,afa.I.1]
  obtain ⟨abo,hgi,x3⟩:=zl (lj S.I.fr.own.at.2.2.2.2.1 HM.I.1) (show y.Ma[0]? =o_ t0 by rw [tI.I.1]; rfl);rw [hgi] at x2;obtain ⟨gp,l9,-⟩:=cn S.I.fr.own.at.1 HR.I.2.1;have m2:=S.I.fr.box.cells.2.2.1;have k1:(n:Int) < (q.L8.length:Int):=by have:=(Lj.1 HR.I.2.1).1; omega
  have k0:(0:Int)<=(n:Int):=zo
  rw [l9] at m2;have ud:bN (q.aN=o_ ⟨gp,0,n_⟩):=l9;obtain ⟨s1,⟨u,c⟩,f⟩:=eY (n:=n) (j:=9) (v:=t_ t0) (y:= { x with got:=t0 }) S.I.fr.own HR.I.2.1 l9 ⟨rfl,rfl,rfl⟩ (by decide) rfl;have lW:(C.setCell ⟨gp,n * 12+9,n_⟩ (t_ t0)).heap[X]? =o_ (c_ #[i_ j_ y.id,i_ j_ y.max,s_ y.ak y.Ma.length y.aq] 96):=(aH (fun e=>by have h5:=(S.I.fr.lo gp (gD (.inl (by rw [l9]; simp [blk])))).2; have:=afa.I.2; omega)).trans afa.I.1;replace S:=aA (S.I.call s1);replace afa:=aA (And.intro lW afa.I.2);clear s1 l9 hgi lW
  iterate 9 (refine ly 10 (v:= ?_) (o_ _) rfl rfl Zcq (fun _ _ _ h=>h) (bV Zcq ?_) ?_; rotate_left; (intro w0 hS0; subst hS0; go_simp; try with_reducible rfl); simp only [pt,sb,s0,s1])
  refine fL rfl Zcq Zcq Zcq ?_;intro w1 cm;rw [cm];clear cm w1
  go_simp
  generalize C.setCell ⟨gp,n * 12+9,n_⟩ (t_ t0)=D at *;clear m2 x2 x3 c f u k0 k1 il il3 il4;obtain ⟨q1,hq1,hq⟩:=HG1.I;have HB:bN (q1.ae=q.ae/\q1.next=q.next/\q1.am=q.am/\q1.pure.ae=q.pure.ae/\q1.aN=q.aN):=by rw [hq1]; exact ⟨rfl,rfl,rfl,rfl,rfl⟩
  rw [<- hq1] at S;have HQ:=aA hq;clear hq1 hq HG1;go_upto_region 18 with fail;replace S:=aA (S.I.reads (Kp _ _).drew);replace afa:bN (D.drew.heap[X]? =o_ (c_ #[i_ j_ y.id,i_ j_ y.max,s_ y.ak y.Ma.length y.aq] 96)/\w.heap.size+3<=X):=afa.I;refine Kr (S:=fun w'=>av w' w.heap.size q/\w'.heap[X]? =o_ (c_ #[i_ j_ y.id,i_ j_ y.max,s_ y.ak y.Ma.length y.aq] 96)) Zcq ⟨S.I.fr.box,afa.I.1⟩ (fun bE=> ?_);generalize D.drew=V2 at *;have il:(1:Int)<=(y.Ma.length:Int):=by rw [tI.I.1]; simp; omega
  have af5:(y.Ma.length:Int)<=(y.aq:Int):=by have h5:y.Ma.length<=y.aq:=nV (S.I.fr.own.eE y (by rw [HB.I.1]; exact KA HM.I.1)); omega
  have ic2:(1:Int)<=(y.aq:Int):=zo
  obtain ⟨afs,hTA⟩: ∃ afs:Option d_,(if y.aq=1 then y.ak else Option.map (fun x:d_=>(⟨x.block,x.off+1,n_⟩:d_)) y.ak)=afs:=⟨_,rfl⟩
  refine agi 0 bE ?_;refine agi 1 bE ?_;refine agi 2 bE ?_;refine agi 4 bE ?_;refine agi 5 bE ?_;refine agi 6 bE ?_;clear bE il af5 ic2;have GO:bN (q1.ae[m]? =o_ y):=by rw [HB.I.1]; exact HM.I.1
  have lW:=(J2.1 afa.I.1).1;have hS: ∀ W,B_ V2.heap.size V2 W->av W w.heap.size q/\W.heap[X]? =o_ (c_ #[i_ j_ y.id,i_ j_ y.max,s_ y.ak y.Ma.length y.aq] 96):=fun W hb=>⟨S.I.fr.box.below hb,(hb.block _ lW).trans afa.I.1⟩
  have b1:B_ V2.heap.size V2 (V2.alloc (c_ #[] 9)):=(Kp _ _).alloc (Ki _) _;refine L7 3 (fun K hK=> ?_);go_wp2_with fail;refine hK.out _ _ (hS _ b1) (fun bE=> ?_);clear hK K bE
  try simp only [pt,sb,s0,s1]
  have hlr:y.Ma.length - 1=r.length:=by rw [tI.I.1]; rfl
  have pI:y.Ma.drop 1=r:=by rw [tI.I.1]; rfl
  have hsrc:=vg (c:=y.aq) (nV (S.I.fr.own.eE y (KA GO.I))) (lj (S.I.fr.own.below b1).at.2.2.2.2.1 GO.I);rw [hTA] at hsrc;obtain ⟨a7,c7,w7,hap,mP,xI,-⟩:=ou (V2.alloc (c_ #[] 9)) V2.heap.size (o_ ⟨V2.heap.size,0,n_⟩) 0 [] (i6 (Kj _ _) (Ki _)) afs (y.Ma.drop 1) (y.aq - 1) hsrc (by rw [Ql]; have:=tI.I.2.2.2.1; show 0+_<=_; omega) b1.size;clear hsrc hTA;have gh:B_ V2.heap.size V2 w7:=b1.grown xI b1.size fun c e=>by cases e; exact Ki _
  rw [Ql,hlr] at hap mP;simp only [K4,Li,Ll,pI] at hap mP;rw [<- hlr] at hap;obtain ⟨s1,⟨u,c⟩,f⟩:=mB (n:=m) S.I.fr.own (aI.dI gh) GO.I (HB.I.2.2.1.trans HG.I) (cq mP S.I.low) (fun g hg=> .inr (cf mP hg).1);rw [<- hlr] at s1;have HLR:bN (y.Ma.length - 1=r.length):=hlr;clear hlr;refine L7 7 (fun K hK=> ?_);refine cM _ _ _ rfl _ _ _ w7 rfl rfl hap ?_;refine hK.out _ _ ⟨S.I.fr.box.below gh,(gh.block _ lW).trans afa.I.1⟩ (fun bE=> ?_);clear hK K bE
  try simp only [pt,sb]
  have wj:av w7 w.heap.size q/\w7.heap[X]? =o_ (c_ #[i_ j_ y.id,i_ j_ y.max,s_ y.ak y.Ma.length y.aq] 96):=⟨S.I.fr.box.below gh,(gh.block _ lW).trans afa.I.1⟩
  replace S:=aA (S.I.call s1);clear hap mP xI gh s1 b1 hS;refine agi 8 wj ?_;refine agi 9 wj ?_;have uQ:(w7.setCell ⟨Y5,m * 3+2,n_⟩ (s_ a7 (y.Ma.length - 1) c7)).heap[X]? =o_ (c_ #[i_ j_ y.id,i_ j_ y.max,s_ y.ak y.Ma.length y.aq] 96):=(aH (fun e=>by have h5:=(S.I.fr.lo Y5 (gD (.inr <| .inr <| .inr <| .inr <| .inl <| by rw [HG.I]; simp [blk]))).2; have:=afa.I.2; omega)).trans wj.2;refine L7 10 (fun K hK=> ?_);go_wp2_with fail;refine hK.out _ _ ⟨S.I.fr.box,uQ⟩ (fun bE=> ?_);clear hK K bE;refine K3 Zcq ?_ _;clear c f u wj lW uQ;go_upto_region 19 with fail;generalize w7.setCell ⟨Y5,m * 3+2,n_⟩ (s_ a7 (y.Ma.length - 1) c7)=E at *;obtain ⟨y2,hy2⟩: ∃ y2:au,y2= { y with Ma:=r,ak:=a7,aq:=c7 } :=⟨_,rfl⟩
  obtain ⟨q2,pv⟩: ∃ q2:af,q2= { q1 with ae:=q1.ae.set m y2 } :=⟨_,rfl⟩
  have ky:bN (q2.pure=cV N r (ez t0 x.id q.pure)/\q2.cells=q.cells/\aQ q2.pure/\q2.L8[n]? =o_ { x with got:=t0 } /\q2.ae[m]? =o_ y2/\q2.am=o_ ⟨Y5,0,n_⟩/\q2.next=q.next/\q2.aN=o_ ⟨gp,0,n_⟩):=by
   have h5:q2.pure=cV N r q1.pure:=by rw [pv,hy2]; exact oN HQ.I.2.2.1.ae GO.I HM.I.2.1
   have h6:aQ (cV N r q1.pure):=gN HQ.I.2.2.1 (fun z hz hk=>by rw [HB.I.2.2.2.1] at hz; rw [only HR.I.1.ae HM.I.2.2 hz hk]; have h7:=tI.I.2.2.2.2; rw [tI.I.1] at h7; have h8:y.toci.max=y.max:=rfl; simp only [Lg] at h7; omega) tI.I.2.2.1;exact ⟨by rw [h5,HQ.I.1],by rw [pv]; exact Eq.trans (by unfold af.cells; simp) HQ.I.2.1,by rw [h5]; exact h6,by rw [pv]; exact HQ.I.2.2.2,by rw [pv]; show (q1.ae.set m y2)[m]? =_; rw [LU (Lj.1 GO.I).1],by rw [pv]; exact HB.I.2.2.1.trans HG.I,by rw [pv]; exact HB.I.2.1,by rw [pv]; exact HB.I.2.2.2.2.trans ud.I⟩
  rw [<- hy2,<- pv] at S;have HY2:bN (y2.Ma=r/\y2.id=N/\y2.max=y.max):=by rw [hy2]; exact ⟨rfl,HM.I.2.1,rfl⟩
  clear pv hy2 HLR pI afa;have HU:bN (ka (9,N,M,s) bC x.id q.pure=match jl 5 N q2.pure.L8 with | none=>bu 0 x.id (cV N r (ez t0 x.id q.pure)) | some v=>bu 0 x.id (gF (fun y=>y) (cV N (r ++ [v.held]) (ez t0 x.id q.pure)) v)):=by show ka (9,N,M,s) bC x.id q.pure=_; unfold ka; rw [show cg (fun x:ci=>x.id) N q.pure.ae=o_ y.toci from HM.I.2.2]; dsimp only; rw [show y.toci.Ma=t0 :: r from tI.I.1]; dsimp only; rw [show q2.pure.L8=(ez t0 x.id q.pure).L8 by rw [ky.I.1]; rfl]; split <;> rename_i h5 <;> rw [h5]
  have Mb:=ij q2 5 N E (by have:=(dW ky.I.2.2.1).1; omega) S.I.fr.own.at;rw [ky.I.2.1] at Mb;obtain ⟨-,o1,-,-⟩:=S.I.op.cells;simp only at o1;go_wp2_with (refine eT _ S.I.fr.box ?_);refine Mb.mono ?_;clear Mb o1;rintro e afP ⟨⟨z,rfl,gV⟩,hb2⟩;replace S:=aA (S.I.reads hb2);clear hb2;rcases pp gV with ⟨hz,hw⟩ | ⟨i,v,hz,hi,hw⟩
  .have HE:bN (ka (9,N,M,s) bC x.id q.pure=bu 0 x.id (cV N r (ez t0 x.id q.pure))):=by show ka (9,N,M,s) bC x.id q.pure=_; rw [HU.I,hw]
   have afO:decide (z>=0)=false:=decide_eq_false zo;clear gV hz hw HU;have Mb:=bB (n:=n) 0 S.I.fr.own S.I.low ky.I.2.2.1 ky.I.2.2.2.1 ZcD;rw [ky.I.1,ky.I.2.1] at Mb;go_wp2_with (refine eT _ S.I.fr.box ?_);refine Mb.mono ?_;clear Mb;rintro e A2 ⟨q3,rfl,hp,ht⟩;replace S:=aA (S.I.call ht);have HP:bN (q3.pure=_):=hp;clear hp ht;go_wp2_with (refine ec _ _ q3.cells S.I.an ?_);refine gZ results90 S.I.an ?_;exact ⟨q3,rfl,HP.I.trans HE.I.symm,S.I.done _⟩
  have HE:bN (ka (9,N,M,s) bC x.id q.pure=bu 0 x.id (gF (fun y=>y) (cV N (r ++ [v.held]) (ez t0 x.id q.pure)) v.toaD)):=by show ka (9,N,M,s) bC x.id q.pure=_; rw [HU.I,hw]
  have HW:bN (jl 5 N q2.pure.L8=o_ v.toaD/\q2.L8[i]? =o_ v/\v.Md=5):=⟨hw,hi,(ft hw).2.1⟩
  subst hz;have afO:decide ((i:Int)>=0)=true:=decide_eq_true zo;clear gV hw hi HU;go_upto_region 21 with fail;clear afO;replace S:=aA (S.I.reads (Kp _ _).drew);obtain ⟨g5,A7,hat⟩:=iA S.I.fr.own.at.2.2.2.2.1 ky.I.2.2.2.2.1;rw [ky.I.2.2.2.2.2.1] at A7;cases A7;obtain ⟨g6,hg6,hap⟩:=cn S.I.fr.own.at.1 HW.I.2.1;rw [ky.I.2.2.2.2.2.2.2] at hg6;cases hg6;have hS0:av afP.drew w.heap.size q/\afP.drew.cell? ⟨gp,i * 12+8,n_⟩=o_ (t_ v.held):=⟨S.I.fr.box,hap.2.2.2.2.2.2.2.2.1⟩
  have c8:afP.drew.cell? ⟨Y5,m * 3+2,n_⟩=o_ (s_ y2.ak y2.Ma.length y2.aq):=hat.2.2;clear hat hap;refine Kr (S:=fun w'=>av w' w.heap.size q/\w'.cell? ⟨gp,i * 12+8,n_⟩=o_ (t_ v.held)) Zcq hS0 (fun bE=> ?_);generalize afP.drew=V3 at *;have k1:(i:Int) < (q.L8.length:Int):=by have h5:=(Lj.1 HW.I.2.1).1; have h6:=congrArg (fun p:aE=>p.L8.length) ky.I.1; simp only [af.pure,KG,cV,ez,ce] at h6; omega
  have k0:(0:Int)<=(i:Int):=zo
  refine agi 0 bE ?_;refine agi 1 bE ?_;refine agi 2 bE ?_;refine agi 3 bE ?_;refine agi 4 bE ?_;refine agi 5 bE ?_;refine agi 6 bE ?_;refine agi 7 bE ?_;refine agi 9 bE ?_;refine agi 10 bE ?_;refine agi 11 bE ?_;refine agi 12 bE ?_;refine agi 13 bE ?_;refine agi 14 bE ?_;clear bE k0 k1;have b1:B_ V3.heap.size V3 (V3.alloc (c_ #[t_ v.held] 9)):=(Kp _ _).alloc (Ki _) _;have iE:=cf S.I.fr.own.ae (g:=Y5) (by rw [ky.I.2.2.2.2.2.1]; simp [blk]);have l9:=cf S.I.fr.own.L8 (g:=gp) (by rw [ky.I.2.2.2.2.2.2.2]; simp [blk]);have cm:av (V3.alloc (c_ #[t_ v.held] 9)) w.heap.size q/\(V3.alloc (c_ #[t_ v.held] 9)).cell? ⟨gp,i * 12+8,n_⟩=o_ (t_ v.held):=⟨S.I.fr.box.below b1,(b1.cell (p:=⟨gp,i * 12+8,n_⟩) l9.2).trans hS0.2⟩
  have c9:World.cell? (V3.alloc (c_ #[t_ v.held] 9)) ⟨Y5,m * 3+2,n_⟩=o_ (s_ y2.ak y2.Ma.length y2.aq):=(b1.cell (p:=⟨Y5,m * 3+2,n_⟩) iE.2).trans c8;refine KW (rs:= [8,15]) Zcq zw ?_;refine KX rfl (fun K hK=> ?_) (KX rfl (fun K hK=> ?_) KY)
  focus
   simp only [KZ,K0,K1];rw [if_pos (by rfl)];go_wp2_with fail;refine hK.out _ _ hS0 (fun bE=> ?_);clear hK K bE
   try simp only [pt,sb,s0,s1]
   refine L7 15 (fun K hK=> ?_);go_wp2_with fail;refine hK.out _ _ cm (fun bE=> ?_);clear hK K bE
   try simp only [pt,sb,s0,s1]
  rotate_left
  focus
   simp only [KZ,K0,K1];rw [if_pos (by rfl)];go_wp2_with fail;refine hK.out _ _ cm (fun bE=> ?_);clear hK K bE
   try simp only [pt,sb,s0,s1]
   refine L7 8 (fun K hK=> ?_);go_wp2_with fail;refine hK.out _ _ cm (fun bE=> ?_);clear hK K bE
   try simp only [pt,sb,s0,s1]
  all_goals
   clear c8 c9;obtain ⟨a8,c8,w8,hap,ho8,hg8,yD⟩:=ou (V3.alloc (c_ #[t_ v.held] 9)) bj y2.ak y2.aq y2.Ma ((S.I.fr.own.below b1).eE y2 (KA ky.I.2.2.2.2.1)) _ [v.held] 1 (jO (Kj _ _)) (by have h5:=tI.I.2.2.2.1; rw [tI.I.1] at h5; rw [HY2.I.1]; simp only [Lg,K4] at h5 ⊢; omega) (by have:=b1.size; have:=S.I.low; omega);have hkb:aI V3 w8 (blk y2.ak):=aI.grown b1 hg8;have hl8:(y2.Ma ++ [v.held]).length=y2.Ma.length+1:=by rw [Lf]; rfl
   simp only [Lg,K4,Li] at hap ho8;rw [<- hl8] at hap ho8;obtain ⟨s1,⟨u,c⟩,f⟩:=mB (n:=m) S.I.fr.own hkb ky.I.2.2.2.2.1 ky.I.2.2.2.2.2.1 ho8 (fun g hg=>(yD g hg).imp_right fun e=>by rw [e]; exact b1.size);rw [hl8] at hap s1;have HL8:bN ((y2.Ma ++ [v.held]).length=y2.Ma.length+1):=hl8;clear hl8;have iH: ∀ g,g∈blk y2.ak->g∈q2.Mc/\g≠Y5/\g≠gp/\Y5≠gp:=fun g hg=>IY S.I.fr.own ky.I.2.2.2.2.1 ky.I.2.2.2.2.2.1 ky.I.2.2.2.2.2.2.2 hg
   have hne:Y5≠gp:=Ig S.I.fr.own ky.I.2.2.2.2.2.1 ky.I.2.2.2.2.2.2.2;have hS8:av w8 w.heap.size q/\w8.cell? ⟨gp,i * 12+8,n_⟩=o_ (t_ v.held):=⟨(hkb.same _ (av.lt S.I.fr.box) fun hm=>S.I.fr.yO (Ki _) zo (iH _ hm).1).trans S.I.fr.box,(J1 (a:=⟨gp,i * 12+8,n_⟩) (hkb.same gp l9.2 fun hm=>(iH _ hm).2.2.1 rfl)).trans hS0.2⟩
   refine L7 16 (fun K hK=> ?_);refine cM _ _ _ rfl _ _ _ w8 rfl rfl hap ?_;refine hK.out _ _ hS8 (fun bE=> ?_);clear hK K bE
   try simp only [pt,sb]
   replace S:=aA (S.I.call s1);clear hap ho8 hg8 yD hkb s1 b1 hS0 cm iH iE l9;refine agi 17 hS8 ?_;refine agi 18 hS8 ?_;have FW:(w8.setCell ⟨Y5,m * 3+2,n_⟩ (s_ a8 (y2.Ma.length+1) c8)).cell? ⟨gp,i * 12+8,n_⟩=o_ (t_ v.held):=(J1 (a:=⟨gp,i * 12+8,n_⟩) (aH hne.symm)).trans hS8.2;refine L7 19 (fun K hK=> ?_);go_wp2_with fail;refine hK.out _ _ ⟨S.I.fr.box,FW⟩ (fun bE=> ?_);clear hK K bE;refine K3 Zcq ?_ _;clear c f u hS8 FW hne;go_upto_region 22 with fail;generalize w8.setCell ⟨Y5,m * 3+2,n_⟩ (s_ a8 (y2.Ma.length+1) c8)=G at *;obtain ⟨q3,IJ⟩: ∃ q3:af,q3= { q2 with ae:=q2.ae.set m { y2 with Ma:=y2.Ma ++ [v.held],ak:=a8,aq:=c8 } } :=⟨_,rfl⟩
   have Ck:bN (q3.pure=cV N (r ++ [v.held]) (ez t0 x.id q.pure)/\q3.cells=q.cells/\aQ q3.pure/\q3.L8[n]? =o_ { x with got:=t0 } /\q3.L8[i]? =o_ v/\q3.next=q.next):=by
    have h5:q3.pure=cV N (r ++ [v.held]) q2.pure:=by rw [IJ,<- HY2.I.1]; exact oN ky.I.2.2.1.ae ky.I.2.2.2.2.1 HY2.I.2.1
    have h6:cV N (r ++ [v.held]) q2.pure=cV N (r ++ [v.held]) (ez t0 x.id q.pure):=by rw [ky.I.1]; exact yY _ _ _ _
    have h7:aQ (cV N (r ++ [v.held]) (ez t0 x.id q.pure)):=by
     rw [<- HQ.I.1];refine gN HQ.I.2.2.1 (fun z hz hk=> ?_) (fun u hu=> ?_)
     .rw [HB.I.2.2.2.1] at hz; rw [only HR.I.1.ae HM.I.2.2 hz hk]; have h7:=tI.I.2.2.2.2; rw [tI.I.1] at h7; have h8:y.toci.max=y.max:=rfl; simp only [Lg,Lf,K4] at h7 ⊢; omega
     .exact (Kg.1 hu).elim (fun hu=>tI.I.2.2.1 u hu) (fun hu=>by simp only [Kt,Ku,or_false] at hu; rw [hu]; have h8:=iF (ky.I.2.2.1.proc (iu HW.I.2.1)).2.1; unfold jY at h8; simp only [J7] at h8; exact h8.1.1.2)
    exact ⟨by rw [h5,h6],by rw [IJ]; exact Eq.trans (by unfold af.cells; simp) ky.I.2.1,by rw [h5,h6]; exact h7,by rw [IJ]; exact ky.I.2.2.2.1,by rw [IJ]; exact HW.I.2.1,by rw [IJ]; exact ky.I.2.2.2.2.2.2.1⟩
   rw [<- IJ] at S;clear IJ HL8;have Mb:=lP (n:=i) S.I.fr.own S.I.low Ck.I.2.2.1 Ck.I.2.2.2.2.1 ZcI (by rw [Ck.I.2.2.2.2.2]; have:=HR.I.2.2.2.1; omega);rw [Ck.I.1,Ck.I.2.1] at Mb;go_wp2_with (refine eT _ S.I.fr.box ?_);refine Mb.mono ?_;clear Mb;rintro e G2 ⟨q4,rfl,hp,ht⟩;replace S:=aA (S.I.call ht);rw [<- Ck.I.1] at hp;obtain ⟨hr4,x4,hx4,sw⟩:=qp Ck.I.2.2.1 Ck.I.2.2.2.1 HR.I.2.2.1 Ck.I.2.2.2.2.1 ZcI ZcI (.inl rfl) (by rw [Ck.I.2.2.2.2.2]; have:=HR.I.2.2.2.1; omega) hp;have S2:=aA S.I.put;go_upto_region 23 with (refine ec _ _ q4.cells S.I.fr.box ?_);generalize G2.setRow w.heap.size q4.cells=G3 at *;clear S;have S:=S2;clear S2;have Mb:=bB (n:=n) 0 S.I.fr.own S.I.low hr4 hx4 (by rw [show x4.Md=x.Md by have h5:=congrArg aD.Md sw; exact h5,HR.I.2.2.1]; decide);rw [show x4.id=x.id by have h5:=congrArg aD.id sw; exact h5,hp,Ck.I.1,<- HE.I] at Mb;clear hp ht hr4 hx4 sw;go_wp2_with (refine eT _ S.I.fr.box ?_);refine Mb.mono ?_;clear Mb;rintro e G32 ⟨q5,rfl,hp,ht⟩;replace S:=aA (S.I.call ht);have HP:bN (q5.pure=_):=hp;clear hp ht;go_wp2_with (refine ec _ _ q5.cells S.I.an ?_);refine gZ results90 S.I.an ?_;exact ⟨q5,rfl,HP.I,S.I.done _⟩
end Go.Proofs.YtfncpmaefninjaaGreatDoor

namespace Go.Proofs.YtfncpmaefninjaaGreatDoor
open Go.Maps
attribute [local go_sem ↓] Kc Kd
theorem BS (q:af) (n bj:Nat) (x:ao) (o:dN) (w:w_) (h:ap w bj q) (hb:bj<=w.heap.size) (hr:aQ q.pure) (hx:q.L8[n]? =o_ x) (hs:x.Md=1) (hn:q.next<=999999990) (ho:kc o=true) (hk:o.1=14):
  k_ J3 92 #[a_ q.cells,i_ j_ n,a_ (j9 o)] w (jH w bj q (gC o x.id q.pure)):=by
 obtain ⟨-,f1,f2,f3,f4⟩:=dv ho;have hM:=bz.1 f2;obtain ⟨k,N,M,s⟩:=o;simp only at hk hM f1 f3 f4;subst hk;have HR:bN (aQ q.pure/\q.L8[n]? =o_ x/\x.Md=1/\q.next<=999999990/\(-1<=M/\M<=1000)):=⟨hr,hx,hs,hn,hM⟩
 have HF:=aA (dW hr);clear f2 hr hx hs hn hM ho;have S:=aA (Xf.start (o:=(14,N,M,s)) h hb);clear h hb
 go_enter func92,ntmps92
 go_upto_region 1 with fail;generalize ((w.alloc (c_ q.cells 31)).alloc (c_ (j9 (14,N,M,s)) 45)).alloc (c_ ar 31)=A at *;obtain ⟨-,o1,-,-⟩:=S.I.op.cells;simp only at o1;have hpf:=ef (num:=fun x:aM=>x.id) N q.ai 0;have Mb:=uV q N A Zcx S.I.fr.own.at;generalize place (q.ai.map (fun x=>x.id)) N 0=z at *;go_wp2_with (refine eT _ S.I.fr.box ?_);refine Mb.mono ?_;clear Mb;rintro e A2 ⟨rfl,hb2⟩;replace S:=aA (S.I.reads hb2);clear hb2 o1;have hfm:=lJ (num:=fun x:dS=>x.id) (je:=fun x:aM=>x.id) (g:=fun x:aM=>x.todS) (fun _=>rfl) (id:=N) q.ai;rcases hpf with ⟨hz,hf⟩ | ⟨m,y,hz,hm,hid,hf⟩
 .subst hz
  rw [hf] at hfm;have HE:bN (gC (14,N,M,s) x.id q.pure=bu 3 x.id q.pure):=by show gC (14,N,M,s) x.id q.pure=_; unfold gC; rw [show cg (fun x:dS=>x.id) N q.pure.ai=n_ from hfm]
  exact Zb3
 rw [hf] at hfm;rw [Li] at hz;subst hz;have afO:decide ((m:Int) < 0)=false:=decide_eq_false zo;have HM:bN (q.ai[m]? =o_ y/\y.id=N/\cg (fun x:dS=>x.id) N q.pure.ai=o_ y.todS):=⟨hm,hid,hfm⟩
 have hml:=(Lj.1 hm).1;have j0:(0:Int)<=(m:Int):=zo
 have j1:(m:Int) < (q.ai.length:Int):=zo
 clear hm hid hf hfm hml;go_upto_region 2 with fail;replace S:=aA (S.I.reads (Kp _ _).drew);refine aT (fun w1=>w1=A2.drew) Zcq rfl ?_;generalize A2.drew=B at *;obtain ⟨Y5,iE,hat⟩:=lm S.I.fr.own.at.2.2.2.2.2 HM.I.1;have m7:=S.I.fr.box.cells.2.2.2.2.2.2.2;rw [iE] at m7;have d0:=hat.1;have d1:=hat.2.1;have d2:=hat.2.2.1;have d3:=hat.2.2.2.1;have d4:=hat.2.2.2.2;have HG:bN (q.aK=o_ ⟨Y5,0,n_⟩):=iE;clear hat iE;obtain ⟨o0,-,-,-⟩:=S.I.op.cells;simp only at o0
 iterate 14 (refine agj ?_)
 refine bk Zcq ?_ _;intro w1 cm;rw [cm];clear cm w1 afO;clear f1 f3 f4;have tI:bN ((∀ u∈y.Ma,bw u=true)/\y.Ma.length<=5/\(y.Ma.length:Int)<=y.max/\1<=y.max):=by
  have h5:=nB (o:=(14,N,M,s)) HR.I.1 HM.I.2.2; have h6:=An HR.I.1 (Lr.2 ⟨y,KA HM.I.1,rfl⟩);exact Zba
 cases hu:y.I;rotate_left
 .rw [hu] at d1
  have HE:bN (gC (14,N,M,s) x.id q.pure=bu 3 x.id q.pure):=by show gC (14,N,M,s) x.id q.pure=_; unfold gC; rw [show cg (fun x:dS=>x.id) N q.pure.ai=o_ y.todS from HM.I.2.2]; exact if_pos hu
  exact Zb7
 have HO:bN (y.I=false):=hu;clear hu;rw [HO.I] at d1;have h5:=(Kp B.heap.size B).alloc (Ki _) (c_ #[i_ j_ y.id,b_ false,b_ y.Mf,i_ j_ y.max,s_ y.ak y.Ma.length y.aq] 115);have afa:bN ((B.alloc (c_ #[i_ j_ y.id,b_ false,b_ y.Mf,i_ j_ y.max,s_ y.ak y.Ma.length y.aq] 115)).heap[B.heap.size]? =o_ (c_ #[i_ j_ y.id,b_ false,b_ y.Mf,i_ j_ y.max,s_ y.ak y.Ma.length y.aq] 115)/\w.heap.size+3<=B.heap.size):=⟨Kj _ _,S.I.fr.sz.2.1⟩
 replace S:=aA (S.I.reads h5);clear h5;go_upto_region 5 with fail;generalize B.alloc (c_ #[i_ j_ y.id,b_ false,b_ y.Mf,i_ j_ y.max,s_ y.ak y.Ma.length y.aq] 115)=C at *;generalize B.heap.size=X at *;clear m7 d0 d1 d2 d3 d4 o0;obtain ⟨o0,-,-,-⟩:=S.I.op.cells;simp only at o0;go_upto_region 13 with fail;clear o0;obtain ⟨gp,l9,-⟩:=cn S.I.fr.own.at.1 HR.I.2.1;have m2:=S.I.fr.box.cells.2.2.1;have k1:(n:Int) < (q.L8.length:Int):=by have:=(Lj.1 HR.I.2.1).1; omega
 have k0:(0:Int)<=(n:Int):=zo
 rw [l9] at m2;have ud:bN (q.aN=o_ ⟨gp,0,n_⟩):=l9;clear l9;obtain ⟨s1,⟨u,c⟩,f⟩:=eY (n:=n) (j:=9) (v:=t_ ⟨#[]⟩) (y:= { x with got:=rM }) S.I.fr.own HR.I.2.1 ud.I ⟨rfl,rfl,rfl⟩ (by decide) rfl;have lW:(C.setCell ⟨gp,n * 12+9,n_⟩ (t_ ⟨#[]⟩)).heap[X]? =o_ (c_ #[i_ j_ y.id,b_ false,b_ y.Mf,i_ j_ y.max,s_ y.ak y.Ma.length y.aq] 115):=(aH (fun e=>by have h5:=(S.I.fr.lo gp (gD (.inl (by rw [ud.I]; simp [blk])))).2; have:=afa.I.2; omega)).trans afa.I.1;replace S:=aA (S.I.call s1);replace afa:=aA (And.intro lW afa.I.2);clear s1 lW;go_upto_region 14 with fail;generalize C.setCell ⟨gp,n * 12+9,n_⟩ (t_ ⟨#[]⟩)=D at *;clear m2 c f u;have x4:D.cell? ⟨X,4,n_⟩=o_ (s_ y.ak y.Ma.length y.aq):=by simp [World.cell?,afa.I.1]
 cases hit:y.Ma with
 | nil=>
  rw [hit] at x4;have HE:bN (gC (14,N,M,s) x.id q.pure=bu 1 x.id (ez rM x.id q.pure)):=by show gC (14,N,M,s) x.id q.pure=_; unfold gC; rw [show cg (fun x:dS=>x.id) N q.pure.ai=o_ y.todS from HM.I.2.2]; dsimp only; rw [if_neg (show ¬ y.I=true by rw [HO.I]; decide),show y.todS.Ma= [] from hit]
  clear afa hit;obtain ⟨q1,hq1,hq⟩:=kg HR.I.1 HR.I.2.1 jX;rw [<- hq1] at S;have HQ:=aA hq;clear hq1 hq;have Mb:=bB (n:=n) 1 S.I.fr.own S.I.low HQ.I.2.2.1 HQ.I.2.2.2 ZcD;rw [HQ.I.1,HQ.I.2.1] at Mb;exact h_
 | cons t0 r=>
  have jA:bN (y.Ma=t0 :: r/\bw t0=true/\ ∀ u∈r,bw u=true):=⟨hit,tI.I.1 t0 (by rw [hit]; simp),fun u hu=>tI.I.1 u (by rw [hit]; simp [hu])⟩
  have il:(0:Int) < (y.Ma.length:Int):=by rw [hit]; simp
  have il3:0 < y.Ma.length:=by rw [hit]; simp
  have il4: ¬ y.Ma.length=0:=zo
  have il2:((y.Ma.length:Int) == 0)=false:=by rw [hit]; simp; omega
  have HU:bN (gC (14,N,M,s) x.id q.pure=bu 0 x.id (if y.Mf then gU N r (ez t0 x.id q.pure) else ez t0 x.id q.pure)):=by show gC (14,N,M,s) x.id q.pure=_; unfold gC; rw [show cg (fun x:dS=>x.id) N q.pure.ai=o_ y.todS from HM.I.2.2]; dsimp only; rw [if_neg (show ¬ y.I=true by rw [HO.I]; decide),show y.todS.Ma=t0 :: r from hit]
  clear hit;go_upto_region 16 with fail;clear x4 il2;replace afa:bN (D.drew.heap[X]? =o_ (c_ #[i_ j_ y.id,b_ false,b_ y.Mf,i_ j_ y.max,s_ y.ak y.Ma.length y.aq] 115)/\w.heap.size+3<=X):=afa.I;replace S:=aA (S.I.reads (Kp _ _).drew);refine eD (fun w1=>w1=D.drew) 9 Zcq rfl ?_;generalize D.drew=E at *;have x4:E.cell? ⟨X,4,n_⟩=o_ (s_ y.ak y.Ma.length y.aq):=by simp [World.cell?,afa.I.1]
  obtain ⟨abo,hgi,x5⟩:=zl (nJ S.I.fr.own.at.2.2.2.2.2 HM.I.1) (show y.Ma[0]? =o_ t0 by rw [jA.I.1]; rfl);rw [hgi] at x4;have m2:=S.I.fr.box.cells.2.2.1;rw [ud.I] at m2;obtain ⟨s1,⟨u,c⟩,f⟩:=eY (n:=n) (j:=9) (v:=t_ t0) (x:= { x with got:=rM }) (y:= { x with got:=t0 }) S.I.fr.own (by show (q.L8.set n _)[n]? =_; rw [LU (Lj.1 HR.I.2.1).1]) ud.I ⟨rfl,rfl,rfl⟩ (by decide) rfl;have lW:(E.setCell ⟨gp,n * 12+9,n_⟩ (t_ t0)).heap[X]? =o_ (c_ #[i_ j_ y.id,b_ false,b_ y.Mf,i_ j_ y.max,s_ y.ak y.Ma.length y.aq] 115):=(aH (fun e=>by have h5:=(S.I.fr.lo gp (gD (.inl (by rw [ud.I]; simp [blk])))).2; have:=afa.I.2; omega)).trans afa.I.1;replace S:=aA (S.I.call s1);replace afa:=aA (And.intro lW afa.I.2);clear s1 lW hgi;simp only [PV] at S
  iterate 9 (refine ly 10 (v:= ?_) (o_ _) rfl rfl Zcq (fun _ _ _ h=>h) (bV Zcq ?_) ?_; rotate_left; (intro w0 hS0; subst hS0; go_simp; try with_reducible rfl); simp only [pt,sb,s0,s1])
  refine fL rfl Zcq Zcq Zcq ?_;intro w1 cm;rw [cm];clear cm w1
  go_simp
  generalize E.setCell ⟨gp,n * 12+9,n_⟩ (t_ t0)=G at *;clear m2 x4 x5 c f u k0 k1 il il3 il4;obtain ⟨q1,hq1,hq⟩:=kg HR.I.1 HR.I.2.1 jA.I.2.1;have HB:bN (q1.ai=q.ai/\q1.aK=q.aK/\q1.pure.ai=q.pure.ai):=by rw [hq1]; exact ⟨rfl,rfl,rfl⟩
  rw [<- hq1] at S;have HQ:=aA hq;clear hq1 hq;have x2:G.cell? ⟨X,2,n_⟩=o_ (b_ y.Mf):=by simp [World.cell?,afa.I.1]
  cases nu:y.Mf
  .rw [nu] at x2
   have HE:bN (gC (14,N,M,s) x.id q.pure=bu 0 x.id (ez t0 x.id q.pure)):=by show gC (14,N,M,s) x.id q.pure=_; rw [HU.I,nu]; rfl
   clear nu afa HU;have Mb:=bB (n:=n) 0 S.I.fr.own S.I.low HQ.I.2.2.1 HQ.I.2.2.2 ZcD;rw [HQ.I.1,HQ.I.2.1] at Mb;exact h_
  rw [nu] at x2;have HE:bN (gC (14,N,M,s) x.id q.pure=bu 0 x.id (gU N r (ez t0 x.id q.pure))):=by show gC (14,N,M,s) x.id q.pure=_; rw [HU.I,nu]; rfl
  clear nu HU;go_upto_region 18 with fail;clear x2;replace S:=aA (S.I.reads (Kp _ _).drew);replace afa:bN (G.drew.heap[X]? =o_ (c_ #[i_ j_ y.id,b_ false,b_ y.Mf,i_ j_ y.max,s_ y.ak y.Ma.length y.aq] 115)/\w.heap.size+3<=X):=afa.I;refine Kr (S:=fun w'=>av w' w.heap.size q/\w'.heap[X]? =o_ (c_ #[i_ j_ y.id,b_ false,b_ y.Mf,i_ j_ y.max,s_ y.ak y.Ma.length y.aq] 115)) Zcq ⟨S.I.fr.box,afa.I.1⟩ (fun bE=> ?_);generalize G.drew=V2 at *;have GO:bN (q1.ai[m]? =o_ y):=by rw [HB.I.1]; exact HM.I.1
  have il:(1:Int)<=(y.Ma.length:Int):=by rw [jA.I.1]; simp; omega
  have af5:(y.Ma.length:Int)<=(y.aq:Int):=by have h5:y.Ma.length<=y.aq:=nV (S.I.fr.own.eR y (KA GO.I)); omega
  have ic2:(1:Int)<=(y.aq:Int):=zo
  obtain ⟨afs,hTA⟩: ∃ afs:Option d_,(if y.aq=1 then y.ak else Option.map (fun x:d_=>(⟨x.block,x.off+1,n_⟩:d_)) y.ak)=afs:=⟨_,rfl⟩
  refine agi 0 bE ?_;refine agi 1 bE ?_;refine agi 2 bE ?_;refine agi 4 bE ?_;refine agi 5 bE ?_;refine agi 6 bE ?_;clear bE il af5 ic2;have lW:=(J2.1 afa.I.1).1;have hS: ∀ W,B_ V2.heap.size V2 W->av W w.heap.size q/\W.heap[X]? =o_ (c_ #[i_ j_ y.id,b_ false,b_ y.Mf,i_ j_ y.max,s_ y.ak y.Ma.length y.aq] 115):=fun W hb=>⟨S.I.fr.box.below hb,(hb.block _ lW).trans afa.I.1⟩
  have b1:B_ V2.heap.size V2 (V2.alloc (c_ #[] 9)):=(Kp _ _).alloc (Ki _) _;refine L7 3 (fun K hK=> ?_);go_wp2_with fail;refine hK.out _ _ (hS _ b1) (fun bE=> ?_);clear hK K bE
  try simp only [pt,sb,s0,s1]
  have hlr:y.Ma.length - 1=r.length:=by rw [jA.I.1]; rfl
  have pI:y.Ma.drop 1=r:=by rw [jA.I.1]; rfl
  have hsrc:=vg (c:=y.aq) (nV (S.I.fr.own.eR y (KA GO.I))) (nJ (S.I.fr.own.below b1).at.2.2.2.2.2 GO.I);rw [hTA] at hsrc;obtain ⟨a7,c7,w7,hap,mP,xI,-⟩:=ou (V2.alloc (c_ #[] 9)) V2.heap.size (o_ ⟨V2.heap.size,0,n_⟩) 0 [] (i6 (Kj _ _) (Ki _)) afs (y.Ma.drop 1) (y.aq - 1) hsrc (by rw [Ql]; have:=tI.I.2.1; show 0+_<=_; omega) b1.size;clear hsrc hTA;have gh:B_ V2.heap.size V2 w7:=b1.grown xI b1.size fun c e=>by cases e; exact Ki _
  rw [Ql,hlr] at hap mP;simp only [K4,Li,Ll,pI] at hap mP;rw [<- hlr] at hap;obtain ⟨s1,⟨u,c⟩,f⟩:=pg (n:=m) S.I.fr.own (aI.dI gh) GO.I (HB.I.2.1.trans HG.I) (cq mP S.I.low) (fun g hg=> .inr (cf mP hg).1);rw [<- hlr] at s1;have HLR:bN (y.Ma.length - 1=r.length):=hlr;clear hlr;refine L7 7 (fun K hK=> ?_);refine cM _ _ _ rfl _ _ _ w7 rfl rfl hap ?_;refine hK.out _ _ ⟨S.I.fr.box.below gh,(gh.block _ lW).trans afa.I.1⟩ (fun bE=> ?_);clear hK K bE
  try simp only [pt,sb]
  have wj:av w7 w.heap.size q/\w7.heap[X]? =o_ (c_ #[i_ j_ y.id,b_ false,b_ y.Mf,i_ j_ y.max,s_ y.ak y.Ma.length y.aq] 115):=⟨S.I.fr.box.below gh,(gh.block _ lW).trans afa.I.1⟩
  replace S:=aA (S.I.call s1);clear hap mP xI gh s1 b1 hS;refine agi 8 wj ?_;refine agi 9 wj ?_;have uQ:(w7.setCell ⟨Y5,m * 5+4,n_⟩ (s_ a7 (y.Ma.length - 1) c7)).heap[X]? =o_ (c_ #[i_ j_ y.id,b_ false,b_ y.Mf,i_ j_ y.max,s_ y.ak y.Ma.length y.aq] 115):=(aH (fun e=>by have h5:=(S.I.fr.lo Y5 (gD (.inr <| .inr <| .inr <| .inr <| .inr <| by rw [HG.I]; simp [blk]))).2; have:=afa.I.2; omega)).trans wj.2;refine L7 10 (fun K hK=> ?_);go_wp2_with fail;refine hK.out _ _ ⟨S.I.fr.box,uQ⟩ (fun bE=> ?_);clear hK K bE;refine K3 Zcq ?_ _;clear c f u wj lW uQ;go_upto_region 19 with fail;generalize w7.setCell ⟨Y5,m * 5+4,n_⟩ (s_ a7 (y.Ma.length - 1) c7)=J at *;obtain ⟨q2,pv⟩: ∃ q2:af,q2= { q1 with ai:=q1.ai.set m { y with Ma:=r,ak:=a7,aq:=c7 } } :=⟨_,rfl⟩
  have ky:bN (q2.pure=gU N r (ez t0 x.id q.pure)/\q2.cells=q.cells/\aQ q2.pure/\q2.L8[n]? =o_ { x with got:=t0 }):=by
   have h5:q2.pure=gU N r q1.pure:=by rw [pv]; exact sq HQ.I.2.2.1.ai GO.I HM.I.2.1
   have h6:aQ (gU N r q1.pure):=jj HQ.I.2.2.1 (fun z hz hk=>by rw [HB.I.2.2] at hz; rw [only HR.I.1.ai HM.I.2.2 hz hk]; have h7:=tI.I.2.2.1; rw [jA.I.1] at h7; have h8:y.todS.max=y.max:=rfl; simp only [Lg] at h7; omega) jA.I.2.2;exact ⟨by rw [h5,HQ.I.1],by rw [pv]; exact Eq.trans (by unfold af.cells; simp) HQ.I.2.1,by rw [h5]; exact h6,by rw [pv]; exact HQ.I.2.2.2⟩
  rw [<- pv] at S;clear pv HLR pI afa;have Mb:=bB (n:=n) 0 S.I.fr.own S.I.low ky.I.2.2.1 ky.I.2.2.2 ZcD;rw [ky.I.1,ky.I.2.1] at Mb;exact h_
end Go.Proofs.YtfncpmaefninjaaGreatDoor
