/- What the proof leans on, part 21. -/
import Derived.Test.YtfncpmaefninjaaGreatDoorOwnQ16
import Derived.Test.YtfncpmaefninjaaGreatDoorOwnQ17
import Derived.Test.YtfncpmaefninjaaGreatDoorOwnQ18
set_option linter.all false
set_option maxRecDepth 100000
set_option maxHeartbeats 8000000
open Go.Proofs.Tryz
open Go renaming World->w_,Calls->k_,below_setRow->q_
open Go.Ending renaming returned->r_
open Go.IntKind renaming i64->j_
open Go.Obj renaming cells->c_
open Go.RowKit renaming Below->B_,Hid->bN
open Go.Value renaming int->i_,slice->s_,bool->b_,string->t_,agg->a_
open Option renaming some->o_,none->n_
open Go renaming wp_at_succ->Kd,wp_at_zero->Kc
open Go.Proofs.Tryz renaming prog->J3
open List renaming length_nil->K4

open Go.RowKit
namespace Go.Proofs.YtfncpmaefninjaaGreatDoor
open Go.Maps
attribute [local go_sem ↓] Kc Kd
def Cl (q:af) (n bj:Nat) (x:ao) (bC:Int) (o:dN) (w:w_) (h:ap w bj q) (hb:bj<=w.heap.size) (hr:aQ q.pure) (hx:q.L8[n]? =o_ x) (hs:x.Md=1) (hn:q.next<=999999990) (eu:0<=bC/\bC<=1000000000) (ho:kc o=true) (hk:o.1=12):
  k_ J3 91 #[a_ q.cells,i_ j_ n,a_ (j9 o),i_ j_ bC] w (jH w bj q (dC o bC x.id q.pure)):=by
 obtain ⟨-,f1,f2,f3,f4⟩:=dv ho;have hM:=bz.1 f2;obtain ⟨k,N,M,s⟩:=o;simp only at hk hM f1 f3 f4;subst hk;have HR:=aA (SD hr hx hs hn eu hM);have HF:=aA (dW hr);clear f2 hr hx hs hn eu hM ho;have S:=aA (Xf.start (o:=(12,N,M,s)) h hb);clear h hb
 go_enter func91,ntmps91
 go_upto_region 1 with fail;generalize ((w.alloc (c_ q.cells 31)).alloc (c_ (j9 (12,N,M,s)) 45)).alloc (c_ ar 31)=A at *;obtain ⟨-,o1,-,-⟩:=S.I.op.cells;simp only at o1;have hpf:=ef (num:=fun x:az=>x.id) N q.ag 0;have Mb:=mg q N A Zcx S.I.fr.own.at;generalize place (q.ag.map (fun x=>x.id)) N 0=z at *;go_wp2_with (refine eT _ S.I.fr.box ?_);refine Mb.mono ?_;clear Mb;rintro e A2 ⟨rfl,hb2⟩;replace S:=aA (S.I.reads hb2);clear hb2 o1;rcases hpf with ⟨hz,hf⟩ | ⟨m,y,hz,hm,hid,hf⟩
 .subst hz
  have HE:bN (dC (12,N,M,s) bC x.id q.pure=bu 3 x.id q.pure):=by show dC (12,N,M,s) bC x.id q.pure=_; unfold dC; rw [show cg (fun x:az=>x.id) N q.pure.ag=n_ from hf]
  exact Zb6
 rw [Li] at hz;subst hz;have afO:decide ((m:Int) < 0)=false:=decide_eq_false zo;have HM:bN (q.ag[m]? =o_ y/\y.id=N/\cg (fun x:az=>x.id) N q.pure.ag=o_ y):=⟨hm,hid,hf⟩
 have hml:=(Lj.1 hm).1;have j0:(0:Int)<=(m:Int):=zo
 have j1:(m:Int) < (q.ag.length:Int):=zo
 clear hm hid hf hml;obtain ⟨o0,-,-,-⟩:=S.I.op.cells;simp only at o0;have ht:=(sX (o:=(12,N,M,s)) HR.I.1 HM.I.2.2).2;have HG1:=aA (kg HR.I.1 HR.I.2.1 ht);clear ht;go_upto_region 17 with fail;clear afO o0;replace S:=aA (S.I.reads (Kp _ _).drew);refine eD (fun w1=>w1=A2.drew) 11 Zcq rfl ?_;generalize A2.drew=B at *;obtain ⟨Y5,iE,hat⟩:=jr S.I.fr.own.at.2.2.2.1 HM.I.1;have m5:=S.I.fr.box.cells.2.2.2.2.2.1;rw [iE] at m5;have d1:=hat.2.1;have d2:=hat.2.2;have HG:bN (q.ax=o_ ⟨Y5,0,n_⟩):=iE;clear hat iE;obtain ⟨gp,l9,-⟩:=cn S.I.fr.own.at.1 HR.I.2.1;have m2:=S.I.fr.box.cells.2.2.1;have k1:(n:Int) < (q.L8.length:Int):=by have:=(Lj.1 HR.I.2.1).1; omega
 have k0:(0:Int)<=(n:Int):=zo
 rw [l9] at m2;obtain ⟨s1,⟨u,c⟩,f⟩:=eY (n:=n) (j:=9) (v:=t_ y.text) (y:= { x with got:=y.text }) S.I.fr.own HR.I.2.1 l9 ⟨rfl,rfl,rfl⟩ (by decide) rfl;replace S:=aA (S.I.call s1);clear s1 l9
 iterate 11 (refine ly 12 (v:= ?_) (o_ _) rfl rfl Zcq (fun _ _ _ h=>h) (bV Zcq ?_) ?_; rotate_left; (intro w0 hS0; subst hS0; go_simp; try with_reducible rfl); simp only [pt,sb,s0,s1])
 refine fL rfl Zcq Zcq Zcq ?_;intro w1 cm;rw [cm];clear cm w1
 go_simp
 generalize B.setCell ⟨gp,n * 12+9,n_⟩ (t_ y.text)=C at *;clear m2 m5 d1 d2 c f u k0 k1;obtain ⟨q1,hq1,hq⟩:=HG1.I;have HB:bN (q1.ag[m]? =o_ y/\q1.next=q.next/\q1.ax=q.ax):=by rw [hq1]; exact ⟨HM.I.1,rfl,rfl⟩
 rw [<- hq1] at S;have HQ:=aA hq;clear hq1 hq HG1;obtain ⟨ga2,iE,hat⟩:=jr S.I.fr.own.at.2.2.2.1 HB.I.1;rw [HB.I.2.2,HG.I] at iE;cases iE;have d1:=hat.2.1;clear hat;have m5:=S.I.fr.box.cells.2.2.2.2.2.1;rw [HG.I] at m5;cases hu:y.shown
 .rw [hu] at d1
  have HE:bN (dC (12,N,M,s) bC x.id q.pure=mX 7 (12,N,M,s) bC x.id (ez y.text x.id q.pure)):=by show dC (12,N,M,s) bC x.id q.pure=_; unfold dC; rw [show cg (fun x:az=>x.id) N q.pure.ag=o_ y from HM.I.2.2]; simp [hu]
  clear hu;have Mb:=oR q1 n bj { x with got:=y.text } 7 bC (12,N,M,s) C S.I.fr.own S.I.low HQ.I.2.2.1 HQ.I.2.2.2 ZcD (by have:=HR.I.2.2.2.1; rw [HB.I.2.1]; omega) HR.I.2.2.2.2.1 HR.I.2.2.2.2.2;rw [HQ.I.1,HQ.I.2.1] at Mb;go_wp2_with (first | (refine eT _ S.I.fr.box ?_) | (refine LS rfl 45 (.tmp 6) rfl (w.heap.size+1) (by rfl) 45 (j9 (12,N,M,s)) (0,0) _ S.I.op underlying45 rfl Zcq ?_));exact jp
 .rw [hu] at d1
  have HE:bN (dC (12,N,M,s) bC x.id q.pure=bu 0 x.id (ez y.text x.id q.pure)):=by show dC (12,N,M,s) bC x.id q.pure=_; unfold dC; rw [show cg (fun x:az=>x.id) N q.pure.ag=o_ y from HM.I.2.2]; simp [hu]
  clear hu;have Mb:=bB (n:=n) 0 S.I.fr.own S.I.low HQ.I.2.2.1 HQ.I.2.2.2 ZcD;exact Zcm
def AS (q:af) (n bj:Nat) (x:ao) (bC:Int) (o:dN) (w:w_) (h:ap w bj q) (hb:bj<=w.heap.size) (hr:aQ q.pure) (hx:q.L8[n]? =o_ x) (hs:x.Md=1) (hn:q.next<=999999990) (eu:0<=bC/\bC<=1000000000) (ho:kc o=true) (hk:o.1=11):
  k_ J3 91 #[a_ q.cells,i_ j_ n,a_ (j9 o),i_ j_ bC] w (jH w bj q (dC o bC x.id q.pure)):=by
 obtain ⟨-,f1,f2,f3,f4⟩:=dv ho;have hM:=bz.1 f2;obtain ⟨k,N,M,s⟩:=o;simp only at hk hM f1 f3 f4;subst hk;have HR:=aA (SD hr hx hs hn eu hM);have HF:=aA (dW hr);clear f2 hr hx hs hn eu hM ho;have S:=aA (Xf.start (o:=(11,N,M,s)) h hb);clear h hb
 go_enter func91,ntmps91
 go_upto_region 1 with fail;generalize ((w.alloc (c_ q.cells 31)).alloc (c_ (j9 (11,N,M,s)) 45)).alloc (c_ ar 31)=A at *;obtain ⟨-,o1,-,-⟩:=S.I.op.cells;simp only at o1;have hpf:=ef (num:=fun x:az=>x.id) N q.ag 0;have Mb:=mg q N A Zcx S.I.fr.own.at;generalize place (q.ag.map (fun x=>x.id)) N 0=z at *;go_wp2_with (refine eT _ S.I.fr.box ?_);refine Mb.mono ?_;clear Mb;rintro e A2 ⟨rfl,hb2⟩;replace S:=aA (S.I.reads hb2);clear hb2 o1;rcases hpf with ⟨hz,hf⟩ | ⟨m,y,hz,hm,hid,hf⟩
 .subst hz
  have HE:bN (dC (11,N,M,s) bC x.id q.pure=bu 3 x.id q.pure):=by show dC (11,N,M,s) bC x.id q.pure=_; unfold dC; rw [show cg (fun x:az=>x.id) N q.pure.ag=n_ from hf]
  exact Zb6
 rw [Li] at hz;subst hz;have afO:decide ((m:Int) < 0)=false:=decide_eq_false zo;have HM:bN (q.ag[m]? =o_ y/\y.id=N/\cg (fun x:az=>x.id) N q.pure.ag=o_ y):=⟨hm,hid,hf⟩
 have hml:=(Lj.1 hm).1;have j0:(0:Int)<=(m:Int):=zo
 have j1:(m:Int) < (q.ag.length:Int):=zo
 clear hm hid hf hml;obtain ⟨o0,-,-,-⟩:=S.I.op.cells;simp only at o0;have HE:bN (dC (11,N,M,s) bC x.id q.pure=bu 0 x.id (ib N false rM q.pure)):=by show dC (11,N,M,s) bC x.id q.pure=_; unfold dC; rw [show cg (fun x:az=>x.id) N q.pure.ag=o_ y from HM.I.2.2]; rfl
 obtain ⟨Y5,iE,hat⟩:=jr S.I.fr.own.at.2.2.2.1 HM.I.1;have m5:=S.I.fr.box.cells.2.2.2.2.2.1;rw [iE] at m5;have HG:bN (q.ax=o_ ⟨Y5,0,n_⟩):=iE;clear hat iE;obtain ⟨s1,⟨u,c⟩,f⟩:=ll (n:=m) (j:=1) (v:=b_ false) (y:= { y with shown:=false }) S.I.fr.own HM.I.1 HG.I (by decide) rfl;replace S:=aA (S.I.call s1);clear s1;go_upto_region 15 with fail;generalize A2.setCell ⟨Y5,m * 3+1,n_⟩ (b_ false)=C at *;clear m5 c f u;have m5:=S.I.fr.box.cells.2.2.2.2.2.1;rw [HG.I] at m5;obtain ⟨s1,⟨u,c⟩,f⟩:=ll (n:=m) (j:=2) (v:=t_ ⟨#[]⟩) (x:= { y with shown:=false }) (y:= { y with shown:=false,text:=rM }) S.I.fr.own Zdu HG.I (by decide) rfl;replace S:=aA (S.I.call s1);clear s1;simp only [PV] at S;go_upto_region 20 with fail;generalize C.setCell ⟨Y5,m * 3+2,n_⟩ (t_ ⟨#[]⟩)=D at *;clear m5 c f u afO j0 j1;have CK:bN (∃ q1:af,q1= { q with ag:=q.ag.set m { y with shown:=false,text:=rM } } /\q1.pure=ib N false rM q.pure/\q1.cells=q.cells/\aQ q1.pure/\q1.L8[n]? =o_ x/\q1.next=q.next):=by
  have hq:({ q with ag:=q.ag.set m { y with shown:=false,text:=rM } } :af).pure=ib N false rM q.pure:=by show ({ q.pure with ag:=q.ag.set m { y with shown:=false,text:=rM } } :aE)=_; unfold ib; rw [jF (num:=fun x:az=>x.id) (db HR.I.1.ag).2 HM.I.1 HM.I.2.1]; rfl
  exact ⟨_,rfl,hq,by unfold af.cells; simp,by rw [hq]; exact kA HR.I.1 jX (.inr oB),HR.I.2.1,rfl⟩
 obtain ⟨q1,hq1,hq⟩:=CK.I;rw [<- hq1] at S;have HQ:=aA hq;clear hq1 hq CK;have Mb:=bB (n:=n) 0 S.I.fr.own S.I.low HQ.I.2.2.1 HQ.I.2.2.2.1 Zcz;exact Zcm
def CA (q:af) (n bj:Nat) (x:ao) (bC:Int) (o:dN) (w:w_) (h:ap w bj q) (hb:bj<=w.heap.size) (hr:aQ q.pure) (hx:q.L8[n]? =o_ x) (hs:x.Md=1) (hn:q.next<=999999990) (eu:0<=bC/\bC<=1000000000) (ho:kc o=true) (hk:o.1=10):
  k_ J3 91 #[a_ q.cells,i_ j_ n,a_ (j9 o),i_ j_ bC] w (jH w bj q (dC o bC x.id q.pure)):=by
 obtain ⟨-,f1,f2,f3,f4⟩:=dv ho;have hM:=bz.1 f2;obtain ⟨k,N,M,s⟩:=o;simp only at hk hM f1 f3 f4;subst hk;have HR:=aA (SD hr hx hs hn eu hM);have HF:=aA (dW hr);clear f2 hr hx hs hn eu hM ho;have S:=aA (Xf.start (o:=(10,N,M,s)) h hb);clear h hb
 go_enter func91,ntmps91
 go_upto_region 1 with fail;generalize ((w.alloc (c_ q.cells 31)).alloc (c_ (j9 (10,N,M,s)) 45)).alloc (c_ ar 31)=A at *;obtain ⟨-,o1,-,-⟩:=S.I.op.cells;simp only at o1;have hpf:=ef (num:=fun x:az=>x.id) N q.ag 0;have Mb:=mg q N A Zcx S.I.fr.own.at;generalize place (q.ag.map (fun x=>x.id)) N 0=z at *;go_wp2_with (refine eT _ S.I.fr.box ?_);refine Mb.mono ?_;clear Mb;rintro e A2 ⟨rfl,hb2⟩;replace S:=aA (S.I.reads hb2);clear hb2 o1;rcases hpf with ⟨hz,hf⟩ | ⟨m,y,hz,hm,hid,hf⟩
 .subst hz
  have HE:bN (dC (10,N,M,s) bC x.id q.pure=bu 3 x.id q.pure):=by show dC (10,N,M,s) bC x.id q.pure=_; unfold dC; rw [show cg (fun x:az=>x.id) N q.pure.ag=n_ from hf]
  exact Zb6
 rw [Li] at hz;subst hz;have afO:decide ((m:Int) < 0)=false:=decide_eq_false zo;have HM:bN (q.ag[m]? =o_ y/\y.id=N/\cg (fun x:az=>x.id) N q.pure.ag=o_ y):=⟨hm,hid,hf⟩
 have hml:=(Lj.1 hm).1;have j0:(0:Int)<=(m:Int):=zo
 have j1:(m:Int) < (q.ag.length:Int):=zo
 clear hm hid hf hml;obtain ⟨o0,-,-,-⟩:=S.I.op.cells;simp only at o0;have HE:bN (dC (10,N,M,s) bC x.id q.pure=bu 0 x.id (ff (lG s) 7 N (ib N true s q.pure))):=by show dC (10,N,M,s) bC x.id q.pure=_; unfold dC; rw [show cg (fun x:az=>x.id) N q.pure.ag=o_ y from HM.I.2.2]; rfl
 obtain ⟨Y5,iE,hat⟩:=jr S.I.fr.own.at.2.2.2.1 HM.I.1;have m5:=S.I.fr.box.cells.2.2.2.2.2.1;rw [iE] at m5;have HG:bN (q.ax=o_ ⟨Y5,0,n_⟩):=iE;clear hat iE;obtain ⟨s1,⟨u,c⟩,f⟩:=ll (n:=m) (j:=1) (v:=b_ true) (y:= { y with shown:=true }) S.I.fr.own HM.I.1 HG.I (by decide) rfl;replace S:=aA (S.I.call s1);clear s1;go_upto_region 7 with fail;generalize A2.setCell ⟨Y5,m * 3+1,n_⟩ (b_ true)=C at *;clear m5 c f u;obtain ⟨-,-,-,o3⟩:=S.I.op.cells;simp only at o3;have m5:=S.I.fr.box.cells.2.2.2.2.2.1;rw [HG.I] at m5;obtain ⟨s1,⟨u,c⟩,f⟩:=ll (n:=m) (j:=2) (v:=t_ s) (x:= { y with shown:=true }) (y:= { y with shown:=true,text:=s }) S.I.fr.own Zdu HG.I (by decide) rfl;replace S:=aA (S.I.call s1);clear s1;simp only [PV] at S;go_upto_region 8 with fail;generalize C.setCell ⟨Y5,m * 3+2,n_⟩ (t_ s)=D at *;clear m5 c f u afO j0 j1 o3;have CK:bN (∃ q1:af,q1= { q with ag:=q.ag.set m { y with shown:=true,text:=s } } /\q1.pure=ib N true s q.pure/\q1.cells=q.cells/\aQ q1.pure/\q1.L8[n]? =o_ x/\q1.next=q.next):=by
  have hq:({ q with ag:=q.ag.set m { y with shown:=true,text:=s } } :af).pure=ib N true s q.pure:=by show ({ q.pure with ag:=q.ag.set m { y with shown:=true,text:=s } } :aE)=_; unfold ib; rw [jF (num:=fun x:az=>x.id) (db HR.I.1.ag).2 HM.I.1 HM.I.2.1]; rfl
  exact ⟨_,rfl,hq,by unfold af.cells; simp,by rw [hq]; exact kA HR.I.1 f3 (.inl rfl),HR.I.2.1,rfl⟩
 obtain ⟨q1,hq1,hq⟩:=CK.I;rw [<- hq1] at S;have HQ:=aA hq;clear hq1 hq CK;have Mb:=ij q1 7 N D (by have:=(dW HQ.I.2.2.1).1; omega) S.I.fr.own.at;rw [HQ.I.2.1] at Mb;obtain ⟨-,o1,-,-⟩:=S.I.op.cells;simp only at o1;go_wp2_with (refine eT _ S.I.fr.box ?_);refine Mb.mono ?_;clear Mb o1;rintro e af3 ⟨⟨z,rfl,gV⟩,hb2⟩;replace S:=aA (S.I.reads hb2);clear hb2;have afW:=aA (S.I.sync HQ.I.2.1);have IB:bN (bw s=true):=f3;have HI:=aA (If.start (f:=lG s) (n:=n) (x:=x.toaD) HQ.I.2.2.1 (mj HQ.I.2.2.2.1) (by have:=HR.I.2.2.2.1; rw [HQ.I.2.2.2.2]; exact this) gV);rw [HQ.I.1] at HI;clear gV S f1 f3 f4;go_wp2_with fail
 go_loopg [10] ((ib N true s q.pure).L8.filter (ie 7 N)).length (fun k b wr=> ∃ (qk:af) (z:Int),b=i_ j_ z/\bN (If (lG s) 7 N (ff (lG s) 7 N (ib N true s q.pure)) n x.toaD k qk z/\Xf w bj q qk qk (10,N,M,s) wr))
 case atStart=>exact ⟨q1,z,rfl,HI.I,afW.I⟩
 case round=>
  obtain ⟨qk,z,rfl,HK⟩:=hrel;have S:=aA HK.I.2;rcases pp HK.I.1.best with ⟨hz,hw⟩ | ⟨i,v,hz,hi,hw⟩
  .have afO:decide (z>=0)=false:=decide_eq_false zo
   obtain ⟨x2,hx2,sw⟩:=tQ HK.I.1.pos;have HT:bN (bu 0 x2.id qk.pure=dC (10,N,M,s) bC x.id q.pure):=by show bu 0 x2.id qk.pure=_; rw [HE.I,<- HK.I.1.same,qO hw,show x2.id=x.id from congrArg aD.id sw]
   have Mb:=bB (n:=n) 0 S.I.fr.own S.I.low HK.I.1.r hx2 Zcy;clear hz hw hx2 sw;go_wp2_with (refine eT _ S.I.fr.box ?_);refine Mb.mono ?_;clear Mb;rintro e A2 ⟨q2,rfl,hp,ht⟩;replace S:=aA (S.I.call ht);have HP:bN (q2.pure=_):=hp;clear hp ht;go_wp2_with (refine ec _ _ q2.cells S.I.an ?_);refine gZ results91 S.I.an ?_;exact ⟨q2,rfl,HP.I.trans HT.I,S.I.done _⟩
  subst hz;have afO:decide ((i:Int)>=0)=true:=decide_eq_true zo;have HW:bN (jl 7 N qk.pure.L8=o_ v.toaD/\qk.L8[i]? =o_ v/\v.Md=7):=⟨hw,hi,(ft hw).2.1⟩
  clear hw hi;obtain ⟨-,-,-,o3⟩:=S.I.op.cells;simp only at o3;obtain ⟨gp,l9,-⟩:=cn S.I.fr.own.at.1 HW.I.2.1;have m2:=S.I.fr.box.cells.2.2.1;have k1:(i:Int) < (qk.L8.length:Int):=by have:=(Lj.1 HW.I.2.1).1; omega
  have k0:(0:Int)<=(i:Int):=zo
  rw [l9] at m2;obtain ⟨s1,⟨u,c⟩,f⟩:=eY (n:=i) (j:=9) (v:=t_ s) (y:= { v with got:=s }) S.I.fr.own HW.I.2.1 l9 ⟨rfl,rfl,rfl⟩ (by decide) rfl;replace S:=aA (S.I.call s1);clear s1 l9;go_upto_region 12 with fail;generalize wr.setCell ⟨gp,i * 12+9,n_⟩ (t_ s)=E at *;clear m2 c f u k0 k1 afO o3;obtain ⟨afn,hqg,g1,g2,g3,g4⟩:=kg HK.I.1.r HW.I.2.1 IB.I;rw [<- hqg] at S;have Mb:=lP (n:=i) S.I.fr.own S.I.low g3 g4 (by show ¬ v.Md=0; rw [HW.I.2.2]; decide) (by rw [hqg]; have:=HK.I.1.nx; show qk.next<=_; omega);rw [g1,g2,show ({ v with got:=s } :ao).toaD=lG s v.toaD from rfl,Bz] at Mb;clear hqg g1 g2 g3 g4;go_wp2_with (refine eT _ S.I.fr.box ?_);refine Mb.mono ?_;clear Mb;rintro e afP ⟨q2,rfl,hp,ht⟩;replace S:=aA (S.I.call ht);have HJ:=aA (HK.I.1.step (q2:=q2) HR.I.2.2.1 ⟨by decide,by decide⟩ (.inr ⟨_,IB.I,rfl⟩) HW.I.1 hp);clear hp ht;have S2:=aA S.I.put;go_upto_region 10 with (refine ec _ _ q2.cells S.I.fr.box ?_);generalize afP.setRow w.heap.size q2.cells=afv at *;clear S;have S:=S2;clear S2;obtain ⟨-,o1,-,-⟩:=S.I.op.cells;simp only at o1;have Mb:=ij q2 7 N afv (by have:=(dW HJ.I.2.2.1).1; omega) S.I.fr.own.at;go_wp2_with (refine eT _ S.I.fr.box ?_);refine Mb.mono ?_;clear Mb o1;rintro e R1 ⟨⟨z2,rfl,gV⟩,hb2⟩;exact Zas
end Go.Proofs.YtfncpmaefninjaaGreatDoor

namespace Go.Proofs.YtfncpmaefninjaaGreatDoor
open Go.Maps
attribute [local go_sem ↓] Kc Kd
def BE (q:af) (n bj:Nat) (x:ao) (bC:Int) (o:dN) (w:w_) (h:ap w bj q) (hb:bj<=w.heap.size) (hr:aQ q.pure) (hx:q.L8[n]? =o_ x) (hs:x.Md=1) (hn:q.next<=999999990) (eu:0<=bC/\bC<=1000000000) (ho:kc o=true) (hk:o.1=7):
  k_ J3 89 #[a_ q.cells,i_ j_ n,a_ (j9 o),i_ j_ bC] w (jH w bj q (dE o bC x.id q.pure)):=by
 obtain ⟨-,f1,f2,f3,f4⟩:=dv ho;have hM:=bz.1 f2;obtain ⟨k,N,M,s⟩:=o;simp only at hk hM f1 f3 f4;subst hk;have HR:=aA (SD hr hx hs hn eu hM);have HF:=aA (dW hr);clear f2 hr hx hs hn eu hM ho;have S:=aA (Xf.start (o:=(7,N,M,s)) h hb);clear h hb
 go_enter func89,ntmps89
 go_upto_region 1 with fail;generalize ((w.alloc (c_ q.cells 31)).alloc (c_ (j9 (7,N,M,s)) 45)).alloc (c_ ar 31)=A at *;obtain ⟨-,o1,-,-⟩:=S.I.op.cells;simp only at o1;have Mb:=lw q N A Zcx S.I.fr.own.at;go_wp2_with (refine eT _ S.I.fr.box ?_);refine Mb.mono ?_;clear Mb;rintro e A2 ⟨rfl,hb2⟩;replace S:=aA (S.I.reads hb2);clear hb2 o1;generalize place (q.aj.map (fun x=>x.id)) N 0=z0 at *;obtain ⟨o0,o1,-,-⟩:=S.I.op.cells;simp only at o0 o1;have hpf:=ef (num:=fun x:aB=>x.id) N q.L9 0;have Mb:=ml q N A2 Zcx S.I.fr.own.at;generalize place (q.L9.map (fun x=>x.id)) N 0=z at *;go_wp2_with (refine eT _ S.I.fr.box ?_);refine Mb.mono ?_;clear Mb;rintro e A3 ⟨rfl,hb2⟩;replace S:=aA (S.I.reads hb2);clear hb2 o0 o1;obtain ⟨o0,-,-,-⟩:=S.I.op.cells;simp only at o0;rcases hpf with ⟨hz,hf⟩ | ⟨m,y,hz,hm,hid,hf⟩
 .subst hz
  have HE:bN (dE (7,N,M,s) bC x.id q.pure=bu 3 x.id q.pure):=by show dE (7,N,M,s) bC x.id q.pure=_; unfold dE; rw [show cg (fun x:aB=>x.id) N q.pure.L9=n_ from hf]
  exact Zb2
 rw [Li] at hz;subst hz;have afO:decide ((m:Int) < 0)=false:=decide_eq_false zo;have HM:bN (q.L9[m]? =o_ y/\y.id=N/\cg (fun x:aB=>x.id) N q.L9=o_ y):=⟨hm,hid,hf⟩
 have hml:=(Lj.1 hm).1;have j0:(0:Int)<=(m:Int):=zo
 have j1:(m:Int) < (q.L9.length:Int):=zo
 obtain ⟨Y5,iE,hat⟩:=j4 S.I.fr.own.at.2.2.1 hm;have m4:=S.I.fr.box.cells.2.2.2.2.1;rw [iE] at m4;have HG:bN (q.ay=o_ ⟨Y5,0,n_⟩):=iE;have d1:=hat.2;clear hm hid hf hml hat iE;cases hu:y.up
 .rw [hu] at d1
  have HE:bN (dE (7,N,M,s) bC x.id q.pure=mX 4 (7,N,M,s) bC x.id q.pure):=by show dE (7,N,M,s) bC x.id q.pure=_; unfold dE; rw [show cg (fun x:aB=>x.id) N q.pure.L9=o_ y from HM.I.2.2]; simp [hu]
  clear hu;have Mb:=oR q n bj x 4 bC (7,N,M,s) A3 S.I.fr.own S.I.low HR.I.1 HR.I.2.1 Zcz ZcV HR.I.2.2.2.2.1 HR.I.2.2.2.2.2;go_wp2_with (first | (refine eT _ S.I.fr.box ?_) | (refine LS rfl 45 (.tmp 6) rfl (w.heap.size+1) (by rfl) 45 (j9 (7,N,M,s)) (0,0) _ S.I.op underlying45 rfl Zcq ?_));exact f_
 .rw [hu] at d1
  have HE:bN (dE (7,N,M,s) bC x.id q.pure=bu 0 x.id q.pure):=by show dE (7,N,M,s) bC x.id q.pure=_; unfold dE; rw [show cg (fun x:aB=>x.id) N q.pure.L9=o_ y from HM.I.2.2]; simp [hu]
  clear hu;have Mb:=bB (n:=n) 0 S.I.fr.own S.I.low HR.I.1 HR.I.2.1 Zcz;exact Zb4
def Ab (q:af) (n bj:Nat) (x:ao) (bC:Int) (o:dN) (w:w_) (h:ap w bj q) (hb:bj<=w.heap.size) (hr:aQ q.pure) (hx:q.L8[n]? =o_ x) (hs:x.Md=1) (hn:q.next<=999999990) (eu:0<=bC/\bC<=1000000000) (ho:kc o=true) (hk:o.1=6):
  k_ J3 89 #[a_ q.cells,i_ j_ n,a_ (j9 o),i_ j_ bC] w (jH w bj q (dE o bC x.id q.pure)):=by
 obtain ⟨-,f1,f2,f3,f4⟩:=dv ho;have hM:=bz.1 f2;obtain ⟨k,N,M,s⟩:=o;simp only at hk hM f1 f3 f4;subst hk;have HR:=aA (SD hr hx hs hn eu hM);have HF:=aA (dW hr);clear f2 hr hx hs hn eu hM ho;have S:=aA (Xf.start (o:=(6,N,M,s)) h hb);clear h hb
 go_enter func89,ntmps89
 go_upto_region 1 with fail;generalize ((w.alloc (c_ q.cells 31)).alloc (c_ (j9 (6,N,M,s)) 45)).alloc (c_ ar 31)=A at *;obtain ⟨-,o1,-,-⟩:=S.I.op.cells;simp only at o1;have Mb:=lw q N A Zcx S.I.fr.own.at;go_wp2_with (refine eT _ S.I.fr.box ?_);refine Mb.mono ?_;clear Mb;rintro e A2 ⟨rfl,hb2⟩;replace S:=aA (S.I.reads hb2);clear hb2 o1;generalize place (q.aj.map (fun x=>x.id)) N 0=z0 at *;obtain ⟨o0,o1,-,-⟩:=S.I.op.cells;simp only at o0 o1;have hpf:=ef (num:=fun x:aB=>x.id) N q.L9 0;have Mb:=ml q N A2 Zcx S.I.fr.own.at;generalize place (q.L9.map (fun x=>x.id)) N 0=z at *;go_wp2_with (refine eT _ S.I.fr.box ?_);refine Mb.mono ?_;clear Mb;rintro e A3 ⟨rfl,hb2⟩;replace S:=aA (S.I.reads hb2);clear hb2 o0 o1;obtain ⟨o0,-,-,-⟩:=S.I.op.cells;simp only at o0;rcases hpf with ⟨hz,hf⟩ | ⟨m,y,hz,hm,hid,hf⟩
 .subst hz
  have HE:bN (dE (6,N,M,s) bC x.id q.pure=bu 3 x.id q.pure):=by show dE (6,N,M,s) bC x.id q.pure=_; unfold dE; rw [show cg (fun x:aB=>x.id) N q.pure.L9=n_ from hf]
  exact Zb2
 rw [Li] at hz;subst hz;have afO:decide ((m:Int) < 0)=false:=decide_eq_false zo;have HM:bN (q.L9[m]? =o_ y/\y.id=N/\cg (fun x:aB=>x.id) N q.L9=o_ y):=⟨hm,hid,hf⟩
 have hml:=(Lj.1 hm).1;have j0:(0:Int)<=(m:Int):=zo
 have j1:(m:Int) < (q.L9.length:Int):=zo
 obtain ⟨Y5,iE,hat⟩:=j4 S.I.fr.own.at.2.2.1 hm;have m4:=S.I.fr.box.cells.2.2.2.2.1;rw [iE] at m4;have HG:bN (q.ay=o_ ⟨Y5,0,n_⟩):=iE;have HE:bN (dE (6,N,M,s) bC x.id q.pure=bu 0 x.id (gL N false q.pure)):=by show dE (6,N,M,s) bC x.id q.pure=_; unfold dE; rw [show cg (fun x:aB=>x.id) N q.pure.L9=o_ y from HM.I.2.2]; rfl
 clear hm hid hf hml hat iE;obtain ⟨s1,⟨u,c⟩,f⟩:=rv (n:=m) (j:=1) (v:=b_ false) (y:= { y with up:=false }) S.I.fr.own HM.I.1 HG.I (by decide) rfl;replace S:=aA (S.I.call s1);clear s1;go_upto_region 29 with fail;generalize A3.setCell ⟨Y5,m * 2+1,n_⟩ (b_ false)=C at *;clear m4 c f u afO j0 j1 o0;have hq:({ q with L9:=q.L9.set m { y with up:=false } } :af).pure=gL N false q.pure:=by show ({ q.pure with L9:=q.L9.set m { y with up:=false } } :aE)=_; unfold gL; rw [jF (num:=fun x:aB=>x.id) (db HR.I.1.L9).2 HM.I.1 HM.I.2.1]; rfl
 have Hv:af.cells ({ q with L9:=q.L9.set m { y with up:=false } } :af)=q.cells:=by unfold af.cells; simp
 have hr2:aQ (gL N false q.pure):=kw HR.I.1;rw [<- hq] at hr2;have Mb:=bB (n:=n) 0 S.I.fr.own S.I.low hr2 HR.I.2.1 Zcz;rw [hq,Hv] at Mb;clear hq Hv hr2;exact Zb4
def Ey (q:af) (n bj:Nat) (x:ao) (bC:Int) (o:dN) (w:w_) (h:ap w bj q) (hb:bj<=w.heap.size) (hr:aQ q.pure) (hx:q.L8[n]? =o_ x) (hs:x.Md=1) (hn:q.next<=999999990) (eu:0<=bC/\bC<=1000000000) (ho:kc o=true) (hk:o.1=5):
  k_ J3 89 #[a_ q.cells,i_ j_ n,a_ (j9 o),i_ j_ bC] w (jH w bj q (dE o bC x.id q.pure)):=by
 obtain ⟨-,f1,f2,f3,f4⟩:=dv ho;have hM:=bz.1 f2;obtain ⟨k,N,M,s⟩:=o;simp only at hk hM f1 f3 f4;subst hk;have HR:=aA (SD hr hx hs hn eu hM);have HF:=aA (dW hr);clear f2 hr hx hs hn eu hM ho;have S:=aA (Xf.start (o:=(5,N,M,s)) h hb);clear h hb
 go_enter func89,ntmps89
 go_upto_region 1 with fail;generalize ((w.alloc (c_ q.cells 31)).alloc (c_ (j9 (5,N,M,s)) 45)).alloc (c_ ar 31)=A at *;obtain ⟨-,o1,-,-⟩:=S.I.op.cells;simp only at o1;have Mb:=lw q N A Zcx S.I.fr.own.at;go_wp2_with (refine eT _ S.I.fr.box ?_);refine Mb.mono ?_;clear Mb;rintro e A2 ⟨rfl,hb2⟩;replace S:=aA (S.I.reads hb2);clear hb2 o1;generalize place (q.aj.map (fun x=>x.id)) N 0=z0 at *;obtain ⟨o0,o1,-,-⟩:=S.I.op.cells;simp only at o0 o1;have hpf:=ef (num:=fun x:aB=>x.id) N q.L9 0;have Mb:=ml q N A2 Zcx S.I.fr.own.at;generalize place (q.L9.map (fun x=>x.id)) N 0=z at *;go_wp2_with (refine eT _ S.I.fr.box ?_);refine Mb.mono ?_;clear Mb;rintro e A3 ⟨rfl,hb2⟩;replace S:=aA (S.I.reads hb2);clear hb2 o0 o1;obtain ⟨o0,o1,-,-⟩:=S.I.op.cells;simp only at o0 o1;rcases hpf with ⟨hz,hf⟩ | ⟨m,y,hz,hm,hid,hf⟩
 .subst hz
  have HE:bN (dE (5,N,M,s) bC x.id q.pure=bu 3 x.id q.pure):=by show dE (5,N,M,s) bC x.id q.pure=_; unfold dE; rw [show cg (fun x:aB=>x.id) N q.pure.L9=n_ from hf]
  exact Zb2
 rw [Li] at hz;subst hz;have afO:decide ((m:Int) < 0)=false:=decide_eq_false zo;have HM:bN (q.L9[m]? =o_ y/\y.id=N/\cg (fun x:aB=>x.id) N q.L9=o_ y):=⟨hm,hid,hf⟩
 have hml:=(Lj.1 hm).1;have j0:(0:Int)<=(m:Int):=zo
 have j1:(m:Int) < (q.L9.length:Int):=zo
 obtain ⟨Y5,iE,hat⟩:=j4 S.I.fr.own.at.2.2.1 hm;have m4:=S.I.fr.box.cells.2.2.2.2.1;rw [iE] at m4;have HG:bN (q.ay=o_ ⟨Y5,0,n_⟩):=iE;have HE:bN (dE (5,N,M,s) bC x.id q.pure=bu 0 x.id (ff (fun y=>y) 4 N (gL N true q.pure))):=by show dE (5,N,M,s) bC x.id q.pure=_; unfold dE; rw [show cg (fun x:aB=>x.id) N q.pure.L9=o_ y from HM.I.2.2]; rfl
 clear o1;clear hm hid hf hml hat iE;obtain ⟨s1,⟨u,c⟩,f⟩:=rv (n:=m) (j:=1) (v:=b_ true) (y:= { y with up:=true }) S.I.fr.own HM.I.1 HG.I (by decide) rfl;replace S:=aA (S.I.call s1);clear s1;go_upto_region 20 with fail;generalize A3.setCell ⟨Y5,m * 2+1,n_⟩ (b_ true)=C at *;clear m4 c f u afO j0 j1 o0;have hq:({ q with L9:=q.L9.set m { y with up:=true } } :af).pure=gL N true q.pure:=by show ({ q.pure with L9:=q.L9.set m { y with up:=true } } :aE)=_; unfold gL; rw [jF (num:=fun x:aB=>x.id) (db HR.I.1.L9).2 HM.I.1 HM.I.2.1]; rfl
 have Hv:af.cells ({ q with L9:=q.L9.set m { y with up:=true } } :af)=q.cells:=by unfold af.cells; simp
 have hr2:aQ (gL N true q.pure):=kw HR.I.1;obtain ⟨q1,hq1⟩: ∃ q1:af,q1= { q with L9:=q.L9.set m { y with up:=true } } :=⟨_,rfl⟩
 rw [<- hq1] at hq Hv S;rw [<- hq] at hr2;have HQ:bN (q1.pure=gL N true q.pure/\q1.cells=q.cells/\aQ q1.pure/\q1.L8[n]? =o_ x/\q1.next<=999999990):=⟨hq,Hv,hr2,by rw [hq1]; exact HR.I.2.1,by rw [hq1]; exact HR.I.2.2.2.1⟩
 have Mb:=ij q1 4 N C (by have:=(dW HQ.I.2.2.1).1; omega) S.I.fr.own.at;rw [Hv] at Mb;clear hq Hv hr2 hq1;obtain ⟨-,o1,-,-⟩:=S.I.op.cells;simp only at o1;go_wp2_with (refine eT _ S.I.fr.box ?_);refine Mb.mono ?_;clear Mb o1;rintro e afl ⟨⟨z,rfl,gV⟩,hb2⟩;replace S:=aA (S.I.reads hb2);clear hb2;have afW:bN (Xf w bj q q1 q1 (5,N,M,s) afl):=⟨⟨by have h5:=S.I.fr.box; unfold av at h5 ⊢; exact h5.trans (congrArg (fun c=>o_ (Obj.cells c 31 (0,0))) HQ.I.2.1.symm),S.I.fr.own,S.I.fr.kept,S.I.fr.far,S.I.fr.lo,S.I.fr.sz⟩,S.I.op,S.I.an⟩
 have HI:=aA (If.start (f:=fun y=>y) (n:=n) (x:=x.toaD) HQ.I.2.2.1 (mj HQ.I.2.2.2.1) HQ.I.2.2.2.2 gV);rw [HQ.I.1] at HI;clear gV S;go_wp2_with fail
 go_loopg [11] ((gL N true q.pure).L8.filter (ie 4 N)).length (fun k b wr=> ∃ (qk:af) (z:Int),b=i_ j_ z/\bN (If (fun y=>y) 4 N (ff (fun y=>y) 4 N (gL N true q.pure)) n x.toaD k qk z/\Xf w bj q qk qk (5,N,M,s) wr))
 case atStart=>exact ⟨q1,z,rfl,HI.I,afW.I⟩
 case round=>
  obtain ⟨qk,z,rfl,HK⟩:=hrel;have S:=aA HK.I.2;rcases pp HK.I.1.best with ⟨hz,hw⟩ | ⟨i,v,hz,hi,hw⟩
  .have afO:decide (z>=0)=false:=decide_eq_false zo
   obtain ⟨x2,hx2,sw⟩:=tQ HK.I.1.pos;have HT:bN (bu 0 x2.id qk.pure=dE (5,N,M,s) bC x.id q.pure):=by show bu 0 x2.id qk.pure=_; rw [HE.I,<- HK.I.1.same,qO hw,show x2.id=x.id from congrArg aD.id sw]
   have Mb:=bB (n:=n) 0 S.I.fr.own S.I.low HK.I.1.r hx2 Zcy;clear hz hw hx2 sw;go_wp2_with (refine eT _ S.I.fr.box ?_);refine Mb.mono ?_;clear Mb;rintro e A2 ⟨q2,rfl,hp,ht⟩;replace S:=aA (S.I.call ht);have HP:bN (q2.pure=_):=hp;clear hp ht;go_wp2_with (refine ec _ _ q2.cells S.I.an ?_);refine gZ results89 S.I.an ?_;exact ⟨q2,rfl,HP.I.trans HT.I,S.I.done _⟩
  subst hz;have afO:decide ((i:Int)>=0)=true:=decide_eq_true zo;have HW:bN (jl 4 N qk.pure.L8=o_ v.toaD/\qk.L8[i]? =o_ v/\v.Md=4):=⟨hw,hi,(ft hw).2.1⟩
  clear hw hi;have Mb:=lP (n:=i) S.I.fr.own S.I.low HK.I.1.r HW.I.2.1 ZcI (by have:=HK.I.1.nx; omega);go_wp2_with (refine eT _ S.I.fr.box ?_);refine Mb.mono ?_;clear Mb afO;rintro e D ⟨q2,rfl,hp,ht⟩;replace S:=aA (S.I.call ht);have HJ:=aA (HK.I.1.step (q2:=q2) HR.I.2.2.1 ⟨by decide,by decide⟩ (.inl rfl) HW.I.1 hp);clear hp ht;have S2:=aA S.I.put;go_upto_region 22 with (refine ec _ _ q2.cells S.I.fr.box ?_);generalize D.setRow w.heap.size q2.cells=af3 at *;clear S;have S:=S2;clear S2;obtain ⟨-,o1,-,-⟩:=S.I.op.cells;simp only at o1;have Mb:=ij q2 4 N af3 (by have:=(dW HJ.I.2.2.1).1; omega) S.I.fr.own.at;go_wp2_with (refine eT _ S.I.fr.box ?_);refine Mb.mono ?_;clear Mb o1;rintro e afY ⟨⟨z2,rfl,gV⟩,hb2⟩;exact Zas
end Go.Proofs.YtfncpmaefninjaaGreatDoor

namespace Go.Proofs.YtfncpmaefninjaaGreatDoor
open Go.Maps
attribute [local go_sem ↓] Kc Kd
def Aa {p:aE} {y:aD} {N:Int} (h:aQ p) (hf:cg (fun x:aD=>x.id) N p.L8=o_ y) (h0:y.Md=0) (hn:p.next<=999999990):aQ (py N p):=by
 have hnx:=bz.1 h.next;refine h.ju (nx:=p.next+1) (f:=fun y=> { y with Md:=1,RU:=p.next }) (fun _=>rfl) ⟨zo,zo⟩ fun z hz hi=> ?_
 have e:=only h.L8 hf hz hi;subst e;obtain ⟨-,q1,q2,q3⟩:=h.proc hz;have q4:=iF q1;rw [fG,J7] at q1;have q5:=q1.2;unfold bO at q5;rw [if_pos h0] at q5;simp only [J7,decide_eq_true_eq] at q5;obtain ⟨⟨⟨⟨⟨a1,a2⟩,a3⟩,a4⟩,a5⟩,a6⟩:=q5;have q6:jm z.prog=true:=by
  unfold jY at q4;simp only [J7] at q4;exact q4.1.1.1.2
 refine ⟨?_,?_,rfl,.inr (.inr rfl)⟩
 .exact Zbe
 .unfold fF
  rw [Kb];exact ZaO
def sP {q q2:af} {n:Nat} {k nx:Int} {x:ao} {f:aD->aD} (hx:q.L8[n]? =o_ x) (hk: ¬ x.id=k) (hp:q2.pure= { q.pure with next:=nx,L8:=ce k f q.pure.L8 }): ∃ x2,q2.L8[n]? =o_ x2/\x2.toaD=x.toaD:=
 tQ (by rw [hp]; exact ym (mj hx) hk)
def A0 {q q2:af} {n:Nat} {N:Int} {x:ao} {y:aD} (hr:aQ q.pure) (hx:q.L8[n]? =o_ x) (hs:x.Md=1) (hf:cg (fun x:aD=>x.id) N q.pure.L8=o_ y) (h0:y.Md=0) (hn:q.next<=999999990) (hp:q2.pure=py N q.pure):
  aQ q2.pure/\ ∃ x2,q2.L8[n]? =o_ x2/\x2.toaD=x.toaD:=by
 refine ⟨by rw [hp]; exact Aa hr hf h0 hn,sP hx (fun e=> ?_) hp⟩
 have:=only hr.L8 hf (iu hx) e
 rw [<- this] at h0;have h2:x.toaD.Md=1:=hs;omega
def BU (q:af) (n bj:Nat) (x:ao) (o:dN) (w:w_) (h:ap w bj q) (hb:bj<=w.heap.size) (hr:aQ q.pure) (hx:q.L8[n]? =o_ x) (hs:x.Md=1) (hn:q.next<=999999990) (ho:kc o=true) (hk:o.1=15):
  k_ J3 93 #[a_ q.cells,i_ j_ n,a_ (j9 o)] w (jH w bj q (jU o x.id q.pure)):=by
 obtain ⟨-,f1,f2,f3,f4⟩:=dv ho;have hM:=bz.1 f2;obtain ⟨k,N,M,s⟩:=o;simp only at hk hM f1 f3 f4;subst hk;have HR:bN (aQ q.pure/\q.L8[n]? =o_ x/\x.Md=1/\q.next<=999999990/\(-1<=M/\M<=1000)):=⟨hr,hx,hs,hn,hM⟩
 have HF:=aA (dW hr);clear f2 hr hx hs hn hM ho;have S:=aA (Xf.start (o:=(15,N,M,s)) h hb);clear h hb
 go_enter func93,ntmps93
 go_upto_region 1 with fail;generalize ((w.alloc (c_ q.cells 31)).alloc (c_ (j9 (15,N,M,s)) 45)).alloc (c_ ar 31)=A at *;obtain ⟨-,o1,-,-⟩:=S.I.op.cells;simp only at o1;have hpf:=ef (num:=fun x:ao=>x.id) N q.L8 0;have Mb:=lS q N A Zcx S.I.fr.own.at;generalize place (q.L8.map (fun x=>x.id)) N 0=z at *;go_wp2_with (refine eT _ S.I.fr.box ?_);refine Mb.mono ?_;clear Mb;rintro e A2 ⟨rfl,hb2⟩;replace S:=aA (S.I.reads hb2);clear hb2 o1;have hfm:=lJ (num:=fun x:aD=>x.id) (je:=fun x:ao=>x.id) (g:=fun x:ao=>x.toaD) (fun _=>rfl) (id:=N) q.L8;rcases hpf with ⟨hz,hf⟩ | ⟨m,y,hz,hm,hid,hf⟩
 .subst hz
  rw [hf] at hfm;have HE:bN (jU (15,N,M,s) x.id q.pure=bu 3 x.id q.pure):=by show jU (15,N,M,s) x.id q.pure=_; unfold jU; rw [show cg (fun x:aD=>x.id) N q.pure.L8=n_ from hfm]
  exact Zco
 rw [hf] at hfm;rw [Li] at hz;subst hz;have afO:decide ((m:Int) < 0)=false:=decide_eq_false zo;have HM:bN (q.L8[m]? =o_ y/\y.id=N/\cg (fun x:aD=>x.id) N q.pure.L8=o_ y.toaD):=⟨hm,hid,hfm⟩
 have hml:=(Lj.1 hm).1;have j0:(0:Int)<=(m:Int):=zo
 have j1:(m:Int) < (q.L8.length:Int):=zo
 obtain ⟨gp,l9,hat⟩:=cn S.I.fr.own.at.1 hm;have HG:bN (q.aN=o_ ⟨gp,0,n_⟩):=l9;obtain ⟨o0,-,-,-⟩:=S.I.op.cells;simp only at o0;have m2:=S.I.fr.box.cells.2.2.1;rw [l9] at m2;have d3:=hat.2.2.2.1;clear hm hid hf hfm hml hat l9;by_cases h0:y.Md=0;rotate_left
 .have e1:(y.Md == 0)=false:=by simp [h0]
  have HE:bN (jU (15,N,M,s) x.id q.pure=bu 1 x.id q.pure):=by show jU (15,N,M,s) x.id q.pure=_; unfold jU; rw [show cg (fun x:aD=>x.id) N q.pure.L8=o_ y.toaD from HM.I.2.2]; exact if_neg h0
  exact Zcp
 have e1:(y.Md == 0)=true:=by simp [h0]
 have HE:bN (jU (15,N,M,s) x.id q.pure=bu 0 x.id (py N q.pure)):=by show jU (15,N,M,s) x.id q.pure=_; unfold jU; rw [show cg (fun x:aD=>x.id) N q.pure.L8=o_ y.toaD from HM.I.2.2]; exact if_pos h0
 have HN:bN (y.Md=0):=h0;clear h0;obtain ⟨s1,⟨u,c⟩,f⟩:=eY (n:=m) (j:=3) (v:=i_ j_ 1) (y:= { y with Md:=1 }) S.I.fr.own HM.I.1 HG.I ⟨rfl,rfl,rfl⟩ (by decide) rfl;replace S:=aA (S.I.call s1);clear s1;go_upto_region 9 with fail;generalize A2.setCell ⟨gp,m * 12+3,n_⟩ (i_ j_ 1)=C at *;clear m2 d3 c f u afO e1 o0 j0 j1;have hq:({ q with L8:=q.L8.set m { y with Md:=1 } } :af).pure= { q.pure with next:=q.next,L8:=ce y.id (fun z=> { z with Md:=1 }) q.pure.L8 } :=g7 (nx:=q.next) HR.I.1.kW HM.I.1 rfl;have Mb:=oT (n:=m) (x:= { y with Md:=1 }) S.I.fr.own S.I.low (us HR.I.1.kW HM.I.1 rfl) (by show (q.L8.set m _)[m]? =_; rw [LU (Lj.1 HM.I.1).1]) ⟨by have h5:=bz.1 HR.I.1.next; have:q.pure.next=q.next:=rfl; show 0<=q.next; omega,by have:=HR.I.2.2.2.1; show q.next<=_; omega⟩;rw [jd (nx:=q.next),hq] at Mb;have HS:bN ({ q.pure with next:=q.next+1,L8:=ce y.id (fun z=> { z with RU:=q.next }) (ce y.id (fun z=> { z with Md:=1 }) q.pure.L8) } =py N q.pure):=by show _=py N q.pure; rw [pm (by intro _; rfl),HM.I.2.1]; rfl
 clear hq;go_wp2_with (refine eT _ S.I.fr.box ?_);refine Mb.mono ?_;clear Mb;rintro e afl ⟨q2,rfl,hp,ht⟩;replace S:=aA (S.I.call ht);replace hp:=hp.trans HS.I;obtain ⟨hr2,x2,hx2,sw⟩:=A0 HR.I.1 HR.I.2.1 HR.I.2.2.1 HM.I.2.2 HN.I HR.I.2.2.2.1 hp;have Mb:=bB (n:=n) 0 S.I.fr.own S.I.low hr2 hx2 Zcy;rw [show x2.id=x.id from congrArg aD.id sw,hp,<- HE.I] at Mb;clear hp ht hr2 hx2 sw;go_wp2_with fail;refine Mb.mono ?_;clear Mb;rintro e C22 ⟨q3,rfl,hp,ht⟩;replace S:=aA (S.I.call ht);have HP:bN (q3.pure=_):=hp;clear hp ht;go_wp2_with (refine ec _ _ q3.cells S.I.an ?_);refine gZ results93 S.I.an ?_;exact ⟨q3,rfl,HP.I,S.I.done _⟩
def C9 (q:af) (n bj:Nat) (x:ao) (o:dN) (w:w_) (h:ap w bj q) (hb:bj<=w.heap.size) (hr:aQ q.pure) (hx:q.L8[n]? =o_ x) (hs:x.Md=1) (hn:q.next<=999999990) (ho:kc o=true) (hk:o.1=16):
  k_ J3 93 #[a_ q.cells,i_ j_ n,a_ (j9 o)] w (jH w bj q (lg o x.id q.pure)):=by
 obtain ⟨-,f1,f2,f3,f4⟩:=dv ho;have hM:=bz.1 f2;obtain ⟨k,N,M,s⟩:=o;simp only at hk hM f1 f3 f4;subst hk;have HR:bN (aQ q.pure/\q.L8[n]? =o_ x/\x.Md=1/\q.next<=999999990/\(-1<=M/\M<=1000)):=⟨hr,hx,hs,hn,hM⟩
 have HF:=aA (dW hr);clear f2 hr hx hs hn hM ho;have S:=aA (Xf.start (o:=(16,N,M,s)) h hb);clear h hb
 go_enter func93,ntmps93
 go_upto_region 1 with fail;generalize ((w.alloc (c_ q.cells 31)).alloc (c_ (j9 (16,N,M,s)) 45)).alloc (c_ ar 31)=A at *;obtain ⟨-,o1,-,-⟩:=S.I.op.cells;simp only at o1;have hpf:=ef (num:=fun x:ao=>x.id) N q.L8 0;have Mb:=lS q N A Zcx S.I.fr.own.at;generalize place (q.L8.map (fun x=>x.id)) N 0=z at *;go_wp2_with (refine eT _ S.I.fr.box ?_);refine Mb.mono ?_;clear Mb;rintro e A2 ⟨rfl,hb2⟩;replace S:=aA (S.I.reads hb2);clear hb2 o1;have hfm:=lJ (num:=fun x:aD=>x.id) (je:=fun x:ao=>x.id) (g:=fun x:ao=>x.toaD) (fun _=>rfl) (id:=N) q.L8;rcases hpf with ⟨hz,hf⟩ | ⟨m,y,hz,hm,hid,hf⟩
 .subst hz
  rw [hf] at hfm;have HE:bN (lg (16,N,M,s) x.id q.pure=bu 3 x.id q.pure):=by show lg (16,N,M,s) x.id q.pure=_; unfold lg; rw [show cg (fun x:aD=>x.id) N q.pure.L8=n_ from hfm]
  exact Zco
 rw [hf] at hfm;rw [Li] at hz;subst hz;have afO:decide ((m:Int) < 0)=false:=decide_eq_false zo;have HM:bN (q.L8[m]? =o_ y/\y.id=N/\cg (fun x:aD=>x.id) N q.pure.L8=o_ y.toaD):=⟨hm,hid,hfm⟩
 have hml:=(Lj.1 hm).1;have j0:(0:Int)<=(m:Int):=zo
 have j1:(m:Int) < (q.L8.length:Int):=zo
 obtain ⟨gp,l9,hat⟩:=cn S.I.fr.own.at.1 hm;have HG:bN (q.aN=o_ ⟨gp,0,n_⟩):=l9;obtain ⟨o0,-,-,-⟩:=S.I.op.cells;simp only at o0;have m2:=S.I.fr.box.cells.2.2.1;rw [l9] at m2;have d3:=hat.2.2.2.1;clear hm hid hf hfm hml hat l9;by_cases h0:y.Md=0
 .have e1:(y.Md == 0)=true:=by simp [h0]
  have HE:bN (lg (16,N,M,s) x.id q.pure=bu 1 x.id q.pure):=by show lg (16,N,M,s) x.id q.pure=_; unfold lg; rw [show cg (fun x:aD=>x.id) N q.pure.L8=o_ y.toaD from HM.I.2.2]; exact if_pos h0
  exact Zcp
 have e1:(y.Md == 0)=false:=by simp [h0]
 have HE:bN (lg (16,N,M,s) x.id q.pure=if N=x.id then ot x.id q.pure else bu 0 x.id (ot N q.pure)):=by show lg (16,N,M,s) x.id q.pure=_; unfold lg; rw [show cg (fun x:aD=>x.id) N q.pure.L8=o_ y.toaD from HM.I.2.2]; exact if_neg h0
 clear h0;go_upto_region 10 with fail;clear m2 d3 afO e1 o0;replace S:=aA (S.I.reads (Kp _ _).drew);have HT:bN (∀ w1,Xf w bj q q q (16,N,M,s) w1->Ba w.heap.size gp m q y w1):=fun w1 h1=>by
  obtain ⟨g,hg,hat⟩:=cn h1.fr.own.at.1 HM.I.1;rw [HG.I] at hg;cases hg;exact ⟨h1.m2 HG.I,hat⟩
 refine eD (fun w1=>Ba w.heap.size gp m q y w1/\bN (Xf w bj q q q (16,N,M,s) w1)) 10 Zcq ⟨HT.I _ S.I,S⟩ ?_;clear S
 iterate 8 (refine ly 11 (v:= ?_) (o_ _) rfl rfl Zcq (fun _ _ _ h=>h) (bV Zcq ?_) ?_; rotate_left; (intro w0 hS0; obtain ⟨⟨o2,d0,d1,d2,d3,d4,d5,d6,d7,d8,d9,tH,tS⟩,hH⟩:=hS0; go_simp; try with_reducible rfl); simp only [pt,sb,s0,s1])
 refine ly 11 (v:=a_ (sy y)) (o_ _) rfl rfl Zcq (fun _ _ _ h=>h) (iZ (f:=124) (args:= #[a_ y.row]) Zcq ?_ ?_) ?_
 .intro w0 hS0
  obtain ⟨⟨o2,d0,d1,d2,d3,d4,d5,d6,d7,d8,d9,tH,tS⟩,hH⟩:=hS0
  exact BC
 .intro w0 hS0
  refine (mN y w0).mono ?_;rintro e w2 ⟨rfl,hb2⟩;have h6:=aA (hS0.2.I.reads hb2);exact ⟨rfl,HT.I _ h6.I,h6⟩
 simp only [pt,sb,s0,s1]
 (refine ly 11 (v:= ?_) (o_ _) rfl rfl Zcq (fun _ _ _ h=>h) (bV Zcq ?_) ?_; rotate_left; (intro w0 hS0; obtain ⟨⟨o2,d0,d1,d2,d3,d4,d5,d6,d7,d8,d9,tH,tS⟩,hH⟩:=hS0; go_simp; try with_reducible rfl); simp only [pt,sb,s0,s1])
 refine fL rfl Zcq Zcq Zcq ?_;intro B cm;have S:=cm.2;obtain ⟨oC,hto⟩:=GC S.I.fr.own HM.I.1 HG.I;clear cm HT;replace S:=aA (S.I.call hto);clear hto;refine wp_store_mid 41 _ _ rfl gp (m * 12) (sy y) rfl rfl oC Zcq Zcq ?_;generalize B.setCells gp (m * 12) (sy y).toList=C at *;clear oC;obtain ⟨q1,hq1⟩: ∃ q1:af,q1= { q with L8:=q.L8.set m (sW y) } :=⟨_,rfl⟩
 have HQ:bN (q1.pure=ot N q.pure/\q1.cells=q.cells/\aQ q1.pure):=by
  have hq:q1.pure=ot N q.pure:=by rw [hq1,<- HM.I.2.1]; exact g7 (nx:=q.next) HR.I.1.kW HM.I.1 rfl
  exact ⟨hq,by rw [hq1]; exact jd (nx:=q.next),by rw [hq]; exact nG HR.I.1⟩
 rw [<- hq1] at S;clear hq1;have k1:=(Lj.1 HR.I.2.1).1;by_cases hmn:m=n
 .have e2:((m:Int) == (n:Int))=true:=by simp [hmn]
  have HT:bN (q1.pure=lg (16,N,M,s) x.id q.pure):=by
   have e:y=x:=by have h5:=HM.I.1; rw [hmn,HR.I.2.1] at h5; exact (KC h5).symm
   have hN:N=x.id:=by rw [<- HM.I.2.1,e]
   show q1.pure=_
   rw [HE.I,if_pos hN,HQ.I.1,hN]
  clear hmn k1;go_wp2_with (first | (refine eT _ S.I.fr.box ?_) | (refine ec _ _ q.cells S.I.an ?_));refine gZ results93 S.I.an ?_;exact ⟨q1,by rw [HQ.I.2.1],HT.I,S.I.done _⟩
 have e2:((m:Int) == (n:Int))=false:=by simp; omega
 have hne: ¬ x.id=N:=fun e=>by
  have h5:=only HR.I.1.L8 HM.I.2.2 (iu HR.I.2.1) e;have h6:=HR.I.1.kW;rw [P8] at h6;obtain ⟨i1,i2⟩:=Lj.1 (mj HR.I.2.1);obtain ⟨i3,i4⟩:=Lj.1 (mj HM.I.1);rcases P9 m n with hlt | heq | hgt
  .have:=h6 m n i3 i1 hlt; rw [i2,i4,h5] at this; omega
  .exact hmn heq
  .have:=h6 n m i1 i3 hgt; rw [i2,i4,h5] at this; omega
 have HT:bN (lg (16,N,M,s) x.id q.pure=bu 0 x.id (ot N q.pure)):=HE.I.trans (if_neg fun e=>hne e.symm);obtain ⟨x2,hx2,sw⟩:=sP (nx:=q.pure.next) (f:=j7) HR.I.2.1 hne HQ.I.1;have Mb:=bB (n:=n) 0 S.I.fr.own S.I.low HQ.I.2.2 hx2 Zcy;rw [show x2.id=x.id from congrArg aD.id sw,HQ.I.1,HQ.I.2.1,<- HT.I] at Mb;clear hmn hne hx2 sw k1;go_wp2_with (refine eT _ S.I.fr.box ?_);refine Mb.mono ?_;clear Mb;rintro e A2 ⟨q2,rfl,hp,ht⟩;replace S:=aA (S.I.call ht);have HP:bN (q2.pure=_):=hp;clear hp ht;go_wp2_with (refine ec _ _ q2.cells S.I.an ?_);refine gZ results93 S.I.an ?_;exact ⟨q2,rfl,HP.I,S.I.done _⟩
end Go.Proofs.YtfncpmaefninjaaGreatDoor

namespace Go.Proofs.YtfncpmaefninjaaGreatDoor
open Go.Maps
attribute [local go_sem ↓] Kc Kd
structure DZ (bC:Int) (bj:Nat) (w:w_) (q0:af) (k:Nat) (q:af) (wr:w_):Prop where
 box:av wr w.heap.size q
 mK:wr.heap[w.heap.size+1]? =o_ (c_ ar 31)
 own:ap wr bj q
 cd:B_ bj w wr
 wk:af9 bC q.pure
 same:gj bC q.pure=gj bC q0.pure
 cnt:(lF bC q.pure.L8).length=k
 short: ∀ x∈q.L8,x.prog.length<=1048576
 low: ∀ g∈q.Mc,g < w.heap.size
def un {q:af} {gs:Nat} (h:q.aN=o_ ⟨gs,0,n_⟩):gs∈q.Mc:=by
 unfold af.Mc;rw [h];simp [blk]
def Eb {bC:Int} {q:af} {n:Nat} {y:ao} {code:Int} (hw:af9 bC q.pure) (hy:q.L8[n]? =o_ y) (hp:q.pure.L8[n]? =o_ y.toaD) (hc:mL y.toaD=code) (hs: ∀ x∈q.L8,x.prog.length<=1048576):
  ({ q with next:=gf q.next y.toaD,L8:=q.L8.set n (pF q.next code y) } :af).pure=gu q.pure y.toaD/\({ q with next:=gf q.next y.toaD,L8:=q.L8.set n (pF q.next code y) } :af).Mc=q.Mc/\(∀ x∈({ q with next:=gf q.next y.toaD,L8:=q.L8.set n (pF q.next code y) } :af).L8,x.prog.length<=1048576):=by
 refine ⟨?_,?_,fun x hx=> ?_⟩
 .unfold gu
  rw [rp hw.kW hp rfl,hc]
  show ({ q.pure with next:=gf q.next y.toaD,L8:=(q.L8.set n (pF q.next code y)).map (·.toaD) } :aE)=_
  rw [PN];rfl
 .unfold af.Mc
  simp only [re hy (show (pF q.next code y).aY=y.aY from rfl)]
 .rcases PO hx with h5 | h5
  .exact hs x h5
  .rw [h5]
   show (iY q.next code y.toaD).prog.length<=_
   rw [(rD _ _ _).2];exact hs y (KA hy)
def ti (q0:af) (bC:Int) (bj:Nat) (w:w_) (h:ap w bj q0) (hb:bj<=w.heap.size) (hk:af9 bC q0.pure) (hs: ∀ x∈q0.L8,x.prog.length<=1048576):
  k_ J3 43 #[a_ q0.cells,i_ j_ bC] w fun e w'=> ∃ q:af,e=r_ (a_ q.cells)/\q.pure=gj bC q0.pure/\ap w' bj q/\B_ bj w w':=by
 have b1:B_ w.heap.size w ((w.alloc (c_ q0.cells 31)).alloc (c_ ar 31)):=dT _ _ _;have HB:bN (DZ bC bj w q0 (lF bC q0.pure.L8).length q0 ((w.alloc (c_ q0.cells 31)).alloc (c_ ar 31))/\bj<=w.heap.size):=⟨⟨(cZ _ _ _).1,(cZ _ _ _).2,h.below b1,b1.mono hb,hk,rfl,rfl,hs,fun g hg=>(h.lt g hg).2⟩,hb⟩
 clear h hb hk hs b1;unfold af.cells at *
 go_enter func43,ntmps43
 go_wp2_with fail;generalize (w.alloc (c_ #[i_ j_ q0.id,i_ j_ q0.next,s_ q0.aN q0.L8.length q0.aW,s_ q0.bc q0.aj.length q0.bF,s_ q0.ay q0.L9.length q0.aO,s_ q0.ax q0.ag.length q0.aP,s_ q0.am q0.ae.length q0.aG,s_ q0.aK q0.ai.length q0.aV] 31)).alloc (c_ ar 31)=W at *
 go_loopg [] (lF bC q0.pure.L8).length (fun k wr=> ∃ q:af,bN (DZ bC bj w q0 k q wr))
 case atStart=>exact ⟨q0,HB.I.1⟩
 case round=>
  obtain ⟨q,HO⟩:=hrel
  rename w_=>W1
  have hql:q.L8.length<=6:=by have h5:=HO.I.wk.low; simpa [af.pure] using h5
  go_wp2_with fail
  go_loopw [5,6] (fun b i wr=> ∃ (k:Nat) (z:Int),k<=q.L8.length/\i=i_ j_ k/\b=i_ j_ z/\bN (eN l8 (og bC) q.pure.L8 k z/\B_ W1.heap.size W1 wr)) (fun _ i _=>q.L8.length - (Go.RowKit.intOf i).toNat)
  case atStart=>exact ⟨0,-1,Ky _,rfl,rfl,⟨eN.start _ _ _,Kp _ _⟩⟩
  case round=>
   obtain ⟨k,z,hk,rfl,rfl,HA⟩:=hrel;have HW:bN (av wr w.heap.size q/\ap wr bj q):=⟨HO.I.box.below HA.I.2,HO.I.own.below HA.I.2⟩
   obtain ⟨m0,m1,m2,m3,m4,m5,m6,m7⟩:=HW.I.1.cells;by_cases hlt:k < q.L8.length
   .have i0:(0:Int)<=(k:Int):=zo
    have i1:(k:Int) < (q.L8.length:Int):=zo
    clear m0 m1 m3 m4 m5 m6 m7;obtain ⟨x,hx⟩: ∃ x,q.L8[k]? =o_ x:=⟨_,Kz hlt⟩
    have HX:bN (q.L8[k]? =o_ x/\q.pure.L8[k]? =o_ x.toaD):=⟨hx,by show (q.L8.map (·.toaD))[k]? =_; rw [Kk,hx]; rfl⟩
    obtain ⟨gs,ha,hat⟩:=cn HW.I.2.at.1 hx;have HG:bN (q.aN=o_ ⟨gs,0,n_⟩):=ha;rw [ha] at m2;obtain ⟨d0,d1,d2,d3,d4,d5,d6,d7,d8,d9,tH,tS⟩:=hat;clear hx ha;have hgl:w.heap.size < wr.heap.size:=(J2.1 HW.I.1).1;have HN:bN (av (wr.alloc (c_ x.row 41)) w.heap.size q/\ap (wr.alloc (c_ x.row 41)) bj q/\jx (wr.alloc (c_ x.row 41)) wr.heap.size x/\B_ W1.heap.size W1 (wr.alloc (c_ x.row 41))):=⟨HW.I.1.below ((Kp _ _).alloc (Ki _) _),HW.I.2.below ((Kp _ _).alloc (Ki _) _),Kj _ _,HA.I.2.alloc HA.I.2.size _⟩
    go_wp2_with fail;generalize wr.alloc (c_ x.row 41)=W5 at *;generalize wr.heap.size=X at *;clear d0 d1 d2 d3 d4 d5 d6 d7 d8 d9 tH tS m2 hgl;obtain ⟨-,-,m2,-⟩:=HN.I.1.cells;rw [HG.I] at m2;obtain ⟨-,-,-,b3,-,-,b6,-⟩:=HN.I.2.2.1.cells;by_cases hs:2<=x.Md;rotate_left
    .have d1:decide (2<=x.Md)=false:=decide_eq_false hs
     have HY:bN (eN l8 (og bC) q.pure.L8 (k+1) z):=HA.I.1.skip HX.I.2 (by show (decide (2<=x.Md) && _)=false; rw [d1]; rfl);clear hs;refine aT (fun w'=>(w'.cell? ⟨w.heap.size,2,n_⟩=o_ (s_ (o_ ⟨gs,0,n_⟩) q.L8.length q.aW)/\w'.cell? ⟨X,3,n_⟩=o_ (i_ j_ x.Md)/\w'.cell? ⟨X,6,n_⟩=o_ (i_ j_ x.Mg))/\bN (B_ W5.heap.size W5 w')) Zcq ⟨⟨m2,b3,b6⟩,(Kp _ _).drew⟩ ?_
     iterate 4 (refine PI ?_)
     iterate 4 (refine nl ?_; simp only [pt,sb,s0,s1])
     exact O_
    have d1:decide (2<=x.Md)=true:=decide_eq_true hs;cases hv:cv x.Mg 1 bC
    .have afp:bN (Ending.returned (b_ (cv x.Mg 1 bC))=Ending.returned (b_ false)):=by show _=_; rw [hv]
     have HY:bN (eN l8 (og bC) q.pure.L8 (k+1) z):=HA.I.1.skip HX.I.2 (by show (_ && cv x.Mg 1 bC)=false; rw [hv,PP]);clear hs hv;refine aT (fun w'=>(w'.cell? ⟨w.heap.size,2,n_⟩=o_ (s_ (o_ ⟨gs,0,n_⟩) q.L8.length q.aW)/\w'.cell? ⟨X,3,n_⟩=o_ (i_ j_ x.Md)/\w'.cell? ⟨X,6,n_⟩=o_ (i_ j_ x.Mg))/\bN (B_ W5.heap.size W5 w')) Zcq ⟨⟨m2,b3,b6⟩,(Kp _ _).drew⟩ ?_
     iterate 7 (refine PI ?_)
     refine cl (b_ false) 27 #[i_ j_ x.Mg,i_ j_ 1,i_ j_ bC] ?_ ?_ ?_
     .intro w0 hS0
      obtain ⟨⟨o2,o3,o6⟩,hH⟩:=hS0
      exact BC
     .exact Y_
     simp only [pt,sb,s0,s1]
     exact O_
    have afp:bN (Ending.returned (b_ (cv x.Mg 1 bC))=Ending.returned (b_ true)):=by show _=_; rw [hv]
    have HF:bN (og bC x.toaD=true):=by show (decide (2<=x.Md) && cv x.Mg 1 bC)=true; rw [hv,d1]; rfl
    clear hs hv;by_cases hz:z < 0
    .have afO:decide (z < 0)=true:=decide_eq_true hz
     have HY:bN (eN l8 (og bC) q.pure.L8 (k+1) k):=HA.I.1.first hz HX.I.2 HF.I;refine aT (fun w'=>(w'.cell? ⟨w.heap.size,2,n_⟩=o_ (s_ (o_ ⟨gs,0,n_⟩) q.L8.length q.aW)/\w'.cell? ⟨X,3,n_⟩=o_ (i_ j_ x.Md)/\w'.cell? ⟨X,6,n_⟩=o_ (i_ j_ x.Mg))/\bN (B_ W5.heap.size W5 w')) Zcq ⟨⟨m2,b3,b6⟩,(Kp _ _).drew⟩ ?_
     iterate 7 (refine PI ?_)
     refine cl (b_ true) 27 #[i_ j_ x.Mg,i_ j_ 1,i_ j_ bC] ?_ ?_ ?_
     .intro w0 hS0
      obtain ⟨⟨o2,o3,o6⟩,hH⟩:=hS0
      exact BC
     .exact Y_
     simp only [pt,sb,s0,s1]
     iterate 5 (refine PI ?_)
     iterate 9 (refine nl ?_; simp only [pt,sb,s0,s1])
     iterate 2 (refine PI ?_)
     exact Z_
    have afO:decide (z < 0)=false:=decide_eq_false hz;obtain ⟨n,y0,hzn,hn,hy0,hbe⟩:=HA.I.1.got hz;subst hzn;have Fm:bN (eN l8 (og bC) q.pure.L8 (k+1) (if l8 x.toaD y0 then (k:Int) else (n:Int))):=eN.next hn hy0 hbe HX.I.2 HF.I;obtain ⟨y,hy,rfl⟩: ∃ y,q.L8[n]? =o_ y/\y.toaD=y0:=by
     have h5:(q.L8.map (·.toaD))[n]? =o_ y0:=hy0;rw [Kk,Kw] at h5;exact h5
    have j0:(0:Int)<=(n:Int):=zo
    have j1:(n:Int) < (q.L8.length:Int):=zo
    obtain ⟨gs2,ha2,g8⟩:=cn HN.I.2.1.at.1 hy;rw [HG.I] at ha2;cases ha2;obtain ⟨-,-,-,-,-,-,y6,-⟩:=g8;clear hy hy0 hbe hz;by_cases hw:x.Mg < y.Mg
    .have af6:decide (x.Mg < y.Mg)=true:=decide_eq_true hw
     have HY:bN (eN l8 (og bC) q.pure.L8 (k+1) k):=by have h5:=Fm.I; rwa [show l8 x.toaD y.toaD=true from af6,if_pos rfl] at h5
     clear hw Fm;refine aT (fun w'=>(w'.cell? ⟨w.heap.size,2,n_⟩=o_ (s_ (o_ ⟨gs,0,n_⟩) q.L8.length q.aW)/\w'.cell? ⟨X,3,n_⟩=o_ (i_ j_ x.Md)/\w'.cell? ⟨X,6,n_⟩=o_ (i_ j_ x.Mg)/\w'.cell? ⟨gs,n * 12+6,n_⟩=o_ (i_ j_ y.Mg))/\bN (B_ W5.heap.size W5 w')) Zcq ⟨⟨m2,b3,b6,y6⟩,(Kp _ _).drew⟩ ?_
     iterate 7 (refine PI ?_)
     refine cl (b_ true) 27 #[i_ j_ x.Mg,i_ j_ 1,i_ j_ bC] ?_ ?_ ?_
     .intro w0 hS0
      obtain ⟨⟨o2,o3,o6,afI⟩,hH⟩:=hS0
      exact BC
     .exact Y_
     simp only [pt,sb,s0,s1]
     iterate 16 (refine PI ?_)
     exact Z_
    .have af6:decide (x.Mg < y.Mg)=false:=decide_eq_false hw
     have HY:bN (eN l8 (og bC) q.pure.L8 (k+1) n):=by have h5:=Fm.I; rwa [show l8 x.toaD y.toaD=false from af6,if_neg Bool.false_ne_true] at h5
     clear hw Fm;refine aT (fun w'=>(w'.cell? ⟨w.heap.size,2,n_⟩=o_ (s_ (o_ ⟨gs,0,n_⟩) q.L8.length q.aW)/\w'.cell? ⟨X,3,n_⟩=o_ (i_ j_ x.Md)/\w'.cell? ⟨X,6,n_⟩=o_ (i_ j_ x.Mg)/\w'.cell? ⟨gs,n * 12+6,n_⟩=o_ (i_ j_ y.Mg))/\bN (B_ W5.heap.size W5 w')) Zcq ⟨⟨m2,b3,b6,y6⟩,(Kp _ _).drew⟩ ?_
     iterate 7 (refine PI ?_)
     refine cl (b_ true) 27 #[i_ j_ x.Mg,i_ j_ 1,i_ j_ bC] ?_ ?_ ?_
     .intro w0 hS0
      obtain ⟨⟨o2,o3,o6,afI⟩,hH⟩:=hS0
      exact BC
     .exact Y_
     simp only [pt,sb,s0,s1]
     iterate 16 (refine PI ?_)
     refine bk Zcq ?_ _;intro w1 cm;have HV:bN (B_ W1.heap.size W1 w1):=HN.I.2.2.2.trans (cm.2.I.mono HN.I.2.2.2.size);clear cm;go_wp2;go_roundw
     case rel=>exact ⟨k+1,n,zo,by go_num,rfl,⟨HY.I,HV.I⟩⟩
     case measure=>simp [Go.RowKit.intOf]; omega
   .have i1: ¬ (k:Int) < (q.L8.length:Int):=zo
    have HE:bN (eN l8 (og bC) q.pure.L8 q.L8.length z):=by have h5:=HA.I.1; rwa [show k=q.L8.length by omega] at h5
    have hfl:q.pure.L8.take q.L8.length=q.pure.L8:=by rw [KF]; simp [af.pure]
    have Ih:bN (wr.heap[w.heap.size+1]? =o_ (c_ ar 31)/\B_ bj w wr):=⟨(HA.I.2.block _ (J2.1 HO.I.mK).1).trans HO.I.mK,HO.I.cd.trans (HA.I.2.mono (by have:=HO.I.cd.size; have:=HB.I.2; omega))⟩
    by_cases hz:z < 0
    .have HD:bN (lZ bC q.pure.L8=n_):=by have h5:=HE.I.none' hz; rwa [hfl] at h5
     have afO:decide (z < 0)=true:=decide_eq_true hz;clear hfl hz;go_wp2_with (refine ec _ _ q.row Ih.I.1 ?_);refine gZ results43 Ih.I.1 ?_;exact ⟨q,rfl,by rw [<- HO.I.same]; exact (Co HD.I).symm,HW.I.2.same fun g hg=>KH _ _ _ _ (by have:=HO.I.low g hg; omega),q_ Ih.I.2 (by have:=HB.I.2; omega) _⟩
    have afO:decide (z < 0)=false:=decide_eq_false hz;obtain ⟨n,y0,hzn,hn,hy0,hbe⟩:=HE.I.got hz;subst hzn;rw [hfl] at hbe;obtain ⟨y,hy,rfl⟩: ∃ y,q.L8[n]? =o_ y/\y.toaD=y0:=by
     have h5:(q.L8.map (·.toaD))[n]? =o_ y0:=hy0;rw [Kk,Kw] at h5;exact h5
    have HD:bN (lZ bC q.pure.L8=o_ y.toaD/\q.L8[n]? =o_ y/\q.pure.L8[n]? =o_ y.toaD):=⟨hbe,hy,hy0⟩
    have j0:(0:Int)<=(n:Int):=zo
    have j1:(n:Int) < (q.L8.length:Int):=zo
    obtain ⟨gs,ha,hat⟩:=cn HW.I.2.at.1 hy;have HG:bN (q.aN=o_ ⟨gs,0,n_⟩):=ha;have d3:=hat.2.2.2.1;rw [ha] at m2;have hdu:=(af9.mem hbe)
    have hst:2<=y.Md:=by have h5:=hdu.2; unfold og at h5; simp only [J7,decide_eq_true_eq] at h5; exact h5.1
    have hop:=HO.I.wk.op y.toaD hdu.1 hst;have hro:=HO.I.wk.room;have hle:=HO.I.short y (KA hy);have Mb:=fun code=>vT q n bj y code wr HW.I.2 (by have:=HO.I.cd.size; have:=HA.I.2.size; have:=HB.I.2; omega) hy hop hle (by have h5:q.pure.next=q.next:=rfl; omega)
    clear hfl hz hbe hy hy0 hat ha hdu hst hop hro hle hn;unfold af.cells at Mb;simp only [HG.I] at Mb;cases e2:(y.Md == 2)
    .skip
     replace Mb:=Mb 2;have HCO:bN (mL y.toaD=2):=by show mL y.toaD=_; unfold mL; rw [if_neg (by simpa using e2)]
     exact i8
    .skip
     replace Mb:=Mb 0;have HCO:bN (mL y.toaD=0):=by show mL y.toaD=_; unfold mL; rw [if_pos (by simpa using e2)]
     exact i8
end Go.Proofs.YtfncpmaefninjaaGreatDoor

namespace Go.Proofs.YtfncpmaefninjaaGreatDoor
open Go.Maps
attribute [local go_sem ↓] Kc Kd
def uy (p:af) (w:w_):k_ J3 28 #[a_ p.cells] w fun e w'=>e=r_ (b_ (decide (p.next<=999999980)))/\B_ w.heap.size w w':=by
 have HB:bN (av (w.alloc (c_ p.cells 31)) w.heap.size p/\B_ w.heap.size w (w.alloc (c_ p.cells 31))):=⟨Kj _ _,(Kp _ _).alloc (Ki _) _⟩
 unfold af.cells at *;obtain ⟨-,m1,-⟩:=HB.I.1.cells
 go_enter func28,ntmps28
 go_wp2;go_ret;exact ⟨rfl,HB.I.2⟩
end Go.Proofs.YtfncpmaefninjaaGreatDoor

namespace Go.Proofs.YtfncpmaefninjaaGreatDoor
open Go.Maps
attribute [local go_sem ↓] Kc Kd
def rz (p:af) (id:Int) (w:w_) (b0:Nat) (hwf:(Lit.int j_ id).wf=true) (qY:p.pure.Small) (h:ap w b0 p):
  k_ J3 74 #[a_ p.cells,i_ j_ id] w fun e w'=>gI w (cB p.pure { p.pure with L9:=cA (·.id) (⟨id,false⟩:aB) p.pure.L9 }) e w':=by
 have HB:bN (av ((w.alloc (c_ p.row 31)).alloc (c_ ar 31)) w.heap.size p/\ap ((w.alloc (c_ p.row 31)).alloc (c_ ar 31)) b0 p/\B_ w.heap.size w ((w.alloc (c_ p.row 31)).alloc (c_ ar 31))/\((w.alloc (c_ p.row 31)).alloc (c_ ar 31)).heap[w.heap.size+1]? =o_ (c_ ar 31)):=by
  exact J_
 have fl:bN (p.Fit/\(∀ x∈p.L8,x.dX)/\p.pure.Small/\(Lit.int j_ id).wf=true):=⟨dV qY,fun x hx=>(cY qY hx).1,qY,hwf⟩
 have hpl:=fl.I.1.short.L9;have hcap:p.L9.length<=p.aO:=nV h.L9;have pd: ∀ g∈p.Mc,g < w.heap.size:=fun g hg=>(h.lt g hg).2
 clear h qY hwf;obtain ⟨m0,m1,m2,m3,m4,m5,m6,m7⟩:=HB.I.1.cells;unfold af.cells
 go_enter func74,ntmps74
 go_wp2_with fail;generalize (w.alloc (c_ p.row 31)).alloc (c_ ar 31)=W at *;clear m0 m1 m2 m3 m4 m5 m6 m7;refine (fR p W fl.I.1 fl.I.2.1 HB.I.2.1.at).mono ?_;rintro e W1 ⟨q,rfl,hown,gn,hb1⟩;have hb2:B_ W1.heap.size W1 (W1.alloc (c_ q.row 31)):=(Kp _ _).alloc (Ki _) _;have hlt:w.heap.size+1 < W.heap.size:=(J2.1 HB.I.2.2.2).1;have hb3:B_ W.heap.size W (W1.alloc (c_ q.row 31)):=hb1.trans (hb2.mono hb1.size);have hq1: ∀ g∈q.Mc,g < W1.heap.size:=fun g hg=>(hown.lt g hg).2
 have HQ:bN (av (W1.alloc (c_ q.row 31)) W1.heap.size q/\ap (W1.alloc (c_ q.row 31)) W.heap.size q/\q.pure=p.pure/\(∀ g∈q.Mc,g < W1.heap.size)/\W.heap.size<=W1.heap.size/\w.heap.size+1 < W.heap.size/\W1.heap.size < (W1.alloc (c_ q.row 31)).heap.size):=⟨Kj _ _,hown.below hb2,gn,hq1,hb1.size,hlt,by simp⟩
 replace HB:bN (av (W1.alloc (c_ q.row 31)) w.heap.size p/\ap (W1.alloc (c_ q.row 31)) b0 p/\B_ w.heap.size w (W1.alloc (c_ q.row 31))/\(W1.alloc (c_ q.row 31)).heap[w.heap.size+1]? =o_ (c_ ar 31)):=⟨HB.I.1.below hb3,HB.I.2.1.below hb3,HB.I.2.2.1.trans (hb3.mono HB.I.2.2.1.size),(hb3.block _ hlt).trans HB.I.2.2.2⟩
 have Au:bN (∀ g∈p.Mc,g < w.heap.size):=fun g hg=>pd g hg
 clear hown gn hb1 hb2 hb3 hq1 hlt pd;obtain ⟨m0,m1,m2,m3,m4,m5,m6,m7⟩:=HB.I.1.cells;unfold af.cells;go_wp2_with fail;generalize W1.alloc (c_ q.row 31)=W2 at *;clear m0 m1 m2 m3 m5 m6 m7;generalize W1.heap.size=o at *
 go_loop [7] (fun i=> ∃ k:Nat,k<=p.L9.length/\i=i_ j_ k/\bN (∀ y∈p.L9.take k,y.id < id)) (fun i=>p.L9.length - (Go.RowKit.intOf i).toNat)
 case atStart=>exact ⟨0,Ky _,rfl,fun y hy=>by simp at hy⟩
 case round=>
  obtain ⟨k,hk,rfl,HA⟩:=hrel;have i0:(0:Int)<=(k:Int):=zo
  have icap:(k:Int)<=(p.aO:Int):=zo
  have i2:(k:Int)<=(p.L9.length:Int):=zo
  rcases zm (fun y:aB=>y.id) id p.L9 k with ⟨x,hx,hc,hlt⟩ | ⟨x,hx,hc,hlt⟩ | hlt
  .have HT:bN (∀ y∈p.L9.take (k+1),y.id < id):=nE hx HA.I hc
   have i1:(k:Int) < (p.L9.length:Int):=zo
   obtain ⟨g,ha,hat⟩:=j4 HB.I.2.1.at.2.2.1 hx;have c0:=hat.1;have m:=m4;rw [ha] at m;clear m4 hat hx;exact Zbr
  focus
   have HX:bN (∀ y,p.L9[k]? =o_ y-> ¬ y.id < id):=fun y hy e=>by rw [hx] at hy; cases hy; exact hc e
   have i1:(k:Int) < (p.L9.length:Int):=zo
   obtain ⟨g,ha,hat⟩:=j4 HB.I.2.1.at.2.2.1 hx;have c0:=hat.1;have m:=m4;rw [ha] at m;clear m4 hat hx ha
  rotate_left
  focus
   have HX:bN (∀ y,p.L9[k]? =o_ y-> ¬ y.id < id):=fun y hy=>absurd (Lj.1 hy).1 hlt
   have i1: ¬ (k:Int) < (p.L9.length:Int):=zo
   have m:=m4;clear m4
  all_goals
   have hkl:(p.L9.take k).length=k:=by rw [Lk]; omega
   have hb3:B_ W2.heap.size W2 (W2.alloc (c_ #[] 91)):=(Kp _ _).alloc (Ki _) _;obtain ⟨a5,c5,w5,hap,oe,A7,-⟩:=qu (W2.alloc (c_ #[] 91)) W2.heap.size (o_ ⟨W2.heap.size,0,n_⟩) 0 [] (i6 (Kj _ _) (Ki _)) p.ay (p.L9.take k) p.aO (uM k (HB.I.2.1.below hb3).at.2.2.1.1) Zdl hb3.size;rw [hkl] at hap oe;simp only [K4,Li,List.nil_append] at hap oe;have iJ:B_ W2.heap.size W2 w5:=hb3.grown A7 hb3.size fun c e=>by cases e; exact Ki _
   have jQ:B_ w5.heap.size w5 (w5.alloc (c_ #[i_ j_ id,b_ false] 91)):=(Kp _ _).alloc (Ki _) _;have yJ:B_ W2.heap.size W2 (w5.alloc (c_ #[i_ j_ id,b_ false] 91)):=iJ.trans (jQ.mono iJ.size);have qH:(w5.alloc (c_ #[i_ j_ id,b_ false] 91)).ownsRow W2.heap.size 91 2 (s_ a5 (p.L9.take k).length c5) (p.L9.take k).length (bJ.flat (p.L9.take k)):=by rw [hkl]; exact cR oe jQ
   obtain ⟨a7,c7,w7,gT,mP,xI,-⟩:=qu (w5.alloc (c_ #[i_ j_ id,b_ false] 91)) W2.heap.size a5 c5 (p.L9.take k) qH (o_ ⟨w5.heap.size,0,n_⟩) [(⟨id,false⟩:aB)] 1 (jO (Kj _ _)) Zdk yJ.size;have mI:(p.L9.take k ++ [(⟨id,false⟩:aB)]).length=k+1:=by rw [Lf,hkl]; rfl
   rw [hkl] at gT mP;simp only [List.length_cons,K4,Li] at gT mP;have gh:B_ W2.heap.size W2 w7:=yJ.grown xI yJ.size fun c e=>(cf oe (di e)).1
   have Em:bN (w7.ownsRow W2.heap.size 91 2 (s_ a7 (k+1) c7) (k+1) (bJ.flat (p.L9.take k ++ [(⟨id,false⟩:aB)]))/\B_ W2.heap.size W2 w7/\(p.L9.take k ++ [(⟨id,false⟩:aB)]).length=k+1):=⟨mP,gh,mI⟩
   have m2:(W2.alloc (c_ #[] 91)).cell? ⟨w.heap.size,4,n_⟩=o_ (s_ p.ay p.L9.length p.aO):=(HB.I.1.below hb3).cells.2.2.2.2.1;have hbo:W2.heap.size<=w7.heap.size:=gh.size;obtain ⟨⟨u,co⟩,fo⟩:(∃ u,w7.cell? ⟨o,4,n_⟩=o_ u)/\w7.frozen? ⟨o,4,n_⟩=false:=⟨⟨_,(HQ.I.1.below gh).cells.2.2.2.2.1⟩,Ko _ _ _ _ _ (HQ.I.1.below gh)⟩
   clear oe A7 iJ jQ yJ qH mP xI gh hb3 mI;go_wp2_with (at_builtin; first | (refine br _ rfl _ _ 26 rfl _ _ _ _ rfl rfl hap ?_; clear hap) | (refine br _ rfl _ _ 26 rfl _ _ _ _ rfl rfl gT ?_; clear gT));have H8:bN (((av (w7.setCell ⟨o,4,n_⟩ (s_ a7 (k+1) c7)) w.heap.size p/\ap (w7.setCell ⟨o,4,n_⟩ (s_ a7 (k+1) c7)) b0 p/\B_ w.heap.size w (w7.setCell ⟨o,4,n_⟩ (s_ a7 (k+1) c7))/\(w7.setCell ⟨o,4,n_⟩ (s_ a7 (k+1) c7)).heap[w.heap.size+1]? =o_ (c_ ar 31))/\(w7.setCell ⟨o,4,n_⟩ (s_ a7 (k+1) c7)).heap[o]? =o_ (c_ #[i_ j_ q.id,i_ j_ q.next,s_ q.aN q.L8.length q.aW,s_ q.bc q.aj.length q.bF,s_ a7 (k+1) c7,s_ q.ax q.ag.length q.aP,s_ q.am q.ae.length q.aG,s_ q.aK q.ai.length q.aV] 31)/\ap (w7.setCell ⟨o,4,n_⟩ (s_ a7 (k+1) c7)) W.heap.size q)/\(w7.setCell ⟨o,4,n_⟩ (s_ a7 (k+1) c7)).ownsRow W2.heap.size 91 2 (s_ a7 (k+1) c7) (k+1) (bJ.flat (p.L9.take k ++ [(⟨id,false⟩:aB)]))/\W2.heap.size<=(w7.setCell ⟨o,4,n_⟩ (s_ a7 (k+1) c7)).heap.size):=by
    have gh:=Em.I.2.1;have hq:=HQ.I;exact pl
   generalize w7.setCell ⟨o,4,n_⟩ (s_ a7 (k+1) c7)=W8 at *;have HS:bN (W8.cell? ⟨w.heap.size,4,n_⟩=o_ (s_ p.ay p.L9.length p.aO)):=H8.I.1.1.1.cells.2.2.2.2.1;have co8:W8.drew.cell? ⟨o,4,n_⟩=o_ (s_ a7 (k+1) c7):=by rw [K5 _ _ _ _ _ _ (show W8.drew.heap[o]? =_ from H8.I.1.2.1)]; rfl
   clear m m2 co fo hbo i1 hlt;obtain ⟨u6,Jx⟩: ∃ u6,(if p.aO=k then p.ay else Option.map (fun x=>x.add (k * 2)) p.ay)=u6:=⟨_,rfl⟩
   refine Kr (S:=fun w'=>w'.cell? ⟨w.heap.size,4,n_⟩=o_ (s_ p.ay p.L9.length p.aO)) Zcq HS.I (fun bE=> ?_);refine tt 0 bE ?_ (hy:=fun w0 hS0=>by have cm:=hS0; go_simp; try with_reducible rfl);refine tt 2 bE ?_ (hy:=fun w0 hS0=>by have cm:=hS0; go_simp; try with_reducible rfl);refine tt 3 bE ?_ (hy:=fun w0 hS0=>by have cm:=hS0; go_simp; try with_reducible rfl);refine tt 4 bE ?_ (hy:=fun w0 hS0=>by have cm:=hS0; go_simp; try with_reducible rfl);refine tt 5 bE ?_ (hy:=fun w0 hS0=>by have cm:=hS0; go_simp; try with_reducible rfl);refine L7 1 (fun K hK=> ?_);go_wp2_with fail;refine hK.out _ _ HS.I (fun bE=> ?_);clear hK K
   try simp only [pt,sb,s0,s1]
   have hbd:B_ W8.heap.size W8 W8.drew:=(Kp _ _).drew;have mI:=Em.I.2.2;have hkd:(p.L9.drop k).length=p.L9.length - k:=Ql;obtain ⟨a9,c9,w9,hr,xj,FW,-⟩:=qu W8.drew W2.heap.size a7 c7 (p.L9.take k ++ [(⟨id,false⟩:aB)]) Zdg u6 (p.L9.drop k) (p.aO - k) (by rw [<- Jx]; exact qK hcap (H8.I.1.1.2.1.below hbd).at.2.2.1.1) (by rw [mI,hkd]; omega) H8.I.2.2;rw [mI,hkd] at hr xj;have kN:B_ W2.heap.size W8.drew w9:=(Kp _ _).grown (a:=W8.drew) FW H8.I.2.2 fun c e=>(cf H8.I.2.1 (di e)).1
   have hq:=HQ.I;have h8:=H8.I;have p7:o < W2.heap.size:=hq.2.2.2.2.2.2;have hwl:w.heap.size+1 < o:=zo
   have lV:w9.heap[o]? =o_ (c_ #[i_ j_ q.id,i_ j_ q.next,s_ q.aN q.L8.length q.aW,s_ q.bc q.aj.length q.bF,s_ a7 (k+1) c7,s_ q.ax q.ag.length q.aP,s_ q.am q.ae.length q.aG,s_ q.aK q.ai.length q.aV] 31):=(kN.block _ p7).trans h8.1.2.1;have YU:bN (w9.cell? ⟨w.heap.size,4,n_⟩=o_ (s_ p.ay p.L9.length p.aO)/\(w9.setCell ⟨o,4,n_⟩ (s_ a9 (k+1+(p.L9.length - k)) c9)).cell? ⟨w.heap.size,4,n_⟩=o_ (s_ p.ay p.L9.length p.aO)):=by
    have e1:w9.cell? ⟨w.heap.size,4,n_⟩=o_ (s_ p.ay p.L9.length p.aO):=(J1 (kN.block _ Zdn)).trans HS.I;exact Zbh
   have sR:((p.L9.take k ++ [(⟨id,false⟩:aB)]) ++ p.L9.drop k).length=k+1+(p.L9.length - k):=by rw [Lf,mI,hkd]
   have gn:({ q with L9:=(p.L9.take k ++ [(⟨id,false⟩:aB)]) ++ p.L9.drop k,ay:=a9,aO:=c9 } :af).pure= { p.pure with L9:=cA (·.id) (⟨id,false⟩:aB) p.pure.L9 } :=by
    have e1:(p.L9.take k ++ [(⟨id,false⟩:aB)]) ++ p.L9.drop k=cA (·.id) (⟨id,false⟩:aB) p.pure.L9:=by
     exact ZbD
    have e2:=HQ.I.2.2.1
    show ({ q.pure with L9:=(p.L9.take k ++ [(⟨id,false⟩:aB)]) ++ p.L9.drop k } :aE)=_
    rw [e1,e2]
   have eX:bN (av (w9.setCell ⟨o,4,n_⟩ (s_ a9 (k+1+(p.L9.length - k)) c9)) w.heap.size p/\ap (w9.setCell ⟨o,4,n_⟩ (s_ a9 (k+1+(p.L9.length - k)) c9)) b0 p/\B_ w.heap.size w (w9.setCell ⟨o,4,n_⟩ (s_ a9 (k+1+(p.L9.length - k)) c9))/\(w9.setCell ⟨o,4,n_⟩ (s_ a9 (k+1+(p.L9.length - k)) c9)).heap[w.heap.size+1]? =o_ (c_ ar 31)/\av (w9.setCell ⟨o,4,n_⟩ (s_ a9 (k+1+(p.L9.length - k)) c9)) o ({ q with L9:=(p.L9.take k ++ [(⟨id,false⟩:aB)]) ++ p.L9.drop k,ay:=a9,aO:=c9 } :af)/\ap (w9.setCell ⟨o,4,n_⟩ (s_ a9 (k+1+(p.L9.length - k)) c9)) W.heap.size ({ q with L9:=(p.L9.take k ++ [(⟨id,false⟩:aB)]) ++ p.L9.drop k,ay:=a9,aO:=c9 } :af)/\({ q with L9:=(p.L9.take k ++ [(⟨id,false⟩:aB)]) ++ p.L9.drop k,ay:=a9,aO:=c9 } :af).pure= { p.pure with L9:=cA (·.id) (⟨id,false⟩:aB) p.pure.L9 }):=by
    have hpb: ∀ g∈p.Mc,g < w.heap.size:=Au.I;have nW: ∀ g∈q.Mc,g < o:=hq.2.2.2.1;have sm: ∀ g,g < W2.heap.size->g≠o->(w9.setCell ⟨o,4,n_⟩ (s_ a9 (k+1+(p.L9.length - k)) c9)).heap[g]? =W8.heap[g]? :=fun g hg hne=>(aH hne).trans (kN.block _ hg)
    have lY:B_ w.heap.size w (w9.setCell ⟨o,4,n_⟩ (s_ a9 (k+1+(p.L9.length - k)) c9)):=bP (h8.1.1.2.2.1.drew.trans (kN.mono zo)) zo;refine ⟨(sm _ zo zo).trans h8.1.1.1,h8.1.1.2.1.same fun g hg=>sm g ZcB ZcB,lY,(sm _ zo zo).trans h8.1.1.2.2.2,?_,?_,gn⟩
    .have h5:=cx (i:=4) (v:=s_ a9 (k+1+(p.L9.length - k)) c9) lV
     unfold av;simp only [sR];exact h5
    .refine h8.1.2.2.Ge (B:=W2.heap.size) zo (fun g hg=>by have:=nW g hg; omega) (fun g hg=>sm g ZcE ZcE) ?_
     exact Zbm
   refine L7 6 (fun K hK=> ?_);refine cM _ _ _ rfl _ _ _ w9 rfl rfl hr ?_;refine hK.out _ _ YU.I.1 (fun bE=> ?_);clear hK K
   try simp only [pt,sb,s0,s1]
   obtain ⟨⟨u,co⟩,fo⟩:(∃ u,w9.cell? ⟨o,4,n_⟩=o_ u)/\w9.frozen? ⟨o,4,n_⟩=false:=⟨⟨_,by rw [K5 _ _ _ _ _ _ lV]; rfl⟩,Ko _ _ _ _ _ lV⟩
   clear hr xj FW kN hq h8 p7 hwl lV hbd;refine tt 7 bE ?_ (hy:=fun w0 hS0=>by have cm:=hS0; go_simp; try with_reducible rfl);refine L7 8 (fun K hK=> ?_);go_wp2_with fail;refine hK.out _ _ YU.I.2 (fun bE=> ?_);clear hK K
   try simp only [pt,sb,s0,s1]
   refine K3 Zcq ?_ _;clear bE co fo YU HS co8;generalize w9.setCell ⟨o,4,n_⟩ (s_ a9 (k+1+(p.L9.length - k)) c9)=W10 at *;have Mb:=fi p ({ q with L9:=(p.L9.take k ++ [(⟨id,false⟩:aB)]) ++ p.L9.drop k,ay:=a9,aO:=c9 } :af) W10 ⟨fl.I.1,fl.I.2.1,eX.I.2.1.at⟩ (fun hr=>by
    have h5:aE.Small ({ q with L9:=(p.L9.take k ++ [(⟨id,false⟩:aB)]) ++ p.L9.drop k,ay:=a9,aO:=c9 } :af).pure:=by rw [eX.I.2.2.2.2.2.2]; exact vS fl.I.2.2.1 hr fl.I.2.2.2
    exact ⟨dV h5,fun x hx=>(cY h5 hx).1,eX.I.2.2.2.2.2.1.at⟩)
   obtain ⟨m0,m1,m2,m3,m4,m5,m6,m7⟩:=eX.I.1.cells;obtain ⟨k0,k1,k2,k3,k4,k5,k6,k7⟩:=eX.I.2.2.2.2.1.cells;unfold af.cells at Mb;simp only [sR] at Mb k0 k1 k2 k3 k4 k5 k6 k7;have DM:bN (((p.L9.take k ++ [(⟨id,false⟩:aB)]) ++ p.L9.drop k).length=k+1+(p.L9.length - k)):=sR;clear sR mI hkd Jx gn;go_wp2_with fail;refine Mb.mono ?_;clear Mb m0 m1 m2 m3 m4 m5 m6 m7 k0 k1 k2 k3 k4 k5 k6 k7;rintro e ow ⟨gy,hok⟩;have hq:=HQ.I.2.2.2.2;have HZ:bN (B_ w.heap.size w ow/\ow.heap[w.heap.size+1]? =o_ (c_ ar 31)/\ap ow W.heap.size ({ q with L9:=(p.L9.take k ++ [(⟨id,false⟩:aB)]) ++ p.L9.drop k,ay:=a9,aO:=c9 } :af)/\w.heap.size+1 < W.heap.size):=⟨eX.I.2.2.1.trans (gy.mono eX.I.2.2.1.size),(gy.block _ (J2.1 eX.I.2.2.2.1).1).trans eX.I.2.2.2.1,eX.I.2.2.2.2.2.1.below gy,hq.2.1⟩
   clear gy hq;rw [eX.I.2.2.2.2.2.2] at hok;rcases hok with ⟨hok,rfl⟩ | ⟨hok,rfl⟩
   .have HN:bN (cB p.pure { p.pure with L9:=cA (·.id) (⟨id,false⟩:aB) p.pure.L9 } =o_ { p.pure with L9:=cA (·.id) (⟨id,false⟩:aB) p.pure.L9 }):=jS hok
    clear hok;go_wp2_with (refine ec _ _ #[i_ j_ q.id,i_ j_ q.next,s_ q.aN q.L8.length q.aW,s_ q.bc q.aj.length q.bF,s_ a9 (k+1+(p.L9.length - k)) c9,s_ q.ax q.ag.length q.aP,s_ q.am q.ae.length q.aG,s_ q.aK q.ai.length q.aV] HZ.I.2.1 ?_);refine mG results74 (b_ true) HZ.I.2.1 ?_;have hl:=HZ.I.2.2.2;rw [HN.I];refine ⟨({ q with L9:=(p.L9.take k ++ [(⟨id,false⟩:aB)]) ++ p.L9.drop k,ay:=a9,aO:=c9 } :af),by unfold af.cells; simp only [DM.I]; rfl,(HZ.I.2.2.1.lower zo).same fun g hg=>KH _ _ _ _ ZcA,eX.I.2.2.2.2.2.2,q_ HZ.I.1 zo _⟩
   .have HN:bN (cB p.pure { p.pure with L9:=cA (·.id) (⟨id,false⟩:aB) p.pure.L9 } =n_):=jh hok
    clear hok;go_wp2_with (refine ec _ _ ar HZ.I.2.1 ?_);refine mG results74 (b_ false) HZ.I.2.1 ?_;exact X_
end Go.Proofs.YtfncpmaefninjaaGreatDoor
