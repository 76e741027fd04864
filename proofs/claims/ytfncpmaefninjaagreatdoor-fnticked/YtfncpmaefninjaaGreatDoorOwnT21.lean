/- What the proof leans on, part 21. -/
import Derived.Test.YtfncpmaefninjaaGreatDoorOwnT16
import Derived.Test.YtfncpmaefninjaaGreatDoorOwnT17
import Derived.Test.YtfncpmaefninjaaGreatDoorOwnT18
set_option linter.all false
set_option maxRecDepth 100000
set_option maxHeartbeats 8000000
open Go.Proofs.Tryz
open Go renaming World->w_,Value->v_,Calls->k_,Addr->d_,TypeId->T_,below_setRow->q_
open Go.IntKind renaming i64->j_
open Go.Obj renaming cells->c_
open Go.RowKit renaming Below->B_,Hid->bE
open Go.Value renaming int->i_,slice->s_,bool->b_,string->t_,agg->a_
open Option renaming some->o_,none->n_
open Go renaming wp_at_succ->Kd,wp_at_zero->Kc
open Go.Proofs.Tryz renaming prog->J3
open List renaming length_cons->Lg,length_nil->K4,nil_append->Ll

open Go.RowKit
namespace Go.Proofs.YtfncpmaefninjaaGreatDoor
open Go.Maps
attribute [local go_sem ↓] Kc Kd
def Cl (q:af) (n bj:Nat) (x:ao) (bA:Int) (o:dN) (w:w_) (h:ap w bj q) (hb:bj<=w.heap.size) (hr:aQ q.pure) (hx:q.L8[n]? =o_ x) (hs:x.Md=1) (hn:q.next<=999999990) (eu:0<=bA/\bA<=1000000000) (ho:kc o=true) (hk:o.1=12):
  k_ J3 91 #[a_ q.cells,i_ j_ n,a_ (j9 o),i_ j_ bA] w (jH w bj q (dC o bA x.id q.pure)):=by
 obtain ⟨-,f1,f2,f3,f4⟩:=dv ho;have hM:=bz.1 f2;obtain ⟨k,N,M,s⟩:=o;simp only at hk hM f1 f3 f4;subst hk;have HR:=aA (SD hr hx hs hn eu hM);have HF:=aA (dW hr);clear f2 hr hx hs hn eu hM ho;have S:=aA (Xf.start (o:=(12,N,M,s)) h hb);clear h hb
 go_enter func91,ntmps91
 go_upto_region 1 with fail;generalize ((w.alloc (c_ q.cells 31)).alloc (c_ (j9 (12,N,M,s)) 45)).alloc (c_ ar 31)=A at *;obtain ⟨-,o1,-,-⟩:=S.I.op.cells;simp only at o1;have hpf:=ef (num:=fun x:az=>x.id) N q.ag 0;have Mb:=mg q N A ZcL S.I.fr.own.at;generalize place (q.ag.map (fun x=>x.id)) N 0=z at *;go_wp2_with (refine eT 4 S.I.fr.box ?_);refine Mb.mono ?_;clear Mb;rintro e A2 ⟨rfl,hb2⟩;replace S:=aA (S.I.reads hb2);clear hb2 o1;rcases hpf with ⟨hz,hf⟩ | ⟨m,y,hz,hm,hid,hf⟩
 .subst hz
  have HE:bE (dC (12,N,M,s) bA x.id q.pure=bu 3 x.id q.pure):=by show dC (12,N,M,s) bA x.id q.pure=_; unfold dC; rw [show cg (fun x:az=>x.id) N q.pure.ag=n_ from hf]
  exact Zcc
 rw [Li] at hz;subst hz;have afO:decide ((m:Int) < 0)=false:=decide_eq_false zo;have HM:bE (q.ag[m]? =o_ y/\y.id=N/\cg (fun x:az=>x.id) N q.pure.ag=o_ y):=⟨hm,hid,hf⟩
 have hml:=(Lj.1 hm).1;have j0:(0:Int)<=(m:Int):=zo
 have j1:(m:Int) < (q.ag.length:Int):=zo
 clear hm hid hf hml;obtain ⟨o0,-,-,-⟩:=S.I.op.cells;simp only at o0;have ht:=(sX (o:=(12,N,M,s)) HR.I.1 HM.I.2.2).2;have HG1:=aA (kg HR.I.1 HR.I.2.1 ht);clear ht;go_upto_region 17 with fail;clear afO o0;replace S:=aA (S.I.reads (Kp _ _).drew);refine eD (fun w1=>w1=A2.drew) 11 ZcE rfl ?_;generalize A2.drew=B at *;obtain ⟨Y5,iE,hat⟩:=jr S.I.fr.own.at.2.2.2.1 HM.I.1;have m5:=S.I.fr.box.cells.2.2.2.2.2.1;rw [iE] at m5;have d1:=hat.2.1;have d2:=hat.2.2;have HG:bE (q.ax=o_ ⟨Y5,0,n_⟩):=iE;clear hat iE;obtain ⟨gp,l9,-⟩:=cn S.I.fr.own.at.1 HR.I.2.1;have m2:=S.I.fr.box.cells.2.2.1;have k1:(n:Int) < (q.L8.length:Int):=by have:=(Lj.1 HR.I.2.1).1; omega
 have k0:(0:Int)<=(n:Int):=zo
 rw [l9] at m2;obtain ⟨s1,⟨u,c⟩,f⟩:=eY (n:=n) (j:=9) (v:=t_ y.text) (y:= { x with got:=y.text }) S.I.fr.own HR.I.2.1 l9 ⟨rfl,rfl,rfl⟩ (by decide) rfl;replace S:=aA (S.I.call s1);clear s1 l9
 iterate 11 (refine ly 12 (v:= ?_) (o_ _) rfl rfl ZcE (fun _ _ _ h=>h) (bV ZcE ?_) ?_; rotate_left; (intro w0 hS0; subst hS0; go_simp; try with_reducible rfl); simp only [pt,sb,s0,s1])
 refine fL rfl ZcE ZcE ZcE ?_;intro w1 cm;rw [cm];clear cm w1
 go_simp
 generalize B.setCell ⟨gp,n * 12+9,n_⟩ (t_ y.text)=C at *;clear m2 m5 d1 d2 c f u k0 k1;obtain ⟨q1,hq1,hq⟩:=HG1.I;have HB:bE (q1.ag[m]? =o_ y/\q1.next=q.next/\q1.ax=q.ax):=by rw [hq1]; exact ⟨HM.I.1,rfl,rfl⟩
 rw [<- hq1] at S;have HQ:=aA hq;clear hq1 hq HG1;obtain ⟨ga2,iE,hat⟩:=jr S.I.fr.own.at.2.2.2.1 HB.I.1;rw [HB.I.2.2,HG.I] at iE;cases iE;have d1:=hat.2.1;clear hat;have m5:=S.I.fr.box.cells.2.2.2.2.2.1;rw [HG.I] at m5;cases hu:y.shown
 .rw [hu] at d1
  have HE:bE (dC (12,N,M,s) bA x.id q.pure=mX 7 (12,N,M,s) bA x.id (ez y.text x.id q.pure)):=by show dC (12,N,M,s) bA x.id q.pure=_; unfold dC; rw [show cg (fun x:az=>x.id) N q.pure.ag=o_ y from HM.I.2.2]; simp [hu]
  clear hu;have Mb:=oR q1 n bj { x with got:=y.text } 7 bA (12,N,M,s) C S.I.fr.own S.I.low HQ.I.2.2.1 HQ.I.2.2.2 ZcS (by have:=HR.I.2.2.2.1; rw [HB.I.2.1]; omega) HR.I.2.2.2.2.1 HR.I.2.2.2.2.2;rw [HQ.I.1,HQ.I.2.1] at Mb;go_wp2_with (first | (refine eT 4 S.I.fr.box ?_) | (refine LS rfl 45 (.tmp 6) rfl (w.heap.size+1) (by rfl) 45 (j9 (12,N,M,s)) (0,0) _ S.I.op underlying45 rfl ZcE ?_));refine Mb.mono ?_;clear Mb;rintro e A2 ⟨q2,rfl,hp,ht⟩;replace S:=aA (S.I.call ht);have HP:bE (q2.pure=_):=hp;clear hp ht;go_wp2_with (refine ec 8 92 q2.cells S.I.an ?_);refine gZ results91 S.I.an ?_;exact jp
 .rw [hu] at d1
  have HE:bE (dC (12,N,M,s) bA x.id q.pure=bu 0 x.id (ez y.text x.id q.pure)):=by show dC (12,N,M,s) bA x.id q.pure=_; unfold dC; rw [show cg (fun x:az=>x.id) N q.pure.ag=o_ y from HM.I.2.2]; simp [hu]
  clear hu;have Mb:=bB (n:=n) 0 S.I.fr.own S.I.low HQ.I.2.2.1 HQ.I.2.2.2 ZcS;exact Zcj
def AS (q:af) (n bj:Nat) (x:ao) (bA:Int) (o:dN) (w:w_) (h:ap w bj q) (hb:bj<=w.heap.size) (hr:aQ q.pure) (hx:q.L8[n]? =o_ x) (hs:x.Md=1) (hn:q.next<=999999990) (eu:0<=bA/\bA<=1000000000) (ho:kc o=true) (hk:o.1=11):
  k_ J3 91 #[a_ q.cells,i_ j_ n,a_ (j9 o),i_ j_ bA] w (jH w bj q (dC o bA x.id q.pure)):=by
 obtain ⟨-,f1,f2,f3,f4⟩:=dv ho;have hM:=bz.1 f2;obtain ⟨k,N,M,s⟩:=o;simp only at hk hM f1 f3 f4;subst hk;have HR:=aA (SD hr hx hs hn eu hM);have HF:=aA (dW hr);clear f2 hr hx hs hn eu hM ho;have S:=aA (Xf.start (o:=(11,N,M,s)) h hb);clear h hb
 go_enter func91,ntmps91
 go_upto_region 1 with fail;generalize ((w.alloc (c_ q.cells 31)).alloc (c_ (j9 (11,N,M,s)) 45)).alloc (c_ ar 31)=A at *;obtain ⟨-,o1,-,-⟩:=S.I.op.cells;simp only at o1;have hpf:=ef (num:=fun x:az=>x.id) N q.ag 0;have Mb:=mg q N A ZcL S.I.fr.own.at;generalize place (q.ag.map (fun x=>x.id)) N 0=z at *;go_wp2_with (refine eT 4 S.I.fr.box ?_);refine Mb.mono ?_;clear Mb;rintro e A2 ⟨rfl,hb2⟩;replace S:=aA (S.I.reads hb2);clear hb2 o1;rcases hpf with ⟨hz,hf⟩ | ⟨m,y,hz,hm,hid,hf⟩
 .subst hz
  have HE:bE (dC (11,N,M,s) bA x.id q.pure=bu 3 x.id q.pure):=by show dC (11,N,M,s) bA x.id q.pure=_; unfold dC; rw [show cg (fun x:az=>x.id) N q.pure.ag=n_ from hf]
  exact Zcc
 rw [Li] at hz;subst hz;have afO:decide ((m:Int) < 0)=false:=decide_eq_false zo;have HM:bE (q.ag[m]? =o_ y/\y.id=N/\cg (fun x:az=>x.id) N q.pure.ag=o_ y):=⟨hm,hid,hf⟩
 have hml:=(Lj.1 hm).1;have j0:(0:Int)<=(m:Int):=zo
 have j1:(m:Int) < (q.ag.length:Int):=zo
 clear hm hid hf hml;obtain ⟨o0,-,-,-⟩:=S.I.op.cells;simp only at o0;have HE:bE (dC (11,N,M,s) bA x.id q.pure=bu 0 x.id (ib N false rM q.pure)):=by show dC (11,N,M,s) bA x.id q.pure=_; unfold dC; rw [show cg (fun x:az=>x.id) N q.pure.ag=o_ y from HM.I.2.2]; rfl
 obtain ⟨Y5,iE,hat⟩:=jr S.I.fr.own.at.2.2.2.1 HM.I.1;have m5:=S.I.fr.box.cells.2.2.2.2.2.1;rw [iE] at m5;have HG:bE (q.ax=o_ ⟨Y5,0,n_⟩):=iE;clear hat iE;obtain ⟨s1,⟨u,c⟩,f⟩:=ll (n:=m) (j:=1) (v:=b_ false) (y:= { y with shown:=false }) S.I.fr.own HM.I.1 HG.I (by decide) rfl;replace S:=aA (S.I.call s1);clear s1;go_upto_region 15 with fail;generalize A2.setCell ⟨Y5,m * 3+1,n_⟩ (b_ false)=C at *;clear m5 c f u;have m5:=S.I.fr.box.cells.2.2.2.2.2.1;rw [HG.I] at m5;obtain ⟨s1,⟨u,c⟩,f⟩:=ll (n:=m) (j:=2) (v:=t_ ⟨#[]⟩) (x:= { y with shown:=false }) (y:= { y with shown:=false,text:=rM }) S.I.fr.own ZdP HG.I (by decide) rfl;replace S:=aA (S.I.call s1);clear s1;simp only [PV] at S;go_upto_region 20 with fail;generalize C.setCell ⟨Y5,m * 3+2,n_⟩ (t_ ⟨#[]⟩)=D at *;clear m5 c f u afO j0 j1;have CK:bE (∃ q1:af,q1= { q with ag:=q.ag.set m { y with shown:=false,text:=rM } } /\q1.pure=ib N false rM q.pure/\q1.cells=q.cells/\aQ q1.pure/\q1.L8[n]? =o_ x/\q1.next=q.next):=by
  have hq:({ q with ag:=q.ag.set m { y with shown:=false,text:=rM } } :af).pure=ib N false rM q.pure:=by show ({ q.pure with ag:=q.ag.set m { y with shown:=false,text:=rM } } :aE)=_; unfold ib; rw [jF (num:=fun x:az=>x.id) (db HR.I.1.ag).2 HM.I.1 HM.I.2.1]; rfl
  exact ⟨_,rfl,hq,by unfold af.cells; simp,by rw [hq]; exact kA HR.I.1 jX (.inr oB),HR.I.2.1,rfl⟩
 obtain ⟨q1,hq1,hq⟩:=CK.I;rw [<- hq1] at S;have HQ:=aA hq;clear hq1 hq CK;have Mb:=bB (n:=n) 0 S.I.fr.own S.I.low HQ.I.2.2.1 HQ.I.2.2.2.1 ZcN;exact Zcj
def CA (q:af) (n bj:Nat) (x:ao) (bA:Int) (o:dN) (w:w_) (h:ap w bj q) (hb:bj<=w.heap.size) (hr:aQ q.pure) (hx:q.L8[n]? =o_ x) (hs:x.Md=1) (hn:q.next<=999999990) (eu:0<=bA/\bA<=1000000000) (ho:kc o=true) (hk:o.1=10):
  k_ J3 91 #[a_ q.cells,i_ j_ n,a_ (j9 o),i_ j_ bA] w (jH w bj q (dC o bA x.id q.pure)):=by
 obtain ⟨-,f1,f2,f3,f4⟩:=dv ho;have hM:=bz.1 f2;obtain ⟨k,N,M,s⟩:=o;simp only at hk hM f1 f3 f4;subst hk;have HR:=aA (SD hr hx hs hn eu hM);have HF:=aA (dW hr);clear f2 hr hx hs hn eu hM ho;have S:=aA (Xf.start (o:=(10,N,M,s)) h hb);clear h hb
 go_enter func91,ntmps91
 go_upto_region 1 with fail;generalize ((w.alloc (c_ q.cells 31)).alloc (c_ (j9 (10,N,M,s)) 45)).alloc (c_ ar 31)=A at *;obtain ⟨-,o1,-,-⟩:=S.I.op.cells;simp only at o1;have hpf:=ef (num:=fun x:az=>x.id) N q.ag 0;have Mb:=mg q N A ZcL S.I.fr.own.at;generalize place (q.ag.map (fun x=>x.id)) N 0=z at *;go_wp2_with (refine eT 4 S.I.fr.box ?_);refine Mb.mono ?_;clear Mb;rintro e A2 ⟨rfl,hb2⟩;replace S:=aA (S.I.reads hb2);clear hb2 o1;rcases hpf with ⟨hz,hf⟩ | ⟨m,y,hz,hm,hid,hf⟩
 .subst hz
  have HE:bE (dC (10,N,M,s) bA x.id q.pure=bu 3 x.id q.pure):=by show dC (10,N,M,s) bA x.id q.pure=_; unfold dC; rw [show cg (fun x:az=>x.id) N q.pure.ag=n_ from hf]
  exact Zcc
 rw [Li] at hz;subst hz;have afO:decide ((m:Int) < 0)=false:=decide_eq_false zo;have HM:bE (q.ag[m]? =o_ y/\y.id=N/\cg (fun x:az=>x.id) N q.pure.ag=o_ y):=⟨hm,hid,hf⟩
 have hml:=(Lj.1 hm).1;have j0:(0:Int)<=(m:Int):=zo
 have j1:(m:Int) < (q.ag.length:Int):=zo
 clear hm hid hf hml;obtain ⟨o0,-,-,-⟩:=S.I.op.cells;simp only at o0;have HE:bE (dC (10,N,M,s) bA x.id q.pure=bu 0 x.id (ff (lG s) 7 N (ib N true s q.pure))):=by show dC (10,N,M,s) bA x.id q.pure=_; unfold dC; rw [show cg (fun x:az=>x.id) N q.pure.ag=o_ y from HM.I.2.2]; rfl
 obtain ⟨Y5,iE,hat⟩:=jr S.I.fr.own.at.2.2.2.1 HM.I.1;have m5:=S.I.fr.box.cells.2.2.2.2.2.1;rw [iE] at m5;have HG:bE (q.ax=o_ ⟨Y5,0,n_⟩):=iE;clear hat iE;obtain ⟨s1,⟨u,c⟩,f⟩:=ll (n:=m) (j:=1) (v:=b_ true) (y:= { y with shown:=true }) S.I.fr.own HM.I.1 HG.I (by decide) rfl;replace S:=aA (S.I.call s1);clear s1;go_upto_region 7 with fail;generalize A2.setCell ⟨Y5,m * 3+1,n_⟩ (b_ true)=C at *;clear m5 c f u;obtain ⟨-,-,-,o3⟩:=S.I.op.cells;simp only at o3;have m5:=S.I.fr.box.cells.2.2.2.2.2.1;rw [HG.I] at m5;obtain ⟨s1,⟨u,c⟩,f⟩:=ll (n:=m) (j:=2) (v:=t_ s) (x:= { y with shown:=true }) (y:= { y with shown:=true,text:=s }) S.I.fr.own ZdP HG.I (by decide) rfl;replace S:=aA (S.I.call s1);clear s1;simp only [PV] at S;go_upto_region 8 with fail;generalize C.setCell ⟨Y5,m * 3+2,n_⟩ (t_ s)=D at *;clear m5 c f u afO j0 j1 o3;have CK:bE (∃ q1:af,q1= { q with ag:=q.ag.set m { y with shown:=true,text:=s } } /\q1.pure=ib N true s q.pure/\q1.cells=q.cells/\aQ q1.pure/\q1.L8[n]? =o_ x/\q1.next=q.next):=by
  have hq:({ q with ag:=q.ag.set m { y with shown:=true,text:=s } } :af).pure=ib N true s q.pure:=by show ({ q.pure with ag:=q.ag.set m { y with shown:=true,text:=s } } :aE)=_; unfold ib; rw [jF (num:=fun x:az=>x.id) (db HR.I.1.ag).2 HM.I.1 HM.I.2.1]; rfl
  exact ⟨_,rfl,hq,by unfold af.cells; simp,by rw [hq]; exact kA HR.I.1 f3 (.inl rfl),HR.I.2.1,rfl⟩
 obtain ⟨q1,hq1,hq⟩:=CK.I;rw [<- hq1] at S;have HQ:=aA hq;clear hq1 hq CK;have Mb:=ij q1 7 N D (by have:=(dW HQ.I.2.2.1).1; omega) S.I.fr.own.at;rw [HQ.I.2.1] at Mb;obtain ⟨-,o1,-,-⟩:=S.I.op.cells;simp only at o1;go_wp2_with (refine eT 4 S.I.fr.box ?_);refine Mb.mono ?_;clear Mb o1;rintro e af3 ⟨⟨z,rfl,gV⟩,hb2⟩;replace S:=aA (S.I.reads hb2);clear hb2;have afW:=aA (S.I.sync HQ.I.2.1);have IB:bE (bw s=true):=f3;have HI:=aA (If.start (f:=lG s) (n:=n) (x:=x.toaD) HQ.I.2.2.1 (mj HQ.I.2.2.2.1) (by have:=HR.I.2.2.2.1; rw [HQ.I.2.2.2.2]; exact this) gV);rw [HQ.I.1] at HI;clear gV S f1 f3 f4;go_wp2_with fail
 go_loopg [10] ((ib N true s q.pure).L8.filter (ie 7 N)).length (fun k b wr=> ∃ (qk:af) (z:Int),b=i_ j_ z/\bE (If (lG s) 7 N (ff (lG s) 7 N (ib N true s q.pure)) n x.toaD k qk z/\Xf w bj q qk qk (10,N,M,s) wr))
 case atStart=>exact ⟨q1,z,rfl,HI.I,afW.I⟩
 case round=>
  obtain ⟨qk,z,rfl,HK⟩:=hrel;have S:=aA HK.I.2;rcases pp HK.I.1.best with ⟨hz,hw⟩ | ⟨i,v,hz,hi,hw⟩
  .have afO:decide (z>=0)=false:=decide_eq_false zo
   obtain ⟨x2,hx2,sw⟩:=tQ HK.I.1.pos;have HT:bE (bu 0 x2.id qk.pure=dC (10,N,M,s) bA x.id q.pure):=by show bu 0 x2.id qk.pure=_; rw [HE.I,<- HK.I.1.same,qO hw,show x2.id=x.id from congrArg aD.id sw]
   have Mb:=bB (n:=n) 0 S.I.fr.own S.I.low HK.I.1.r hx2 ZcM;clear hz hw hx2 sw;go_wp2_with (refine eT 4 S.I.fr.box ?_);refine Mb.mono ?_;clear Mb;rintro e A2 ⟨q2,rfl,hp,ht⟩;replace S:=aA (S.I.call ht);have HP:bE (q2.pure=_):=hp;clear hp ht;go_wp2_with (refine ec 8 95 q2.cells S.I.an ?_);refine gZ results91 S.I.an ?_;exact ⟨q2,rfl,HP.I.trans HT.I,S.I.done _⟩
  subst hz;have afO:decide ((i:Int)>=0)=true:=decide_eq_true zo;have HW:bE (jl 7 N qk.pure.L8=o_ v.toaD/\qk.L8[i]? =o_ v/\v.Md=7):=⟨hw,hi,(ft hw).2.1⟩
  clear hw hi;obtain ⟨-,-,-,o3⟩:=S.I.op.cells;simp only at o3;obtain ⟨gp,l9,-⟩:=cn S.I.fr.own.at.1 HW.I.2.1;have m2:=S.I.fr.box.cells.2.2.1;have k1:(i:Int) < (qk.L8.length:Int):=by have:=(Lj.1 HW.I.2.1).1; omega
  have k0:(0:Int)<=(i:Int):=zo
  rw [l9] at m2;obtain ⟨s1,⟨u,c⟩,f⟩:=eY (n:=i) (j:=9) (v:=t_ s) (y:= { v with got:=s }) S.I.fr.own HW.I.2.1 l9 ⟨rfl,rfl,rfl⟩ (by decide) rfl;replace S:=aA (S.I.call s1);clear s1 l9;go_upto_region 12 with fail;generalize wr.setCell ⟨gp,i * 12+9,n_⟩ (t_ s)=E at *;clear m2 c f u k0 k1 afO o3;obtain ⟨afn,hqg,g1,g2,g3,g4⟩:=kg HK.I.1.r HW.I.2.1 IB.I;rw [<- hqg] at S;have Mb:=lP (n:=i) S.I.fr.own S.I.low g3 g4 (by show ¬ v.Md=0; rw [HW.I.2.2]; decide) (by rw [hqg]; have:=HK.I.1.nx; show qk.next<=_; omega);rw [g1,g2,show ({ v with got:=s } :ao).toaD=lG s v.toaD from rfl,Bz] at Mb;clear hqg g1 g2 g3 g4;go_wp2_with (refine eT 4 S.I.fr.box ?_);refine Mb.mono ?_;clear Mb;rintro e afP ⟨q2,rfl,hp,ht⟩;replace S:=aA (S.I.call ht);have HJ:=aA (HK.I.1.step (q2:=q2) HR.I.2.2.1 ⟨by decide,by decide⟩ (.inr ⟨_,IB.I,rfl⟩) HW.I.1 hp);clear hp ht;have S2:=aA S.I.put;go_upto_region 10 with (refine ec 4 55 q2.cells S.I.fr.box ?_);generalize afP.setRow w.heap.size q2.cells=afv at *;clear S;have S:=S2;clear S2;obtain ⟨-,o1,-,-⟩:=S.I.op.cells;simp only at o1;have Mb:=ij q2 7 N afv (by have:=(dW HJ.I.2.2.1).1; omega) S.I.fr.own.at;go_wp2_with (refine eT 4 S.I.fr.box ?_);refine Mb.mono ?_;clear Mb o1;rintro e R1 ⟨⟨z2,rfl,gV⟩,hb2⟩;exact ZaB
end Go.Proofs.YtfncpmaefninjaaGreatDoor

namespace Go.Proofs.YtfncpmaefninjaaGreatDoor
open Go.Maps
attribute [local go_sem ↓] Kc Kd
def BS (q:af) (n bj:Nat) (x:ao) (o:dN) (w:w_) (h:ap w bj q) (hb:bj<=w.heap.size) (hr:aQ q.pure) (hx:q.L8[n]? =o_ x) (hs:x.Md=1) (hn:q.next<=999999990) (ho:kc o=true) (hk:o.1=14):
  k_ J3 92 #[a_ q.cells,i_ j_ n,a_ (j9 o)] w (jH w bj q (gC o x.id q.pure)):=by
 obtain ⟨-,f1,f2,f3,f4⟩:=dv ho;have hM:=bz.1 f2;obtain ⟨k,N,M,s⟩:=o;simp only at hk hM f1 f3 f4;subst hk;have HR:bE (aQ q.pure/\q.L8[n]? =o_ x/\x.Md=1/\q.next<=999999990/\(-1<=M/\M<=1000)):=⟨hr,hx,hs,hn,hM⟩
 have HF:=aA (dW hr);clear f2 hr hx hs hn hM ho;have S:=aA (Xf.start (o:=(14,N,M,s)) h hb);clear h hb
 go_enter func92,ntmps92
 go_upto_region 1 with fail;generalize ((w.alloc (c_ q.cells 31)).alloc (c_ (j9 (14,N,M,s)) 45)).alloc (c_ ar 31)=A at *;obtain ⟨-,o1,-,-⟩:=S.I.op.cells;simp only at o1;have hpf:=ef (num:=fun x:aM=>x.id) N q.ai 0;have Mb:=uV q N A ZcL S.I.fr.own.at;generalize place (q.ai.map (fun x=>x.id)) N 0=z at *;go_wp2_with (refine eT 3 S.I.fr.box ?_);refine Mb.mono ?_;clear Mb;rintro e A2 ⟨rfl,hb2⟩;replace S:=aA (S.I.reads hb2);clear hb2 o1;have hfm:=lJ (num:=fun x:dS=>x.id) (je:=fun x:aM=>x.id) (g:=fun x:aM=>x.todS) (fun _=>rfl) (id:=N) q.ai;rcases hpf with ⟨hz,hf⟩ | ⟨m,y,hz,hm,hid,hf⟩
 .subst hz
  rw [hf] at hfm;have HE:bE (gC (14,N,M,s) x.id q.pure=bu 3 x.id q.pure):=by show gC (14,N,M,s) x.id q.pure=_; unfold gC; rw [show cg (fun x:dS=>x.id) N q.pure.ai=n_ from hfm]
  exact Zci
 rw [hf] at hfm;rw [Li] at hz;subst hz;have afO:decide ((m:Int) < 0)=false:=decide_eq_false zo;have HM:bE (q.ai[m]? =o_ y/\y.id=N/\cg (fun x:dS=>x.id) N q.pure.ai=o_ y.todS):=⟨hm,hid,hfm⟩
 have hml:=(Lj.1 hm).1;have j0:(0:Int)<=(m:Int):=zo
 have j1:(m:Int) < (q.ai.length:Int):=zo
 clear hm hid hf hfm hml;go_upto_region 2 with fail;replace S:=aA (S.I.reads (Kp _ _).drew);refine aT (fun w1=>w1=A2.drew) ZcE rfl ?_;generalize A2.drew=B at *;obtain ⟨Y5,iE,hat⟩:=lm S.I.fr.own.at.2.2.2.2.2 HM.I.1;have m7:=S.I.fr.box.cells.2.2.2.2.2.2.2;rw [iE] at m7;have d0:=hat.1;have d1:=hat.2.1;have d2:=hat.2.2.1;have d3:=hat.2.2.2.1;have d4:=hat.2.2.2.2;have HG:bE (q.aK=o_ ⟨Y5,0,n_⟩):=iE;clear hat iE;obtain ⟨o0,-,-,-⟩:=S.I.op.cells;simp only at o0
 iterate 14 (refine agj ?_)
 refine bk ZcE ?_ _;intro w1 cm;rw [cm];clear cm w1 afO;clear f1 f3 f4;have tI:bE ((∀ u∈y.Ma,bw u=true)/\y.Ma.length<=5/\(y.Ma.length:Int)<=y.max/\1<=y.max):=by
  have h5:=nB (o:=(14,N,M,s)) HR.I.1 HM.I.2.2; have h6:=An HR.I.1 (Lr.2 ⟨y,KA HM.I.1,rfl⟩);exact Zbj
 cases hu:y.I;rotate_left
 .rw [hu] at d1
  have HE:bE (gC (14,N,M,s) x.id q.pure=bu 3 x.id q.pure):=by show gC (14,N,M,s) x.id q.pure=_; unfold gC; rw [show cg (fun x:dS=>x.id) N q.pure.ai=o_ y.todS from HM.I.2.2]; exact if_pos hu
  exact i8
 have HO:bE (y.I=false):=hu;clear hu;rw [HO.I] at d1;have h5:=(Kp B.heap.size B).alloc (Ki _) (c_ #[i_ j_ y.id,b_ false,b_ y.Mf,i_ j_ y.max,s_ y.ak y.Ma.length y.aq] 115);have afa:bE ((B.alloc (c_ #[i_ j_ y.id,b_ false,b_ y.Mf,i_ j_ y.max,s_ y.ak y.Ma.length y.aq] 115)).heap[B.heap.size]? =o_ (c_ #[i_ j_ y.id,b_ false,b_ y.Mf,i_ j_ y.max,s_ y.ak y.Ma.length y.aq] 115)/\w.heap.size+3<=B.heap.size):=⟨Kj _ _,S.I.fr.sz.2.1⟩
 replace S:=aA (S.I.reads h5);clear h5;go_upto_region 5 with fail;generalize B.alloc (c_ #[i_ j_ y.id,b_ false,b_ y.Mf,i_ j_ y.max,s_ y.ak y.Ma.length y.aq] 115)=C at *;generalize B.heap.size=X at *;clear m7 d0 d1 d2 d3 d4 o0;obtain ⟨o0,-,-,-⟩:=S.I.op.cells;simp only at o0;go_upto_region 13 with fail;clear o0;obtain ⟨gp,l9,-⟩:=cn S.I.fr.own.at.1 HR.I.2.1;have m2:=S.I.fr.box.cells.2.2.1;have k1:(n:Int) < (q.L8.length:Int):=by have:=(Lj.1 HR.I.2.1).1; omega
 have k0:(0:Int)<=(n:Int):=zo
 rw [l9] at m2;have ud:bE (q.aN=o_ ⟨gp,0,n_⟩):=l9;clear l9;obtain ⟨s1,⟨u,c⟩,f⟩:=eY (n:=n) (j:=9) (v:=t_ ⟨#[]⟩) (y:= { x with got:=rM }) S.I.fr.own HR.I.2.1 ud.I ⟨rfl,rfl,rfl⟩ (by decide) rfl;have lW:(C.setCell ⟨gp,n * 12+9,n_⟩ (t_ ⟨#[]⟩)).heap[X]? =o_ (c_ #[i_ j_ y.id,b_ false,b_ y.Mf,i_ j_ y.max,s_ y.ak y.Ma.length y.aq] 115):=(aH (fun e=>by have h5:=(S.I.fr.lo gp (gD (.inl (by rw [ud.I]; simp [blk])))).2; have:=afa.I.2; omega)).trans afa.I.1;replace S:=aA (S.I.call s1);replace afa:=aA (And.intro lW afa.I.2);clear s1 lW;go_upto_region 14 with fail;generalize C.setCell ⟨gp,n * 12+9,n_⟩ (t_ ⟨#[]⟩)=D at *;clear m2 c f u;have x4:D.cell? ⟨X,4,n_⟩=o_ (s_ y.ak y.Ma.length y.aq):=by simp [World.cell?,afa.I.1]
 cases hit:y.Ma with
 | nil=>
  rw [hit] at x4;have HE:bE (gC (14,N,M,s) x.id q.pure=bu 1 x.id (ez rM x.id q.pure)):=by show gC (14,N,M,s) x.id q.pure=_; unfold gC; rw [show cg (fun x:dS=>x.id) N q.pure.ai=o_ y.todS from HM.I.2.2]; dsimp only; rw [if_neg (show ¬ y.I=true by rw [HO.I]; decide),show y.todS.Ma= [] from hit]
  clear afa hit;obtain ⟨q1,hq1,hq⟩:=kg HR.I.1 HR.I.2.1 jX;rw [<- hq1] at S;have HQ:=aA hq;clear hq1 hq;have Mb:=bB (n:=n) 1 S.I.fr.own S.I.low HQ.I.2.2.1 HQ.I.2.2.2 ZcS;rw [HQ.I.1,HQ.I.2.1] at Mb;go_wp2_with (refine eT 3 S.I.fr.box ?_);refine Mb.mono ?_;clear Mb;rintro e A2 ⟨q9,rfl,hp,ht⟩;replace S:=aA (S.I.call ht);have HP:bE (q9.pure=_):=hp;clear hp ht;go_wp2_with (refine ec 6 88 q9.cells S.I.an ?_);exact ue
 | cons t0 r=>
  have jA:bE (y.Ma=t0 :: r/\bw t0=true/\ ∀ u∈r,bw u=true):=⟨hit,tI.I.1 t0 (by rw [hit]; simp),fun u hu=>tI.I.1 u (by rw [hit]; simp [hu])⟩
  have il:(0:Int) < (y.Ma.length:Int):=by rw [hit]; simp
  have il3:0 < y.Ma.length:=by rw [hit]; simp
  have il4: ¬ y.Ma.length=0:=zo
  have il2:((y.Ma.length:Int) == 0)=false:=by rw [hit]; simp; omega
  have HU:bE (gC (14,N,M,s) x.id q.pure=bu 0 x.id (if y.Mf then gU N r (ez t0 x.id q.pure) else ez t0 x.id q.pure)):=by show gC (14,N,M,s) x.id q.pure=_; unfold gC; rw [show cg (fun x:dS=>x.id) N q.pure.ai=o_ y.todS from HM.I.2.2]; dsimp only; rw [if_neg (show ¬ y.I=true by rw [HO.I]; decide),show y.todS.Ma=t0 :: r from hit]
  clear hit;go_upto_region 16 with fail;clear x4 il2;replace afa:bE (D.drew.heap[X]? =o_ (c_ #[i_ j_ y.id,b_ false,b_ y.Mf,i_ j_ y.max,s_ y.ak y.Ma.length y.aq] 115)/\w.heap.size+3<=X):=afa.I;replace S:=aA (S.I.reads (Kp _ _).drew);refine eD (fun w1=>w1=D.drew) 9 ZcE rfl ?_;generalize D.drew=E at *;have x4:E.cell? ⟨X,4,n_⟩=o_ (s_ y.ak y.Ma.length y.aq):=by simp [World.cell?,afa.I.1]
  obtain ⟨abo,hgi,x5⟩:=zl (nJ S.I.fr.own.at.2.2.2.2.2 HM.I.1) (show y.Ma[0]? =o_ t0 by rw [jA.I.1]; rfl);rw [hgi] at x4;have m2:=S.I.fr.box.cells.2.2.1;rw [ud.I] at m2;obtain ⟨s1,⟨u,c⟩,f⟩:=eY (n:=n) (j:=9) (v:=t_ t0) (x:= { x with got:=rM }) (y:= { x with got:=t0 }) S.I.fr.own (by show (q.L8.set n _)[n]? =_; rw [LU (Lj.1 HR.I.2.1).1]) ud.I ⟨rfl,rfl,rfl⟩ (by decide) rfl;have lW:(E.setCell ⟨gp,n * 12+9,n_⟩ (t_ t0)).heap[X]? =o_ (c_ #[i_ j_ y.id,b_ false,b_ y.Mf,i_ j_ y.max,s_ y.ak y.Ma.length y.aq] 115):=(aH (fun e=>by have h5:=(S.I.fr.lo gp (gD (.inl (by rw [ud.I]; simp [blk])))).2; have:=afa.I.2; omega)).trans afa.I.1;replace S:=aA (S.I.call s1);replace afa:=aA (And.intro lW afa.I.2);clear s1 lW hgi;simp only [PV] at S
  iterate 9 (refine ly 10 (v:= ?_) (o_ _) rfl rfl ZcE (fun _ _ _ h=>h) (bV ZcE ?_) ?_; rotate_left; (intro w0 hS0; subst hS0; go_simp; try with_reducible rfl); simp only [pt,sb,s0,s1])
  refine fL rfl ZcE ZcE ZcE ?_;intro w1 cm;rw [cm];clear cm w1
  go_simp
  generalize E.setCell ⟨gp,n * 12+9,n_⟩ (t_ t0)=G at *;clear m2 x4 x5 c f u k0 k1 il il3 il4;obtain ⟨q1,hq1,hq⟩:=kg HR.I.1 HR.I.2.1 jA.I.2.1;have HB:bE (q1.ai=q.ai/\q1.aK=q.aK/\q1.pure.ai=q.pure.ai):=by rw [hq1]; exact ⟨rfl,rfl,rfl⟩
  rw [<- hq1] at S;have HQ:=aA hq;clear hq1 hq;have x2:G.cell? ⟨X,2,n_⟩=o_ (b_ y.Mf):=by simp [World.cell?,afa.I.1]
  cases nu:y.Mf
  .rw [nu] at x2
   have HE:bE (gC (14,N,M,s) x.id q.pure=bu 0 x.id (ez t0 x.id q.pure)):=by show gC (14,N,M,s) x.id q.pure=_; rw [HU.I,nu]; rfl
   clear nu afa HU;have Mb:=bB (n:=n) 0 S.I.fr.own S.I.low HQ.I.2.2.1 HQ.I.2.2.2 ZcS;rw [HQ.I.1,HQ.I.2.1] at Mb;exact Zcn
  rw [nu] at x2;have HE:bE (gC (14,N,M,s) x.id q.pure=bu 0 x.id (gU N r (ez t0 x.id q.pure))):=by show gC (14,N,M,s) x.id q.pure=_; rw [HU.I,nu]; rfl
  clear nu HU;go_upto_region 18 with fail;clear x2;replace S:=aA (S.I.reads (Kp _ _).drew);replace afa:bE (G.drew.heap[X]? =o_ (c_ #[i_ j_ y.id,b_ false,b_ y.Mf,i_ j_ y.max,s_ y.ak y.Ma.length y.aq] 115)/\w.heap.size+3<=X):=afa.I;refine Kr (S:=fun w'=>av w' w.heap.size q/\w'.heap[X]? =o_ (c_ #[i_ j_ y.id,b_ false,b_ y.Mf,i_ j_ y.max,s_ y.ak y.Ma.length y.aq] 115)) ZcE ⟨S.I.fr.box,afa.I.1⟩ (fun bC=> ?_);generalize G.drew=V2 at *;have GO:bE (q1.ai[m]? =o_ y):=by rw [HB.I.1]; exact HM.I.1
  have il:(1:Int)<=(y.Ma.length:Int):=by rw [jA.I.1]; simp; omega
  have af5:(y.Ma.length:Int)<=(y.aq:Int):=by have h5:y.Ma.length<=y.aq:=nV (S.I.fr.own.eR y (KA GO.I)); omega
  have ic2:(1:Int)<=(y.aq:Int):=zo
  obtain ⟨afs,hTA⟩: ∃ afs:Option d_,(if y.aq=1 then y.ak else Option.map (fun x:d_=>(⟨x.block,x.off+1,n_⟩:d_)) y.ak)=afs:=⟨_,rfl⟩
  refine agi 0 bC ?_;refine agi 1 bC ?_;refine agi 2 bC ?_;refine agi 4 bC ?_;refine agi 5 bC ?_;refine agi 6 bC ?_;clear bC il af5 ic2;have lW:=(J2.1 afa.I.1).1;have hS: ∀ W,B_ V2.heap.size V2 W->av W w.heap.size q/\W.heap[X]? =o_ (c_ #[i_ j_ y.id,b_ false,b_ y.Mf,i_ j_ y.max,s_ y.ak y.Ma.length y.aq] 115):=fun W hb=>⟨S.I.fr.box.below hb,(hb.block _ lW).trans afa.I.1⟩
  have b1:B_ V2.heap.size V2 (V2.alloc (c_ #[] 9)):=(Kp _ _).alloc (Ki _) _;refine L7 3 (fun K hK=> ?_);go_wp2_with fail;refine hK.out _ _ (hS _ b1) (fun bC=> ?_);clear hK K bC
  try simp only [pt,sb,s0,s1]
  have hlr:y.Ma.length - 1=r.length:=by rw [jA.I.1]; rfl
  have pI:y.Ma.drop 1=r:=by rw [jA.I.1]; rfl
  have hsrc:=vg (c:=y.aq) (nV (S.I.fr.own.eR y (KA GO.I))) (nJ (S.I.fr.own.below b1).at.2.2.2.2.2 GO.I);rw [hTA] at hsrc;obtain ⟨a7,c7,w7,hap,mP,xI,-⟩:=ou (V2.alloc (c_ #[] 9)) V2.heap.size (o_ ⟨V2.heap.size,0,n_⟩) 0 [] (i6 (Kj _ _) (Ki _)) afs (y.Ma.drop 1) (y.aq - 1) hsrc (by rw [Ql]; have:=tI.I.2.1; show 0+_<=_; omega) b1.size;clear hsrc hTA;have gh:B_ V2.heap.size V2 w7:=b1.grown xI b1.size fun c e=>by cases e; exact Ki _
  rw [Ql,hlr] at hap mP;simp only [K4,Li,Ll,pI] at hap mP;rw [<- hlr] at hap;obtain ⟨s1,⟨u,c⟩,f⟩:=pg (n:=m) S.I.fr.own (aI.dI gh) GO.I (HB.I.2.1.trans HG.I) (cq mP S.I.low) (fun g hg=> .inr (cf mP hg).1);rw [<- hlr] at s1;have HLR:bE (y.Ma.length - 1=r.length):=hlr;clear hlr;refine L7 7 (fun K hK=> ?_);refine cM _ _ _ rfl _ _ _ w7 rfl rfl hap ?_;refine hK.out _ _ ⟨S.I.fr.box.below gh,(gh.block _ lW).trans afa.I.1⟩ (fun bC=> ?_);clear hK K bC
  try simp only [pt,sb]
  have wj:av w7 w.heap.size q/\w7.heap[X]? =o_ (c_ #[i_ j_ y.id,b_ false,b_ y.Mf,i_ j_ y.max,s_ y.ak y.Ma.length y.aq] 115):=⟨S.I.fr.box.below gh,(gh.block _ lW).trans afa.I.1⟩
  replace S:=aA (S.I.call s1);clear hap mP xI gh s1 b1 hS;refine agi 8 wj ?_;refine agi 9 wj ?_;have uQ:(w7.setCell ⟨Y5,m * 5+4,n_⟩ (s_ a7 (y.Ma.length - 1) c7)).heap[X]? =o_ (c_ #[i_ j_ y.id,b_ false,b_ y.Mf,i_ j_ y.max,s_ y.ak y.Ma.length y.aq] 115):=(aH (fun e=>by have h5:=(S.I.fr.lo Y5 (gD (.inr <| .inr <| .inr <| .inr <| .inr <| by rw [HG.I]; simp [blk]))).2; have:=afa.I.2; omega)).trans wj.2;refine L7 10 (fun K hK=> ?_);go_wp2_with fail;refine hK.out _ _ ⟨S.I.fr.box,uQ⟩ (fun bC=> ?_);clear hK K bC;refine K3 ZcE ?_ _;clear c f u wj lW uQ;go_upto_region 19 with fail;generalize w7.setCell ⟨Y5,m * 5+4,n_⟩ (s_ a7 (y.Ma.length - 1) c7)=J at *;obtain ⟨q2,pv⟩: ∃ q2:af,q2= { q1 with ai:=q1.ai.set m { y with Ma:=r,ak:=a7,aq:=c7 } } :=⟨_,rfl⟩
  have ky:bE (q2.pure=gU N r (ez t0 x.id q.pure)/\q2.cells=q.cells/\aQ q2.pure/\q2.L8[n]? =o_ { x with got:=t0 }):=by
   have h5:q2.pure=gU N r q1.pure:=by rw [pv]; exact sq HQ.I.2.2.1.ai GO.I HM.I.2.1
   have h6:aQ (gU N r q1.pure):=jj HQ.I.2.2.1 (fun z hz hk=>by rw [HB.I.2.2] at hz; rw [only HR.I.1.ai HM.I.2.2 hz hk]; have h7:=tI.I.2.2.1; rw [jA.I.1] at h7; have h8:y.todS.max=y.max:=rfl; simp only [Lg] at h7; omega) jA.I.2.2;exact ⟨by rw [h5,HQ.I.1],by rw [pv]; exact Eq.trans (by unfold af.cells; simp) HQ.I.2.1,by rw [h5]; exact h6,by rw [pv]; exact HQ.I.2.2.2⟩
  rw [<- pv] at S;clear pv HLR pI afa;have Mb:=bB (n:=n) 0 S.I.fr.own S.I.low ky.I.2.2.1 ky.I.2.2.2 ZcS;rw [ky.I.1,ky.I.2.1] at Mb;exact Zcn
end Go.Proofs.YtfncpmaefninjaaGreatDoor

namespace Go.Proofs.YtfncpmaefninjaaGreatDoor
open Go.Maps
attribute [local go_sem ↓] Kc Kd
def Aa {p:aE} {y:aD} {N:Int} (h:aQ p) (hf:cg (fun x:aD=>x.id) N p.L8=o_ y) (h0:y.Md=0) (hn:p.next<=999999990):aQ (py N p):=by
 have hnx:=bz.1 h.next;refine h.ju (nx:=p.next+1) (f:=fun y=> { y with Md:=1,RU:=p.next }) (fun _=>rfl) ⟨zo,zo⟩ fun z hz hi=> ?_
 have e:=only h.L8 hf hz hi;subst e;obtain ⟨-,q1,q2,q3⟩:=h.proc hz;have q4:=iF q1;rw [fG,J7] at q1;have q5:=q1.2;unfold bO at q5;rw [if_pos h0] at q5;simp only [J7,decide_eq_true_eq] at q5;obtain ⟨⟨⟨⟨⟨a1,a2⟩,a3⟩,a4⟩,a5⟩,a6⟩:=q5;have q6:jm z.prog=true:=by
  unfold jY at q4;simp only [J7] at q4;exact q4.1.1.1.2
 refine ⟨?_,?_,rfl,.inr (.inr rfl)⟩
 .exact Zbn
 .unfold fF
  rw [Kb];exact ZaY
def sP {q q2:af} {n:Nat} {k nx:Int} {x:ao} {f:aD->aD} (hx:q.L8[n]? =o_ x) (hk: ¬ x.id=k) (hp:q2.pure= { q.pure with next:=nx,L8:=ce k f q.pure.L8 }): ∃ x2,q2.L8[n]? =o_ x2/\x2.toaD=x.toaD:=
 tQ (by rw [hp]; exact ym (mj hx) hk)
def A0 {q q2:af} {n:Nat} {N:Int} {x:ao} {y:aD} (hr:aQ q.pure) (hx:q.L8[n]? =o_ x) (hs:x.Md=1) (hf:cg (fun x:aD=>x.id) N q.pure.L8=o_ y) (h0:y.Md=0) (hn:q.next<=999999990) (hp:q2.pure=py N q.pure):
  aQ q2.pure/\ ∃ x2,q2.L8[n]? =o_ x2/\x2.toaD=x.toaD:=by
 refine ⟨by rw [hp]; exact Aa hr hf h0 hn,sP hx (fun e=> ?_) hp⟩
 have:=only hr.L8 hf (iu hx) e
 rw [<- this] at h0;have h2:x.toaD.Md=1:=hs;omega
def BU (q:af) (n bj:Nat) (x:ao) (o:dN) (w:w_) (h:ap w bj q) (hb:bj<=w.heap.size) (hr:aQ q.pure) (hx:q.L8[n]? =o_ x) (hs:x.Md=1) (hn:q.next<=999999990) (ho:kc o=true) (hk:o.1=15):
  k_ J3 93 #[a_ q.cells,i_ j_ n,a_ (j9 o)] w (jH w bj q (jU o x.id q.pure)):=by
 obtain ⟨-,f1,f2,f3,f4⟩:=dv ho;have hM:=bz.1 f2;obtain ⟨k,N,M,s⟩:=o;simp only at hk hM f1 f3 f4;subst hk;have HR:bE (aQ q.pure/\q.L8[n]? =o_ x/\x.Md=1/\q.next<=999999990/\(-1<=M/\M<=1000)):=⟨hr,hx,hs,hn,hM⟩
 have HF:=aA (dW hr);clear f2 hr hx hs hn hM ho;have S:=aA (Xf.start (o:=(15,N,M,s)) h hb);clear h hb
 go_enter func93,ntmps93
 go_upto_region 1 with fail;generalize ((w.alloc (c_ q.cells 31)).alloc (c_ (j9 (15,N,M,s)) 45)).alloc (c_ ar 31)=A at *;obtain ⟨-,o1,-,-⟩:=S.I.op.cells;simp only at o1;have hpf:=ef (num:=fun x:ao=>x.id) N q.L8 0;have Mb:=lS q N A ZcL S.I.fr.own.at;generalize place (q.L8.map (fun x=>x.id)) N 0=z at *;go_wp2_with (refine eT 3 S.I.fr.box ?_);refine Mb.mono ?_;clear Mb;rintro e A2 ⟨rfl,hb2⟩;replace S:=aA (S.I.reads hb2);clear hb2 o1;have hfm:=lJ (num:=fun x:aD=>x.id) (je:=fun x:ao=>x.id) (g:=fun x:ao=>x.toaD) (fun _=>rfl) (id:=N) q.L8;rcases hpf with ⟨hz,hf⟩ | ⟨m,y,hz,hm,hid,hf⟩
 .subst hz
  rw [hf] at hfm;have HE:bE (jU (15,N,M,s) x.id q.pure=bu 3 x.id q.pure):=by show jU (15,N,M,s) x.id q.pure=_; unfold jU; rw [show cg (fun x:aD=>x.id) N q.pure.L8=n_ from hfm]
  exact Zcg
 rw [hf] at hfm;rw [Li] at hz;subst hz;have afO:decide ((m:Int) < 0)=false:=decide_eq_false zo;have HM:bE (q.L8[m]? =o_ y/\y.id=N/\cg (fun x:aD=>x.id) N q.pure.L8=o_ y.toaD):=⟨hm,hid,hfm⟩
 have hml:=(Lj.1 hm).1;have j0:(0:Int)<=(m:Int):=zo
 have j1:(m:Int) < (q.L8.length:Int):=zo
 obtain ⟨gp,l9,hat⟩:=cn S.I.fr.own.at.1 hm;have HG:bE (q.aN=o_ ⟨gp,0,n_⟩):=l9;obtain ⟨o0,-,-,-⟩:=S.I.op.cells;simp only at o0;have m2:=S.I.fr.box.cells.2.2.1;rw [l9] at m2;have d3:=hat.2.2.2.1;clear hm hid hf hfm hml hat l9;by_cases h0:y.Md=0;rotate_left
 .have e1:(y.Md == 0)=false:=by simp [h0]
  have HE:bE (jU (15,N,M,s) x.id q.pure=bu 1 x.id q.pure):=by show jU (15,N,M,s) x.id q.pure=_; unfold jU; rw [show cg (fun x:aD=>x.id) N q.pure.L8=o_ y.toaD from HM.I.2.2]; exact if_neg h0
  exact Zch
 have e1:(y.Md == 0)=true:=by simp [h0]
 have HE:bE (jU (15,N,M,s) x.id q.pure=bu 0 x.id (py N q.pure)):=by show jU (15,N,M,s) x.id q.pure=_; unfold jU; rw [show cg (fun x:aD=>x.id) N q.pure.L8=o_ y.toaD from HM.I.2.2]; exact if_pos h0
 have HN:bE (y.Md=0):=h0;clear h0;obtain ⟨s1,⟨u,c⟩,f⟩:=eY (n:=m) (j:=3) (v:=i_ j_ 1) (y:= { y with Md:=1 }) S.I.fr.own HM.I.1 HG.I ⟨rfl,rfl,rfl⟩ (by decide) rfl;replace S:=aA (S.I.call s1);clear s1;go_upto_region 9 with fail;generalize A2.setCell ⟨gp,m * 12+3,n_⟩ (i_ j_ 1)=C at *;clear m2 d3 c f u afO e1 o0 j0 j1;have hq:({ q with L8:=q.L8.set m { y with Md:=1 } } :af).pure= { q.pure with next:=q.next,L8:=ce y.id (fun z=> { z with Md:=1 }) q.pure.L8 } :=g7 (nx:=q.next) HR.I.1.kW HM.I.1 rfl;have Mb:=oT (n:=m) (x:= { y with Md:=1 }) S.I.fr.own S.I.low (us HR.I.1.kW HM.I.1 rfl) (by show (q.L8.set m _)[m]? =_; rw [LU (Lj.1 HM.I.1).1]) ⟨by have h5:=bz.1 HR.I.1.next; have:q.pure.next=q.next:=rfl; show 0<=q.next; omega,by have:=HR.I.2.2.2.1; show q.next<=_; omega⟩;rw [jd (nx:=q.next),hq] at Mb;have HS:bE ({ q.pure with next:=q.next+1,L8:=ce y.id (fun z=> { z with RU:=q.next }) (ce y.id (fun z=> { z with Md:=1 }) q.pure.L8) } =py N q.pure):=by show _=py N q.pure; rw [pm (by intro _; rfl),HM.I.2.1]; rfl
 clear hq;go_wp2_with (refine eT 3 S.I.fr.box ?_);refine Mb.mono ?_;clear Mb;rintro e afl ⟨q2,rfl,hp,ht⟩;replace S:=aA (S.I.call ht);replace hp:=hp.trans HS.I;obtain ⟨hr2,x2,hx2,sw⟩:=A0 HR.I.1 HR.I.2.1 HR.I.2.2.1 HM.I.2.2 HN.I HR.I.2.2.2.1 hp;have Mb:=bB (n:=n) 0 S.I.fr.own S.I.low hr2 hx2 ZcM;rw [show x2.id=x.id from congrArg aD.id sw,hp,<- HE.I] at Mb;clear hp ht hr2 hx2 sw;go_wp2_with fail;refine Mb.mono ?_;clear Mb;rintro e C22 ⟨q3,rfl,hp,ht⟩;replace S:=aA (S.I.call ht);have HP:bE (q3.pure=_):=hp;clear hp ht;go_wp2_with (refine ec 6 43 q3.cells S.I.an ?_);refine gZ results93 S.I.an ?_;exact ⟨q3,rfl,HP.I,S.I.done _⟩
def C9 (q:af) (n bj:Nat) (x:ao) (o:dN) (w:w_) (h:ap w bj q) (hb:bj<=w.heap.size) (hr:aQ q.pure) (hx:q.L8[n]? =o_ x) (hs:x.Md=1) (hn:q.next<=999999990) (ho:kc o=true) (hk:o.1=16):
  k_ J3 93 #[a_ q.cells,i_ j_ n,a_ (j9 o)] w (jH w bj q (lg o x.id q.pure)):=by
 obtain ⟨-,f1,f2,f3,f4⟩:=dv ho;have hM:=bz.1 f2;obtain ⟨k,N,M,s⟩:=o;simp only at hk hM f1 f3 f4;subst hk;have HR:bE (aQ q.pure/\q.L8[n]? =o_ x/\x.Md=1/\q.next<=999999990/\(-1<=M/\M<=1000)):=⟨hr,hx,hs,hn,hM⟩
 have HF:=aA (dW hr);clear f2 hr hx hs hn hM ho;have S:=aA (Xf.start (o:=(16,N,M,s)) h hb);clear h hb
 go_enter func93,ntmps93
 go_upto_region 1 with fail;generalize ((w.alloc (c_ q.cells 31)).alloc (c_ (j9 (16,N,M,s)) 45)).alloc (c_ ar 31)=A at *;obtain ⟨-,o1,-,-⟩:=S.I.op.cells;simp only at o1;have hpf:=ef (num:=fun x:ao=>x.id) N q.L8 0;have Mb:=lS q N A ZcL S.I.fr.own.at;generalize place (q.L8.map (fun x=>x.id)) N 0=z at *;go_wp2_with (refine eT 3 S.I.fr.box ?_);refine Mb.mono ?_;clear Mb;rintro e A2 ⟨rfl,hb2⟩;replace S:=aA (S.I.reads hb2);clear hb2 o1;have hfm:=lJ (num:=fun x:aD=>x.id) (je:=fun x:ao=>x.id) (g:=fun x:ao=>x.toaD) (fun _=>rfl) (id:=N) q.L8;rcases hpf with ⟨hz,hf⟩ | ⟨m,y,hz,hm,hid,hf⟩
 .subst hz
  rw [hf] at hfm;have HE:bE (lg (16,N,M,s) x.id q.pure=bu 3 x.id q.pure):=by show lg (16,N,M,s) x.id q.pure=_; unfold lg; rw [show cg (fun x:aD=>x.id) N q.pure.L8=n_ from hfm]
  exact Zcg
 rw [hf] at hfm;rw [Li] at hz;subst hz;have afO:decide ((m:Int) < 0)=false:=decide_eq_false zo;have HM:bE (q.L8[m]? =o_ y/\y.id=N/\cg (fun x:aD=>x.id) N q.pure.L8=o_ y.toaD):=⟨hm,hid,hfm⟩
 have hml:=(Lj.1 hm).1;have j0:(0:Int)<=(m:Int):=zo
 have j1:(m:Int) < (q.L8.length:Int):=zo
 obtain ⟨gp,l9,hat⟩:=cn S.I.fr.own.at.1 hm;have HG:bE (q.aN=o_ ⟨gp,0,n_⟩):=l9;obtain ⟨o0,-,-,-⟩:=S.I.op.cells;simp only at o0;have m2:=S.I.fr.box.cells.2.2.1;rw [l9] at m2;have d3:=hat.2.2.2.1;clear hm hid hf hfm hml hat l9;by_cases h0:y.Md=0
 .have e1:(y.Md == 0)=true:=by simp [h0]
  have HE:bE (lg (16,N,M,s) x.id q.pure=bu 1 x.id q.pure):=by show lg (16,N,M,s) x.id q.pure=_; unfold lg; rw [show cg (fun x:aD=>x.id) N q.pure.L8=o_ y.toaD from HM.I.2.2]; exact if_pos h0
  exact Zch
 have e1:(y.Md == 0)=false:=by simp [h0]
 have HE:bE (lg (16,N,M,s) x.id q.pure=if N=x.id then ot x.id q.pure else bu 0 x.id (ot N q.pure)):=by show lg (16,N,M,s) x.id q.pure=_; unfold lg; rw [show cg (fun x:aD=>x.id) N q.pure.L8=o_ y.toaD from HM.I.2.2]; exact if_neg h0
 clear h0;go_upto_region 10 with fail;clear m2 d3 afO e1 o0;replace S:=aA (S.I.reads (Kp _ _).drew);have HT:bE (∀ w1,Xf w bj q q q (16,N,M,s) w1->Ba w.heap.size gp m q y w1):=fun w1 h1=>by
  obtain ⟨g,hg,hat⟩:=cn h1.fr.own.at.1 HM.I.1;rw [HG.I] at hg;cases hg;exact ⟨h1.m2 HG.I,hat⟩
 refine eD (fun w1=>Ba w.heap.size gp m q y w1/\bE (Xf w bj q q q (16,N,M,s) w1)) 10 ZcE ⟨HT.I _ S.I,S⟩ ?_;clear S
 iterate 8 (refine ly 11 (v:= ?_) (o_ _) rfl rfl ZcE (fun _ _ _ h=>h) (bV ZcE ?_) ?_; rotate_left; (intro w0 hS0; obtain ⟨⟨o2,d0,d1,d2,d3,d4,d5,d6,d7,d8,d9,tH,tS⟩,hH⟩:=hS0; go_simp; try with_reducible rfl); simp only [pt,sb,s0,s1])
 refine ly 11 (v:=a_ (sy y)) (o_ _) rfl rfl ZcE (fun _ _ _ h=>h) (iZ (f:=124) (args:= #[a_ y.row]) ZcE ?_ ?_) ?_
 .intro w0 hS0
  obtain ⟨⟨o2,d0,d1,d2,d3,d4,d5,d6,d7,d8,d9,tH,tS⟩,hH⟩:=hS0
  exact BC
 .intro w0 hS0
  refine (mN y w0).mono ?_;rintro e w2 ⟨rfl,hb2⟩;have h6:=aA (hS0.2.I.reads hb2);exact ⟨rfl,HT.I _ h6.I,h6⟩
 simp only [pt,sb,s0,s1]
 (refine ly 11 (v:= ?_) (o_ _) rfl rfl ZcE (fun _ _ _ h=>h) (bV ZcE ?_) ?_; rotate_left; (intro w0 hS0; obtain ⟨⟨o2,d0,d1,d2,d3,d4,d5,d6,d7,d8,d9,tH,tS⟩,hH⟩:=hS0; go_simp; try with_reducible rfl); simp only [pt,sb,s0,s1])
 refine fL rfl ZcE ZcE ZcE ?_;intro B cm;have S:=cm.2;obtain ⟨oC,hto⟩:=GC S.I.fr.own HM.I.1 HG.I;clear cm HT;replace S:=aA (S.I.call hto);clear hto;refine wp_store_mid 41 _ _ rfl gp (m * 12) (sy y) rfl rfl oC ZcE ZcE ?_;generalize B.setCells gp (m * 12) (sy y).toList=C at *;clear oC;obtain ⟨q1,hq1⟩: ∃ q1:af,q1= { q with L8:=q.L8.set m (sW y) } :=⟨_,rfl⟩
 have HQ:bE (q1.pure=ot N q.pure/\q1.cells=q.cells/\aQ q1.pure):=by
  have hq:q1.pure=ot N q.pure:=by rw [hq1,<- HM.I.2.1]; exact g7 (nx:=q.next) HR.I.1.kW HM.I.1 rfl
  exact ⟨hq,by rw [hq1]; exact jd (nx:=q.next),by rw [hq]; exact nG HR.I.1⟩
 rw [<- hq1] at S;clear hq1;have k1:=(Lj.1 HR.I.2.1).1;by_cases hmn:m=n
 .have e2:((m:Int) == (n:Int))=true:=by simp [hmn]
  have HT:bE (q1.pure=lg (16,N,M,s) x.id q.pure):=by
   have e:y=x:=by have h5:=HM.I.1; rw [hmn,HR.I.2.1] at h5; exact (KC h5).symm
   have hN:N=x.id:=by rw [<- HM.I.2.1,e]
   show q1.pure=_
   rw [HE.I,if_pos hN,HQ.I.1,hN]
  clear hmn k1;go_wp2_with (first | (refine eT 3 S.I.fr.box ?_) | (refine ec 6 57 q.cells S.I.an ?_));refine gZ results93 S.I.an ?_;exact ⟨q1,by rw [HQ.I.2.1],HT.I,S.I.done _⟩
 have e2:((m:Int) == (n:Int))=false:=by simp; omega
 have hne: ¬ x.id=N:=fun e=>by
  have h5:=only HR.I.1.L8 HM.I.2.2 (iu HR.I.2.1) e;have h6:=HR.I.1.kW;rw [P8] at h6;obtain ⟨i1,i2⟩:=Lj.1 (mj HR.I.2.1);obtain ⟨i3,i4⟩:=Lj.1 (mj HM.I.1);rcases P9 m n with hlt | heq | hgt
  .have:=h6 m n i3 i1 hlt; rw [i2,i4,h5] at this; omega
  .exact hmn heq
  .have:=h6 n m i1 i3 hgt; rw [i2,i4,h5] at this; omega
 have HT:bE (lg (16,N,M,s) x.id q.pure=bu 0 x.id (ot N q.pure)):=HE.I.trans (if_neg fun e=>hne e.symm);obtain ⟨x2,hx2,sw⟩:=sP (nx:=q.pure.next) (f:=j7) HR.I.2.1 hne HQ.I.1;have Mb:=bB (n:=n) 0 S.I.fr.own S.I.low HQ.I.2.2 hx2 ZcM;rw [show x2.id=x.id from congrArg aD.id sw,HQ.I.1,HQ.I.2.1,<- HT.I] at Mb;clear hmn hne hx2 sw k1;go_wp2_with (refine eT 3 S.I.fr.box ?_);refine Mb.mono ?_;clear Mb;rintro e A2 ⟨q2,rfl,hp,ht⟩;replace S:=aA (S.I.call ht);have HP:bE (q2.pure=_):=hp;clear hp ht;go_wp2_with (refine ec 6 60 q2.cells S.I.an ?_);refine gZ results93 S.I.an ?_;exact ⟨q2,rfl,HP.I,S.I.done _⟩
end Go.Proofs.YtfncpmaefninjaaGreatDoor

namespace Go.Proofs.YtfncpmaefninjaaGreatDoor
open Go.Maps
attribute [local go_sem ↓] Kc Kd
structure ng {α:Type} (K:Kind α) (T:T_) (W w:w_) (acc:List α) (a:Option d_) (c:Nat):Prop where
 own:w.ownsRow W.heap.size T K.n (s_ a acc.length c) acc.length (K.flat acc)
 cd:B_ W.heap.size W w
def ng.start {α:Type} {K:Kind α} {T:T_} {W:w_} :ng K T W (W.alloc (c_ #[] T)) [] (o_ ⟨W.heap.size,0,n_⟩) 0:=⟨i6 (Kj _ _) (Ki _),(Kp _ _).alloc (Ki _) _⟩
def ng.add {α:Type} {K:Kind α} {T:T_} {W w:w_} {acc:List α} {a:Option d_} {c:Nat} (h:ng K T W w acc a c) (t:T_) (bytes:Nat) {z0:v_} {P:Program} (ht:P.underlying t=o_ (.slice T))
  (hi:(P.info? T).map (fun i=>(i.zero,i.size,i.bytes))=o_ (o_ z0,K.n,bytes)) (hz:z0.cells.size=K.n) (hn:0 < K.n) (hby:bytes<=1000) (z:α) (zs:Array v_) (hzs:zs.toList=K.vals z) (h1: ∀ u∈K.vals z,u.oneCell'=true) (hl:acc.length<=2000000):
  ∃ a' c' w',(Builtin.append_ #[t,t] t #[s_ a acc.length c,s_ (o_ ⟨w.heap.size,0,n_⟩) 1 1]).run P (w.alloc (c_ zs T))= .ok (s_ a' (acc.length+1) c') w'/\ng K T W w' (acc ++ [z]) a' c':=by
 obtain ⟨i,hi,e⟩:=Kw.1 hi;simp only [Kx] at e;have b1:B_ w.heap.size w (w.alloc (c_ zs T)):=(Kp _ _).alloc (Ki _) _;have b2:=h.cd.trans (b1.mono h.cd.size);obtain ⟨a',c',w',hr,ho,hg,-⟩:=jD (P:=P) (w.alloc (c_ zs T)) W.heap.size t t T i z0 K.n bytes ht hi e.1 e.2.1 e.2.2 hz hn a acc.length c _ (cR h.own b1) (o_ ⟨w.heap.size,0,n_⟩) 1 1 (K.vals z) (by rw [<- hzs]; exact jO (Kj _ _)) (by rw [K.len,Nat.one_mul]) h1 zo hby b2.size;refine ⟨a',c',w',hr,⟨?_,b2.grown hg b2.size fun k e=>(cf h.own (di e)).1⟩⟩;exact Zbh
def DQ {p q:af} {w W W2 w9:w_} {o b0 n9 c9:Nat} {x:ao} {xp:aD} {acc:List ao} {a9:Option d_} (hB:av W2 w.heap.size p/\ap W2 b0 p/\B_ w.heap.size w W2/\W2.heap[w.heap.size+1]? =o_ (c_ ar 31))
  (hQ:av W2 o q/\ap W2 W.heap.size q/\q.pure=p.pure/\(∀ g∈q.Mc,g < o)/\W.heap.size<=o/\w.heap.size+1 < W.heap.size/\o < W2.heap.size) (hpb: ∀ g∈p.Mc,g < w.heap.size) (hl:ng bg 41 W2 w9 acc a9 c9) (ha:acc=bY (fun y:ao=>y.id) x q.L8) (hn:acc.length=n9) (hx:x.toaD=xp)
  (hk: ∀ g,aR.bt x=o_ g->g∉q.Mc/\g≠o) (hm:aR.cO W2 W.heap.size x):
  (av (w9.setCell ⟨o,2,n_⟩ (s_ a9 n9 c9)) w.heap.size p/\ap (w9.setCell ⟨o,2,n_⟩ (s_ a9 n9 c9)) b0 p/\B_ w.heap.size w (w9.setCell ⟨o,2,n_⟩ (s_ a9 n9 c9))/\(w9.setCell ⟨o,2,n_⟩ (s_ a9 n9 c9)).heap[w.heap.size+1]? =o_ (c_ ar 31))/\av (w9.setCell ⟨o,2,n_⟩ (s_ a9 n9 c9)) o ({ q with L8:=acc,aN:=a9,aW:=c9 } :af)/\ap (w9.setCell ⟨o,2,n_⟩ (s_ a9 n9 c9)) W.heap.size ({ q with L8:=acc,aN:=a9,aW:=c9 } :af)/\({ q with L8:=acc,aN:=a9,aW:=c9 } :af).pure= { p.pure with L8:=bY (·.id) xp p.pure.L8 } :=by
 have hb:=hl.cd;have nW:=hQ.2.2.2.1;have sm: ∀ g,g < W2.heap.size->g≠o->(w9.setCell ⟨o,2,n_⟩ (s_ a9 n9 c9)).heap[g]? =W2.heap[g]? :=fun g hg hne=>(aH hne).trans (hb.block _ hg)
 have lY:B_ w.heap.size w (w9.setCell ⟨o,2,n_⟩ (s_ a9 n9 c9)):=bP (hB.2.2.1.trans (hb.mono zo)) zo;have iH: ∀ g∈acc.filterMap aR.bt,g∈q.L8.filterMap aR.bt\/aR.bt x=o_ g:=fun g hg=>by
  exact Zak
 have hin: ∀ g∈q.L8.filterMap aR.bt,g∈q.Mc:=fun g hg=>by simp only [af.Mc,Kg]; simp [hg]
 refine ⟨⟨(sm _ zo zo).trans hB.1,hB.2.1.same fun g hg=>sm g ZcQ ZcQ,lY,(sm _ zo zo).trans hB.2.2.2⟩,?_,?_,?_⟩
 .have h5:=cx (i:=2) (v:=s_ a9 n9 c9) ((hb.block _ hQ.2.2.2.2.2.2).trans hQ.1)
  unfold av;simp only [hn];exact h5
 .refine hQ.2.1.IX (B:=W2.heap.size) zo (fun g hg=>by have:=nW g hg; omega) (fun g hg=>sm g ZcT ZcT) ?_ (fun z hz=> ?_) ?_ (fun g hg=> ?_) (fun g hg=> ?_)
  .exact Zbv
  .rw [ha] at hz
   rcases fq.1 hz with rfl | hz
   .exact ZbL
   .refine (hQ.2.1.eI z hz).same fun g hg=> ?_
    exact Zba
  .have h5:=hQ.2.1.nodup
   simp only [af.Mc,Kf] at h5;have h6:(q.L8.filterMap aR.bt).Nodup:=h5.2.1.1;have hp:(acc.filterMap aR.bt).Perm ((x :: q.L8).filterMap aR.bt):=by rw [ha]; exact (pz x _).filterMap _
   refine hp.nodup_iff.2 ?_;cases he:aR.bt x with
   | none=>rw [List.filterMap_cons_none he]; exact h6
   | some g=>rw [List.filterMap_cons_some he]; exact Lp.2 ⟨fun h7=>(hk g he).1 (hin g h7),h6⟩
  .exact Zbl
  .exact Za3
 .show ({ q.pure with L8:=acc.map (·.toaD) } :aE)=_
  have e1:q.L8.map (·.toaD)=p.pure.L8:=congrArg aE.L8 hQ.2.2.1;rw [ha,rF (je:=(·.id)) (fun y:ao=>y.toaD) (fun _=>rfl),e1,hx,hQ.2.2.1]
def sB (p:af) (id RX:Int) (pa:Option d_) (ops:List dN) (pc:Nat) (w:w_) (b0:Nat) (hwf:(Lit.int j_ id).wf=true) (hop:ops.length<=1048576/\ ∀ o∈ops,o.2.2.2.size<=1048576) (hrow:Row w pa (fk.flat ops)) (qY:p.pure.Small) (h:ap w b0 p):
  k_ J3 78 #[a_ p.cells,i_ j_ id,i_ j_ RX,s_ pa ops.length pc] w fun e w'=>gI w (cB p.pure { p.pure with L8:=bY (·.id) (newP id RX ops) p.pure.L8 }) e w':=by
 have HB:bE (av ((w.alloc (c_ p.cells 31)).alloc (c_ ar 31)) w.heap.size p/\ap ((w.alloc (c_ p.cells 31)).alloc (c_ ar 31)) b0 p/\B_ w.heap.size w ((w.alloc (c_ p.cells 31)).alloc (c_ ar 31))/\((w.alloc (c_ p.cells 31)).alloc (c_ ar 31)).heap[w.heap.size+1]? =o_ (c_ ar 31)):=by
  have b1:B_ w.heap.size w ((w.alloc (c_ p.cells 31)).alloc (c_ ar 31)):=dT _ _ _;exact ⟨(cZ _ _ _).1,h.below b1,b1,(cZ _ _ _).2⟩
 have fl:bE (p.Fit/\(∀ x∈p.L8,x.dX)/\p.pure.Small/\(Lit.int j_ id).wf=true):=⟨dV qY,fun x hx=>(cY qY hx).1,qY,hwf⟩
 have tc:bE ((ops.length<=1048576/\ ∀ o∈ops,o.2.2.2.size<=1048576)/\Row w pa (fk.flat ops)):=⟨hop,hrow⟩
 have hpl:p.L8.length<=1048576:=fl.I.1.short.L8;have pd: ∀ g∈p.Mc,g < w.heap.size:=fun g hg=>(h.lt g hg).2
 clear h qY hwf hop hrow;obtain ⟨m0,m1,m2,m3,m4,m5,m6,m7⟩:=HB.I.1.cells;unfold af.cells at *
 go_enter func78,ntmps78
 go_wp2_with fail;generalize (w.alloc (c_ p.row 31)).alloc (c_ ar 31)=W at *;clear m0 m1 m2 m3 m4 m5 m6 m7;refine (fR p W fl.I.1 fl.I.2.1 HB.I.2.1.at).mono ?_;rintro e W1 ⟨q,rfl,hown,gn,hb1⟩;have hb2:B_ W1.heap.size W1 (W1.alloc (c_ q.cells 31)):=(Kp _ _).alloc (Ki _) _;have hlt:w.heap.size+1 < W.heap.size:=(J2.1 HB.I.2.2.2).1;have hq1: ∀ g∈q.Mc,g < W1.heap.size:=fun g hg=>(hown.lt g hg).2
 have hql:q.L8.length<=1048576:=by have e1:=congrArg (fun z=>z.L8.length) gn; simp only [af.pure,KG] at e1; omega
 have hs2:(W1.alloc (c_ q.cells 31)).heap.size=W1.heap.size+1:=by simp
 have hb3:B_ (W1.heap.size+1) (W1.alloc (c_ q.cells 31)) ((W1.alloc (c_ q.cells 31)).alloc (c_ #[] 45)):=by rw [<- hs2]; exact (Kp _ _).alloc (Ki _) _
 have hbW:B_ w.heap.size w ((W1.alloc (c_ q.cells 31)).alloc (c_ #[] 45)):=HB.I.2.2.1.trans ((hb1.trans ((hb2.trans (hb3.mono zo)).mono hb1.size)).mono HB.I.2.2.1.size);obtain ⟨xa,xc,w4,hap,ho4,hg4,-⟩:=Gg ((W1.alloc (c_ q.cells 31)).alloc (c_ #[] 45)) (W1.heap.size+1) (W1.heap.size+1) (by have h5:=Kj (W1.alloc (c_ q.cells 31)) (c_ #[] 45); rw [hs2] at h5; exact h5) (Ki _) pa ops pc (tc.I.2.below hbW) tc.I.1.1 (by have:=hb3.size; omega);have hb4:B_ (W1.heap.size+1) (W1.alloc (c_ q.cells 31)) w4:=hb3.grown hg4 (by have:=hb3.size; omega) fun c e=>by cases e; exact Ki _
 have anE:W1.heap.size+1<=w4.heap.size:=by have:=hb4.size; omega
 have iJ:B_ (W1.heap.size+1) (W1.alloc (c_ q.cells 31)) (w4.alloc (c_ #[i_ j_ id,i_ j_ RX,s_ xa ops.length xc,i_ j_ 0,i_ j_ 0,i_ j_ 0,i_ j_ 0,i_ j_ 0,t_ ⟨#[]⟩,t_ ⟨#[]⟩,i_ j_ 0,i_ j_ 0] 41)):=hb4.alloc anE _;have jQ:B_ W1.heap.size W1 (w4.alloc (c_ #[i_ j_ id,i_ j_ RX,s_ xa ops.length xc,i_ j_ 0,i_ j_ 0,i_ j_ 0,i_ j_ 0,i_ j_ 0,t_ ⟨#[]⟩,t_ ⟨#[]⟩,i_ j_ 0,i_ j_ 0] 41)):=hb2.trans (iJ.mono zo);have gh:B_ W.heap.size W (w4.alloc (c_ #[i_ j_ id,i_ j_ RX,s_ xa ops.length xc,i_ j_ 0,i_ j_ 0,i_ j_ 0,i_ j_ 0,i_ j_ 0,t_ ⟨#[]⟩,t_ ⟨#[]⟩,i_ j_ 0,i_ j_ 0] 41)):=hb1.trans (jQ.mono hb1.size);have HX:bE ((w4.alloc (c_ #[i_ j_ id,i_ j_ RX,s_ xa ops.length xc,i_ j_ 0,i_ j_ 0,i_ j_ 0,i_ j_ 0,i_ j_ 0,t_ ⟨#[]⟩,t_ ⟨#[]⟩,i_ j_ 0,i_ j_ 0] 41)).heap[w4.heap.size]? =o_ (c_ #[i_ j_ id,i_ j_ RX,s_ xa ops.length xc,i_ j_ 0,i_ j_ 0,i_ j_ 0,i_ j_ 0,i_ j_ 0,t_ ⟨#[]⟩,t_ ⟨#[]⟩,i_ j_ 0,i_ j_ 0] 41)/\aR.cO (w4.alloc (c_ #[i_ j_ id,i_ j_ RX,s_ xa ops.length xc,i_ j_ 0,i_ j_ 0,i_ j_ 0,i_ j_ 0,i_ j_ 0,t_ ⟨#[]⟩,t_ ⟨#[]⟩,i_ j_ 0,i_ j_ 0] 41)) (W1.heap.size+1) (⟨newP id RX ops,xa,xc⟩:ao)/\w4.heap.size < (w4.alloc (c_ #[i_ j_ id,i_ j_ RX,s_ xa ops.length xc,i_ j_ 0,i_ j_ 0,i_ j_ 0,i_ j_ 0,i_ j_ 0,t_ ⟨#[]⟩,t_ ⟨#[]⟩,i_ j_ 0,i_ j_ 0] 41)).heap.size):=⟨Kj _ _,cR ho4 ((Kp _ _).alloc (Ki _) _),by simp⟩
 have HQ:bE (av (w4.alloc (c_ #[i_ j_ id,i_ j_ RX,s_ xa ops.length xc,i_ j_ 0,i_ j_ 0,i_ j_ 0,i_ j_ 0,i_ j_ 0,t_ ⟨#[]⟩,t_ ⟨#[]⟩,i_ j_ 0,i_ j_ 0] 41)) W1.heap.size q/\ap (w4.alloc (c_ #[i_ j_ id,i_ j_ RX,s_ xa ops.length xc,i_ j_ 0,i_ j_ 0,i_ j_ 0,i_ j_ 0,i_ j_ 0,t_ ⟨#[]⟩,t_ ⟨#[]⟩,i_ j_ 0,i_ j_ 0] 41)) W.heap.size q/\q.pure=p.pure/\(∀ g∈q.Mc,g < W1.heap.size)/\W.heap.size<=W1.heap.size/\w.heap.size+1 < W.heap.size/\W1.heap.size < (w4.alloc (c_ #[i_ j_ id,i_ j_ RX,s_ xa ops.length xc,i_ j_ 0,i_ j_ 0,i_ j_ 0,i_ j_ 0,i_ j_ 0,t_ ⟨#[]⟩,t_ ⟨#[]⟩,i_ j_ 0,i_ j_ 0] 41)).heap.size):=⟨(iJ.block _ zo).trans (Kj _ _),hown.below jQ,gn,hq1,hb1.size,hlt,by have:=iJ.size; omega⟩
 replace HB:bE (av (w4.alloc (c_ #[i_ j_ id,i_ j_ RX,s_ xa ops.length xc,i_ j_ 0,i_ j_ 0,i_ j_ 0,i_ j_ 0,i_ j_ 0,t_ ⟨#[]⟩,t_ ⟨#[]⟩,i_ j_ 0,i_ j_ 0] 41)) w.heap.size p/\ap (w4.alloc (c_ #[i_ j_ id,i_ j_ RX,s_ xa ops.length xc,i_ j_ 0,i_ j_ 0,i_ j_ 0,i_ j_ 0,i_ j_ 0,t_ ⟨#[]⟩,t_ ⟨#[]⟩,i_ j_ 0,i_ j_ 0] 41)) b0 p/\B_ w.heap.size w (w4.alloc (c_ #[i_ j_ id,i_ j_ RX,s_ xa ops.length xc,i_ j_ 0,i_ j_ 0,i_ j_ 0,i_ j_ 0,i_ j_ 0,t_ ⟨#[]⟩,t_ ⟨#[]⟩,i_ j_ 0,i_ j_ 0] 41))/\(w4.alloc (c_ #[i_ j_ id,i_ j_ RX,s_ xa ops.length xc,i_ j_ 0,i_ j_ 0,i_ j_ 0,i_ j_ 0,i_ j_ 0,t_ ⟨#[]⟩,t_ ⟨#[]⟩,i_ j_ 0,i_ j_ 0] 41)).heap[w.heap.size+1]? =o_ (c_ ar 31)):=⟨HB.I.1.below gh,HB.I.2.1.below gh,HB.I.2.2.1.trans (gh.mono HB.I.2.2.1.size),(gh.block _ hlt).trans HB.I.2.2.2⟩
 have Au:bE (∀ g∈p.Mc,g < w.heap.size):=fun g hg=>pd g hg
 clear hown gn hb1 hb2 hb3 hb4 iJ jQ gh hbW hq1 hlt pd ho4 hg4 hs2 anE;have En:bE (ng bg 41 (w4.alloc (c_ #[i_ j_ id,i_ j_ RX,s_ xa ops.length xc,i_ j_ 0,i_ j_ 0,i_ j_ 0,i_ j_ 0,i_ j_ 0,t_ ⟨#[]⟩,t_ ⟨#[]⟩,i_ j_ 0,i_ j_ 0] 41)) ((w4.alloc (c_ #[i_ j_ id,i_ j_ RX,s_ xa ops.length xc,i_ j_ 0,i_ j_ 0,i_ j_ 0,i_ j_ 0,i_ j_ 0,t_ ⟨#[]⟩,t_ ⟨#[]⟩,i_ j_ 0,i_ j_ 0] 41)).alloc (c_ #[] 41)) [] (o_ ⟨(w4.alloc (c_ #[i_ j_ id,i_ j_ RX,s_ xa ops.length xc,i_ j_ 0,i_ j_ 0,i_ j_ 0,i_ j_ 0,i_ j_ 0,t_ ⟨#[]⟩,t_ ⟨#[]⟩,i_ j_ 0,i_ j_ 0] 41)).heap.size,0,n_⟩) 0):=ng.start;have Hw:(w4.alloc (c_ #[i_ j_ id,i_ j_ RX,s_ xa ops.length xc,i_ j_ 0,i_ j_ 0,i_ j_ 0,i_ j_ 0,i_ j_ 0,t_ ⟨#[]⟩,t_ ⟨#[]⟩,i_ j_ 0,i_ j_ 0] 41)).heap.size=w4.heap.size+1:=by simp
 have HW:bE ((w4.alloc (c_ #[i_ j_ id,i_ j_ RX,s_ xa ops.length xc,i_ j_ 0,i_ j_ 0,i_ j_ 0,i_ j_ 0,i_ j_ 0,t_ ⟨#[]⟩,t_ ⟨#[]⟩,i_ j_ 0,i_ j_ 0] 41)).heap.size=w4.heap.size+1):=Hw;clear Hw;unfold af.cells at *;go_wp2_with (at_builtin; refine br _ rfl _ _ 39 rfl _ _ _ _ rfl rfl hap ?_; clear hap);generalize w4.alloc (c_ #[i_ j_ id,i_ j_ RX,s_ xa ops.length xc,i_ j_ 0,i_ j_ 0,i_ j_ 0,i_ j_ 0,i_ j_ 0,t_ ⟨#[]⟩,t_ ⟨#[]⟩,i_ j_ 0,i_ j_ 0] 41)=W2 at *;generalize W1.heap.size=o at *;generalize w4.heap.size=xb at *
 go_loopw [12,13,14] (fun l d i wr=> ∃ (k:Nat) (dn:Bool) (acc:List ao) (a:Option d_) (c:Nat),k<=q.L8.length/\i=i_ j_ k/\d=b_ dn/\l=s_ a acc.length c/\bE (ng bg 41 W2 wr acc a c/\gY (fun y:ao=>y.id) (⟨newP id RX ops,xa,xc⟩:ao) q.L8 k dn acc)) (fun _ _ i _=>q.L8.length - (Go.RowKit.intOf i).toNat)
 case atStart=>exact ⟨0,false,[],o_ ⟨W2.heap.size,0,n_⟩,0,Ky _,rfl,rfl,by rw [HW.I]; rfl,⟨En.I,gY.start _ _⟩⟩
 case round=>
  obtain ⟨k,dn,acc,a,c,hk,rfl,rfl,rfl,HA⟩:=hrel;have i0:(0:Int)<=(k:Int):=zo
  have hbr:=HA.I.1.cd;have hal:=HA.I.2.le;have ajP:wr.cell? ⟨o,2,n_⟩=o_ (s_ q.aN q.L8.length q.aW):=(HQ.I.1.below hbr).cells.2.2.1;by_cases hlt:k < q.L8.length
  .have i1:(k:Int) < (q.L8.length:Int):=zo
   obtain ⟨y,hy⟩: ∃ y,q.L8[k]? =o_ y:=⟨_,Kz hlt⟩
   have HY:bE (q.L8[k]? =o_ y):=hy;obtain ⟨g,ha,hat⟩:=cn (HQ.I.2.1.below hbr).at.1 hy;rw [ha] at ajP;obtain ⟨d0,d1,d2,d3,d4,d5,d6,d7,d8,d9,tH,tS⟩:=hat;have HG:bE (q.aN=o_ ⟨g,0,n_⟩):=ha;clear ha hy;obtain ⟨a5,c5,w5,hap,rL⟩:=HA.I.1.add 24 128 (P:=J3) underlying24 nb rfl (by decide) (by decide) y y.row rfl rB zo;have F5:bE (ng bg 41 W2 w5 (acc ++ [y]) a5 c5):=rL;clear rL;cases dn;rotate_left
   .go_wp2_with (at_builtin; first | (refine br _ rfl _ _ 24 rfl _ _ _ _ rfl rfl hap ?_; clear hap))
    exact WP
   by_cases hc:id < y.id;rotate_left
   .have HC:bE (¬ id < y.id):=hc
    go_wp2_with (at_builtin; first | (refine br _ rfl _ _ 24 rfl _ _ _ _ rfl rfl hap ?_; clear hap))
    exact ZaP
   clear hap F5 a5 c5 w5;have HC:bE (id < y.id):=hc;obtain ⟨a5,c5,w5,hap,rL⟩:=HA.I.1.add 24 128 (P:=J3) underlying24 nb rfl (by decide) (by decide) (⟨newP id RX ops,xa,xc⟩:ao) #[i_ j_ id,i_ j_ RX,s_ xa ops.length xc,i_ j_ 0,i_ j_ 0,i_ j_ 0,i_ j_ 0,i_ j_ 0,t_ ⟨#[]⟩,t_ ⟨#[]⟩,i_ j_ 0,i_ j_ 0] rfl rB zo;obtain ⟨a7,c7,w7,gT,mI⟩:=rL.add 24 128 (P:=J3) underlying24 nb rfl (by decide) (by decide) y y.row rfl rB ZcF;rw [Lf] at gT;simp only [Lg,K4,Li] at gT;have HL7:bE (ng bg 41 W2 w7 (acc ++ [(⟨newP id RX ops,xa,xc⟩:ao)] ++ [y]) a7 c7):=mI;have mo5:w5.cell? ⟨o,2,n_⟩=o_ (s_ q.aN q.L8.length q.aW):=(HQ.I.1.below rL.cd).cells.2.2.1;obtain ⟨g2,ha2,g8⟩:=cn (HQ.I.2.1.below rL.cd).at.1 HY.I;rw [HG.I] at ha2 mo5;cases ha2;obtain ⟨e0,e1,e2,e3,e4,e5,e6,e7,e8,e9,Pn,e11⟩:=g8;obtain ⟨x0,x1,x2,x3,x4,x5,x6,x7,x8,x9,x10,Dm⟩:=bo (x:=(⟨newP id RX ops,xa,xc⟩:ao)) (X:=xb) (W:=wr) ((hbr.block _ HX.I.2.2).trans HX.I.1);clear rL mI;go_wp2_with (at_builtin; first | (refine br _ rfl _ _ 24 rfl _ _ _ _ rfl rfl hap ?_; clear hap) | (refine br _ rfl _ _ 24 rfl _ _ _ _ rfl rfl gT ?_; clear gT))
   go_round
   case rel=>exact ⟨k+1,true,acc ++ [(⟨newP id RX ops,xa,xc⟩:ao)] ++ [y],a7,c7,zo,by go_num,rfl,by simp,⟨HL7.I,HA.I.2.here HY.I HC.I⟩⟩
   case measure=>simp [Go.RowKit.intOf]; omega
  have i1: ¬ (k:Int) < (q.L8.length:Int):=zo
  cases dn
  .obtain ⟨a9,c9,w9,hap,Jy⟩:=HA.I.1.add 24 128 (P:=J3) underlying24 nb rfl (by decide) (by decide) (⟨newP id RX ops,xa,xc⟩:ao) #[i_ j_ id,i_ j_ RX,s_ xa ops.length xc,i_ j_ 0,i_ j_ 0,i_ j_ 0,i_ j_ 0,i_ j_ 0,t_ ⟨#[]⟩,t_ ⟨#[]⟩,i_ j_ 0,i_ j_ 0] rfl rB zo
   have HR:bE (ng bg 41 W2 w9 (acc ++ [(⟨newP id RX ops,xa,xc⟩:ao)]) a9 c9/\acc ++ [(⟨newP id RX ops,xa,xc⟩:ao)] =bY (fun y:ao=>y.id) (⟨newP id RX ops,xa,xc⟩:ao) q.L8/\(acc ++ [(⟨newP id RX ops,xa,xc⟩:ao)]).length=acc.length+1):=⟨Jy,HA.I.2.last hlt,by simp⟩
   obtain ⟨x0,x1,x2,x3,x4,x5,x6,x7,x8,x9,x10,Dm⟩:=bo (x:=(⟨newP id RX ops,xa,xc⟩:ao)) (X:=xb) (W:=wr) ((hbr.block _ HX.I.2.2).trans HX.I.1);clear Jy;have eX:bE (_):=DQ HB.I HQ.I Au.I HR.I.1 HR.I.2.1 HR.I.2.2 rfl (fun g hg=>by have h5:=(HX.I.2.1.lt hg).1; exact ⟨fun h6=>by have:=HQ.I.2.2.2.1 g h6; omega,zo⟩) (HX.I.2.1.low (by have:=HQ.I.2.2.2.2.1; omega));have Mb:=fi p ({ q with L8:=(acc ++ [(⟨newP id RX ops,xa,xc⟩:ao)]),aN:=a9,aW:=c9 } :af) (w9.setCell ⟨o,2,n_⟩ (s_ a9 (acc.length+1) c9)) ⟨fl.I.1,fl.I.2.1,eX.I.1.2.1.at⟩ (fun hr=>by
    have h5:aE.Small ({ q with L8:=(acc ++ [(⟨newP id RX ops,xa,xc⟩:ao)]),aN:=a9,aW:=c9 } :af).pure:=by rw [eX.I.2.2.2]; exact pO fl.I.2.2.1 hr tc.I.1 fl.I.2.2.2
    exact ⟨dV h5,fun x hx=>(cY h5 hx).1,eX.I.2.2.1.at⟩)
   obtain ⟨m0,m1,m2,m3,m4,m5,m6,m7⟩:=eX.I.1.1.cells;obtain ⟨k0,k1,k2,k3,k4,k5,k6,k7⟩:=eX.I.2.1.cells;obtain ⟨⟨u,co⟩,fo⟩:(∃ u,w9.cell? ⟨o,2,n_⟩=o_ u)/\w9.frozen? ⟨o,2,n_⟩=false:=⟨⟨_,(HQ.I.1.below HR.I.1.cd).cells.2.2.1⟩,Ko _ _ _ _ _ (HQ.I.1.below HR.I.1.cd)⟩
   unfold af.cells at Mb;have sR:=HR.I.2.2;simp only [sR] at Mb k0 k1 k2 k3 k4 k5 k6 k7;clear sR;go_wp2_with (at_builtin; first | (refine br _ rfl _ _ 24 rfl _ _ _ _ rfl rfl hap ?_; clear hap));refine Mb.mono ?_;clear Mb m0 m1 m2 m3 m4 m5 m6 m7 k0 k1 k2 k3 k4 k5 k6 k7;rintro e ow ⟨gy,hok⟩;have hq:=HQ.I.2.2.2.2;have HZ:bE (B_ w.heap.size w ow/\ow.heap[w.heap.size+1]? =o_ (c_ ar 31)/\ap ow W.heap.size ({ q with L8:=(acc ++ [(⟨newP id RX ops,xa,xc⟩:ao)]),aN:=a9,aW:=c9 } :af)/\w.heap.size+1 < W.heap.size):=⟨eX.I.1.2.2.1.trans (gy.mono eX.I.1.2.2.1.size),(gy.block _ (J2.1 eX.I.1.2.2.2).1).trans eX.I.1.2.2.2,eX.I.2.2.1.below gy,hq.2.1⟩
   clear gy hq;rw [eX.I.2.2.2] at hok;rcases hok with ⟨hok,rfl⟩ | ⟨hok,rfl⟩
   .have HN:bE (cB p.pure { p.pure with L8:=bY (·.id) (newP id RX ops) p.pure.L8 } =o_ { p.pure with L8:=bY (·.id) (newP id RX ops) p.pure.L8 }):=jS hok
    clear hok;go_wp2_with (refine ec 8 66 #[i_ j_ q.id,i_ j_ q.next,s_ a9 (acc.length+1) c9,s_ q.bc q.aj.length q.bF,s_ q.ay q.L9.length q.aO,s_ q.ax q.ag.length q.aP,s_ q.am q.ae.length q.aG,s_ q.aK q.ai.length q.aV] HZ.I.2.1 ?_);refine mG results78 (b_ true) HZ.I.2.1 ?_;have hl:=HZ.I.2.2.2;rw [HN.I];refine ⟨({ q with L8:=(acc ++ [(⟨newP id RX ops,xa,xc⟩:ao)]),aN:=a9,aW:=c9 } :af),by unfold af.cells; simp only [HR.I.2.2]; rfl,(HZ.I.2.2.1.lower zo).same fun g hg=>KH _ _ _ _ ZcO,eX.I.2.2.2,q_ HZ.I.1 zo _⟩
   .exact Zcr
  .have HR:bE (ng bg 41 W2 wr acc a c/\acc=bY (fun y:ao=>y.id) (⟨newP id RX ops,xa,xc⟩:ao) q.L8/\acc.length=acc.length):=⟨HA.I.1,HA.I.2.done hlt,rfl⟩
   have eX:bE (_):=DQ HB.I HQ.I Au.I HR.I.1 HR.I.2.1 HR.I.2.2 rfl (fun g hg=>by have h5:=(HX.I.2.1.lt hg).1; exact ⟨fun h6=>by have:=HQ.I.2.2.2.1 g h6; omega,zo⟩) (HX.I.2.1.low (by have:=HQ.I.2.2.2.2.1; omega));have Mb:=fi p ({ q with L8:=acc,aN:=a,aW:=c } :af) (wr.setCell ⟨o,2,n_⟩ (s_ a acc.length c)) ⟨fl.I.1,fl.I.2.1,eX.I.1.2.1.at⟩ (fun hr=>by
    have h5:aE.Small ({ q with L8:=acc,aN:=a,aW:=c } :af).pure:=by rw [eX.I.2.2.2]; exact pO fl.I.2.2.1 hr tc.I.1 fl.I.2.2.2
    exact ⟨dV h5,fun x hx=>(cY h5 hx).1,eX.I.2.2.1.at⟩)
   obtain ⟨m0,m1,m2,m3,m4,m5,m6,m7⟩:=eX.I.1.1.cells;obtain ⟨k0,k1,k2,k3,k4,k5,k6,k7⟩:=eX.I.2.1.cells;obtain ⟨⟨u,co⟩,fo⟩:(∃ u,wr.cell? ⟨o,2,n_⟩=o_ u)/\wr.frozen? ⟨o,2,n_⟩=false:=⟨⟨_,(HQ.I.1.below HR.I.1.cd).cells.2.2.1⟩,Ko _ _ _ _ _ (HQ.I.1.below HR.I.1.cd)⟩
   unfold af.cells at Mb;simp only at Mb k0 k1 k2 k3 k4 k5 k6 k7;go_wp2_with fail;refine Mb.mono ?_;clear Mb m0 m1 m2 m3 m4 m5 m6 m7 k0 k1 k2 k3 k4 k5 k6 k7;rintro e ow ⟨gy,hok⟩;have hq:=HQ.I.2.2.2.2;have HZ:bE (B_ w.heap.size w ow/\ow.heap[w.heap.size+1]? =o_ (c_ ar 31)/\ap ow W.heap.size ({ q with L8:=acc,aN:=a,aW:=c } :af)/\w.heap.size+1 < W.heap.size):=⟨eX.I.1.2.2.1.trans (gy.mono eX.I.1.2.2.1.size),(gy.block _ (J2.1 eX.I.1.2.2.2).1).trans eX.I.1.2.2.2,eX.I.2.2.1.below gy,hq.2.1⟩
   clear gy hq;rw [eX.I.2.2.2] at hok;rcases hok with ⟨hok,rfl⟩ | ⟨hok,rfl⟩
   .have HN:bE (cB p.pure { p.pure with L8:=bY (·.id) (newP id RX ops) p.pure.L8 } =o_ { p.pure with L8:=bY (·.id) (newP id RX ops) p.pure.L8 }):=jS hok
    clear hok;go_wp2_with (refine ec 8 66 #[i_ j_ q.id,i_ j_ q.next,s_ a acc.length c,s_ q.bc q.aj.length q.bF,s_ q.ay q.L9.length q.aO,s_ q.ax q.ag.length q.aP,s_ q.am q.ae.length q.aG,s_ q.aK q.ai.length q.aV] HZ.I.2.1 ?_);refine mG results78 (b_ true) HZ.I.2.1 ?_;have hl:=HZ.I.2.2.2;rw [HN.I];refine ⟨({ q with L8:=acc,aN:=a,aW:=c } :af),by rfl,(HZ.I.2.2.1.lower zo).same fun g hg=>KH _ _ _ _ ZcO,eX.I.2.2.2,q_ HZ.I.1 zo _⟩
   .exact Zcr
end Go.Proofs.YtfncpmaefninjaaGreatDoor

namespace Go.Proofs.YtfncpmaefninjaaGreatDoor
open Go.Maps
attribute [local go_sem ↓] Kc Kd
def rz (p:af) (id:Int) (w:w_) (b0:Nat) (hwf:(Lit.int j_ id).wf=true) (qY:p.pure.Small) (h:ap w b0 p):
  k_ J3 74 #[a_ p.cells,i_ j_ id] w fun e w'=>gI w (cB p.pure { p.pure with L9:=cA (·.id) (⟨id,false⟩:aB) p.pure.L9 }) e w':=by
 have HB:bE (av ((w.alloc (c_ p.row 31)).alloc (c_ ar 31)) w.heap.size p/\ap ((w.alloc (c_ p.row 31)).alloc (c_ ar 31)) b0 p/\B_ w.heap.size w ((w.alloc (c_ p.row 31)).alloc (c_ ar 31))/\((w.alloc (c_ p.row 31)).alloc (c_ ar 31)).heap[w.heap.size+1]? =o_ (c_ ar 31)):=by
  have b1:B_ w.heap.size w ((w.alloc (c_ p.row 31)).alloc (c_ ar 31)):=((Kp _ _).alloc (Ki _) _).alloc zw _;exact ⟨(PU zw).trans (Kj _ _),h.below b1,b1,Kq _ _ _⟩
 have fl:bE (p.Fit/\(∀ x∈p.L8,x.dX)/\p.pure.Small/\(Lit.int j_ id).wf=true):=⟨dV qY,fun x hx=>(cY qY hx).1,qY,hwf⟩
 have hpl:=fl.I.1.short.L9;have hcap:p.L9.length<=p.aO:=nV h.L9;have pd: ∀ g∈p.Mc,g < w.heap.size:=fun g hg=>(h.lt g hg).2
 clear h qY hwf;obtain ⟨m0,m1,m2,m3,m4,m5,m6,m7⟩:=HB.I.1.cells;unfold af.cells
 go_enter func74,ntmps74
 go_wp2_with fail;generalize (w.alloc (c_ p.row 31)).alloc (c_ ar 31)=W at *;clear m0 m1 m2 m3 m4 m5 m6 m7;refine (fR p W fl.I.1 fl.I.2.1 HB.I.2.1.at).mono ?_;rintro e W1 ⟨q,rfl,hown,gn,hb1⟩;have hb2:B_ W1.heap.size W1 (W1.alloc (c_ q.row 31)):=(Kp _ _).alloc (Ki _) _;have hlt:w.heap.size+1 < W.heap.size:=(J2.1 HB.I.2.2.2).1;have hb3:B_ W.heap.size W (W1.alloc (c_ q.row 31)):=hb1.trans (hb2.mono hb1.size);have hq1: ∀ g∈q.Mc,g < W1.heap.size:=fun g hg=>(hown.lt g hg).2
 have HQ:bE (av (W1.alloc (c_ q.row 31)) W1.heap.size q/\ap (W1.alloc (c_ q.row 31)) W.heap.size q/\q.pure=p.pure/\(∀ g∈q.Mc,g < W1.heap.size)/\W.heap.size<=W1.heap.size/\w.heap.size+1 < W.heap.size/\W1.heap.size < (W1.alloc (c_ q.row 31)).heap.size):=⟨Kj _ _,hown.below hb2,gn,hq1,hb1.size,hlt,by simp⟩
 replace HB:bE (av (W1.alloc (c_ q.row 31)) w.heap.size p/\ap (W1.alloc (c_ q.row 31)) b0 p/\B_ w.heap.size w (W1.alloc (c_ q.row 31))/\(W1.alloc (c_ q.row 31)).heap[w.heap.size+1]? =o_ (c_ ar 31)):=⟨HB.I.1.below hb3,HB.I.2.1.below hb3,HB.I.2.2.1.trans (hb3.mono HB.I.2.2.1.size),(hb3.block _ hlt).trans HB.I.2.2.2⟩
 have Au:bE (∀ g∈p.Mc,g < w.heap.size):=fun g hg=>pd g hg
 clear hown gn hb1 hb2 hb3 hq1 hlt pd;obtain ⟨m0,m1,m2,m3,m4,m5,m6,m7⟩:=HB.I.1.cells;unfold af.cells;go_wp2_with fail;generalize W1.alloc (c_ q.row 31)=W2 at *;clear m0 m1 m2 m3 m5 m6 m7;generalize W1.heap.size=o at *
 go_loop [7] (fun i=> ∃ k:Nat,k<=p.L9.length/\i=i_ j_ k/\bE (∀ y∈p.L9.take k,y.id < id)) (fun i=>p.L9.length - (Go.RowKit.intOf i).toNat)
 case atStart=>exact ⟨0,Ky _,rfl,fun y hy=>by simp at hy⟩
 case round=>
  obtain ⟨k,hk,rfl,HA⟩:=hrel;have i0:(0:Int)<=(k:Int):=zo
  have icap:(k:Int)<=(p.aO:Int):=zo
  have i2:(k:Int)<=(p.L9.length:Int):=zo
  rcases zm (fun y:aB=>y.id) id p.L9 k with ⟨x,hx,hc,hlt⟩ | ⟨x,hx,hc,hlt⟩ | hlt
  .have HT:bE (∀ y∈p.L9.take (k+1),y.id < id):=nE hx HA.I hc
   have i1:(k:Int) < (p.L9.length:Int):=zo
   obtain ⟨g,ha,hat⟩:=j4 HB.I.2.1.at.2.2.1 hx;have c0:=hat.1;have m:=m4;rw [ha] at m;clear m4 hat hx;exact ZbA
  focus
   have HX:bE (∀ y,p.L9[k]? =o_ y-> ¬ y.id < id):=fun y hy e=>by rw [hx] at hy; cases hy; exact hc e
   have i1:(k:Int) < (p.L9.length:Int):=zo
   obtain ⟨g,ha,hat⟩:=j4 HB.I.2.1.at.2.2.1 hx;have c0:=hat.1;have m:=m4;rw [ha] at m;clear m4 hat hx ha
  rotate_left
  focus
   have HX:bE (∀ y,p.L9[k]? =o_ y-> ¬ y.id < id):=fun y hy=>absurd (Lj.1 hy).1 hlt
   have i1: ¬ (k:Int) < (p.L9.length:Int):=zo
   have m:=m4;clear m4
  all_goals
   have hkl:(p.L9.take k).length=k:=by rw [Lk]; omega
   have hb3:B_ W2.heap.size W2 (W2.alloc (c_ #[] 91)):=(Kp _ _).alloc (Ki _) _;obtain ⟨a5,c5,w5,hap,oe,A7,-⟩:=qu (W2.alloc (c_ #[] 91)) W2.heap.size (o_ ⟨W2.heap.size,0,n_⟩) 0 [] (i6 (Kj _ _) (Ki _)) p.ay (p.L9.take k) p.aO (uM k (HB.I.2.1.below hb3).at.2.2.1.1) ZdG hb3.size;rw [hkl] at hap oe;simp only [K4,Li,Ll] at hap oe;have iJ:B_ W2.heap.size W2 w5:=hb3.grown A7 hb3.size fun c e=>by cases e; exact Ki _
   have jQ:B_ w5.heap.size w5 (w5.alloc (c_ #[i_ j_ id,b_ false] 91)):=(Kp _ _).alloc (Ki _) _;have yJ:B_ W2.heap.size W2 (w5.alloc (c_ #[i_ j_ id,b_ false] 91)):=iJ.trans (jQ.mono iJ.size);have qH:(w5.alloc (c_ #[i_ j_ id,b_ false] 91)).ownsRow W2.heap.size 91 2 (s_ a5 (p.L9.take k).length c5) (p.L9.take k).length (bJ.flat (p.L9.take k)):=by rw [hkl]; exact cR oe jQ
   obtain ⟨a7,c7,w7,gT,mP,xI,-⟩:=qu (w5.alloc (c_ #[i_ j_ id,b_ false] 91)) W2.heap.size a5 c5 (p.L9.take k) qH (o_ ⟨w5.heap.size,0,n_⟩) [(⟨id,false⟩:aB)] 1 (jO (Kj _ _)) ZdF yJ.size;have mI:(p.L9.take k ++ [(⟨id,false⟩:aB)]).length=k+1:=by rw [Lf,hkl]; rfl
   rw [hkl] at gT mP;simp only [Lg,K4,Li] at gT mP;have gh:B_ W2.heap.size W2 w7:=yJ.grown xI yJ.size fun c e=>(cf oe (di e)).1
   have Em:bE (w7.ownsRow W2.heap.size 91 2 (s_ a7 (k+1) c7) (k+1) (bJ.flat (p.L9.take k ++ [(⟨id,false⟩:aB)]))/\B_ W2.heap.size W2 w7/\(p.L9.take k ++ [(⟨id,false⟩:aB)]).length=k+1):=⟨mP,gh,mI⟩
   have m2:(W2.alloc (c_ #[] 91)).cell? ⟨w.heap.size,4,n_⟩=o_ (s_ p.ay p.L9.length p.aO):=(HB.I.1.below hb3).cells.2.2.2.2.1;have hbo:W2.heap.size<=w7.heap.size:=gh.size;obtain ⟨⟨u,co⟩,fo⟩:(∃ u,w7.cell? ⟨o,4,n_⟩=o_ u)/\w7.frozen? ⟨o,4,n_⟩=false:=⟨⟨_,(HQ.I.1.below gh).cells.2.2.2.2.1⟩,Ko _ _ _ _ _ (HQ.I.1.below gh)⟩
   clear oe A7 iJ jQ yJ qH mP xI gh hb3 mI;go_wp2_with (at_builtin; first | (refine br _ rfl _ _ 26 rfl _ _ _ _ rfl rfl hap ?_; clear hap) | (refine br _ rfl _ _ 26 rfl _ _ _ _ rfl rfl gT ?_; clear gT));have H8:bE (((av (w7.setCell ⟨o,4,n_⟩ (s_ a7 (k+1) c7)) w.heap.size p/\ap (w7.setCell ⟨o,4,n_⟩ (s_ a7 (k+1) c7)) b0 p/\B_ w.heap.size w (w7.setCell ⟨o,4,n_⟩ (s_ a7 (k+1) c7))/\(w7.setCell ⟨o,4,n_⟩ (s_ a7 (k+1) c7)).heap[w.heap.size+1]? =o_ (c_ ar 31))/\(w7.setCell ⟨o,4,n_⟩ (s_ a7 (k+1) c7)).heap[o]? =o_ (c_ #[i_ j_ q.id,i_ j_ q.next,s_ q.aN q.L8.length q.aW,s_ q.bc q.aj.length q.bF,s_ a7 (k+1) c7,s_ q.ax q.ag.length q.aP,s_ q.am q.ae.length q.aG,s_ q.aK q.ai.length q.aV] 31)/\ap (w7.setCell ⟨o,4,n_⟩ (s_ a7 (k+1) c7)) W.heap.size q)/\(w7.setCell ⟨o,4,n_⟩ (s_ a7 (k+1) c7)).ownsRow W2.heap.size 91 2 (s_ a7 (k+1) c7) (k+1) (bJ.flat (p.L9.take k ++ [(⟨id,false⟩:aB)]))/\W2.heap.size<=(w7.setCell ⟨o,4,n_⟩ (s_ a7 (k+1) c7)).heap.size):=by
    have gh:=Em.I.2.1;have hq:=HQ.I;exact mi
   generalize w7.setCell ⟨o,4,n_⟩ (s_ a7 (k+1) c7)=W8 at *;have HS:bE (W8.cell? ⟨w.heap.size,4,n_⟩=o_ (s_ p.ay p.L9.length p.aO)):=H8.I.1.1.1.cells.2.2.2.2.1;have co8:W8.drew.cell? ⟨o,4,n_⟩=o_ (s_ a7 (k+1) c7):=by rw [K5 _ _ _ _ _ _ (show W8.drew.heap[o]? =_ from H8.I.1.2.1)]; rfl
   clear m m2 co fo hbo i1 hlt;obtain ⟨u6,Jx⟩: ∃ u6,(if p.aO=k then p.ay else Option.map (fun x=>x.add (k * 2)) p.ay)=u6:=⟨_,rfl⟩
   refine Kr (S:=fun w'=>w'.cell? ⟨w.heap.size,4,n_⟩=o_ (s_ p.ay p.L9.length p.aO)) ZcE HS.I (fun bC=> ?_);refine tt 0 bC ?_ (hy:=fun w0 hS0=>by have cm:=hS0; go_simp; try with_reducible rfl);refine tt 2 bC ?_ (hy:=fun w0 hS0=>by have cm:=hS0; go_simp; try with_reducible rfl);refine tt 3 bC ?_ (hy:=fun w0 hS0=>by have cm:=hS0; go_simp; try with_reducible rfl);refine tt 4 bC ?_ (hy:=fun w0 hS0=>by have cm:=hS0; go_simp; try with_reducible rfl);refine tt 5 bC ?_ (hy:=fun w0 hS0=>by have cm:=hS0; go_simp; try with_reducible rfl);refine L7 1 (fun K hK=> ?_);go_wp2_with fail;refine hK.out _ _ HS.I (fun bC=> ?_);clear hK K
   try simp only [pt,sb,s0,s1]
   have hbd:B_ W8.heap.size W8 W8.drew:=(Kp _ _).drew;have mI:=Em.I.2.2;have hkd:(p.L9.drop k).length=p.L9.length - k:=Ql;obtain ⟨a9,c9,w9,hr,xj,FW,-⟩:=qu W8.drew W2.heap.size a7 c7 (p.L9.take k ++ [(⟨id,false⟩:aB)]) ZdB u6 (p.L9.drop k) (p.aO - k) (by rw [<- Jx]; exact qK hcap (H8.I.1.1.2.1.below hbd).at.2.2.1.1) (by rw [mI,hkd]; omega) H8.I.2.2;rw [mI,hkd] at hr xj;have kN:B_ W2.heap.size W8.drew w9:=(Kp _ _).grown (a:=W8.drew) FW H8.I.2.2 fun c e=>(cf H8.I.2.1 (di e)).1
   have hq:=HQ.I;have h8:=H8.I;have p7:o < W2.heap.size:=hq.2.2.2.2.2.2;have hwl:w.heap.size+1 < o:=zo
   have lV:w9.heap[o]? =o_ (c_ #[i_ j_ q.id,i_ j_ q.next,s_ q.aN q.L8.length q.aW,s_ q.bc q.aj.length q.bF,s_ a7 (k+1) c7,s_ q.ax q.ag.length q.aP,s_ q.am q.ae.length q.aG,s_ q.aK q.ai.length q.aV] 31):=(kN.block _ p7).trans h8.1.2.1;have YU:bE (w9.cell? ⟨w.heap.size,4,n_⟩=o_ (s_ p.ay p.L9.length p.aO)/\(w9.setCell ⟨o,4,n_⟩ (s_ a9 (k+1+(p.L9.length - k)) c9)).cell? ⟨w.heap.size,4,n_⟩=o_ (s_ p.ay p.L9.length p.aO)):=by
    have e1:w9.cell? ⟨w.heap.size,4,n_⟩=o_ (s_ p.ay p.L9.length p.aO):=(J1 (kN.block _ ZdI)).trans HS.I;exact Zbq
   have sR:((p.L9.take k ++ [(⟨id,false⟩:aB)]) ++ p.L9.drop k).length=k+1+(p.L9.length - k):=by rw [Lf,mI,hkd]
   have gn:({ q with L9:=(p.L9.take k ++ [(⟨id,false⟩:aB)]) ++ p.L9.drop k,ay:=a9,aO:=c9 } :af).pure= { p.pure with L9:=cA (·.id) (⟨id,false⟩:aB) p.pure.L9 } :=by
    have e1:(p.L9.take k ++ [(⟨id,false⟩:aB)]) ++ p.L9.drop k=cA (·.id) (⟨id,false⟩:aB) p.pure.L9:=by
     rw [Lm];exact Zb9
    have e2:=HQ.I.2.2.1
    show ({ q.pure with L9:=(p.L9.take k ++ [(⟨id,false⟩:aB)]) ++ p.L9.drop k } :aE)=_
    rw [e1,e2]
   have eX:bE (av (w9.setCell ⟨o,4,n_⟩ (s_ a9 (k+1+(p.L9.length - k)) c9)) w.heap.size p/\ap (w9.setCell ⟨o,4,n_⟩ (s_ a9 (k+1+(p.L9.length - k)) c9)) b0 p/\B_ w.heap.size w (w9.setCell ⟨o,4,n_⟩ (s_ a9 (k+1+(p.L9.length - k)) c9))/\(w9.setCell ⟨o,4,n_⟩ (s_ a9 (k+1+(p.L9.length - k)) c9)).heap[w.heap.size+1]? =o_ (c_ ar 31)/\av (w9.setCell ⟨o,4,n_⟩ (s_ a9 (k+1+(p.L9.length - k)) c9)) o ({ q with L9:=(p.L9.take k ++ [(⟨id,false⟩:aB)]) ++ p.L9.drop k,ay:=a9,aO:=c9 } :af)/\ap (w9.setCell ⟨o,4,n_⟩ (s_ a9 (k+1+(p.L9.length - k)) c9)) W.heap.size ({ q with L9:=(p.L9.take k ++ [(⟨id,false⟩:aB)]) ++ p.L9.drop k,ay:=a9,aO:=c9 } :af)/\({ q with L9:=(p.L9.take k ++ [(⟨id,false⟩:aB)]) ++ p.L9.drop k,ay:=a9,aO:=c9 } :af).pure= { p.pure with L9:=cA (·.id) (⟨id,false⟩:aB) p.pure.L9 }):=by
    have hpb: ∀ g∈p.Mc,g < w.heap.size:=Au.I;have nW: ∀ g∈q.Mc,g < o:=hq.2.2.2.1;have sm: ∀ g,g < W2.heap.size->g≠o->(w9.setCell ⟨o,4,n_⟩ (s_ a9 (k+1+(p.L9.length - k)) c9)).heap[g]? =W8.heap[g]? :=fun g hg hne=>(aH hne).trans (kN.block _ hg)
    have lY:B_ w.heap.size w (w9.setCell ⟨o,4,n_⟩ (s_ a9 (k+1+(p.L9.length - k)) c9)):=bP (h8.1.1.2.2.1.drew.trans (kN.mono zo)) zo;refine ⟨(sm _ zo zo).trans h8.1.1.1,h8.1.1.2.1.same fun g hg=>sm g ZcQ ZcQ,lY,(sm _ zo zo).trans h8.1.1.2.2.2,?_,?_,gn⟩
    .have h5:=cx (i:=4) (v:=s_ a9 (k+1+(p.L9.length - k)) c9) lV
     unfold av;simp only [sR];exact h5
    .refine h8.1.2.2.Ge (B:=W2.heap.size) zo (fun g hg=>by have:=nW g hg; omega) (fun g hg=>sm g ZcT ZcT) ?_
     exact Zbw
   refine L7 6 (fun K hK=> ?_);refine cM _ _ _ rfl _ _ _ w9 rfl rfl hr ?_;refine hK.out _ _ YU.I.1 (fun bC=> ?_);clear hK K
   try simp only [pt,sb,s0,s1]
   obtain ⟨⟨u,co⟩,fo⟩:(∃ u,w9.cell? ⟨o,4,n_⟩=o_ u)/\w9.frozen? ⟨o,4,n_⟩=false:=⟨⟨_,by rw [K5 _ _ _ _ _ _ lV]; rfl⟩,Ko _ _ _ _ _ lV⟩
   clear hr xj FW kN hq h8 p7 hwl lV hbd;refine tt 7 bC ?_ (hy:=fun w0 hS0=>by have cm:=hS0; go_simp; try with_reducible rfl);refine L7 8 (fun K hK=> ?_);go_wp2_with fail;refine hK.out _ _ YU.I.2 (fun bC=> ?_);clear hK K
   try simp only [pt,sb,s0,s1]
   refine K3 ZcE ?_ _;clear bC co fo YU HS co8;generalize w9.setCell ⟨o,4,n_⟩ (s_ a9 (k+1+(p.L9.length - k)) c9)=W10 at *;have Mb:=fi p ({ q with L9:=(p.L9.take k ++ [(⟨id,false⟩:aB)]) ++ p.L9.drop k,ay:=a9,aO:=c9 } :af) W10 ⟨fl.I.1,fl.I.2.1,eX.I.2.1.at⟩ (fun hr=>by
    have h5:aE.Small ({ q with L9:=(p.L9.take k ++ [(⟨id,false⟩:aB)]) ++ p.L9.drop k,ay:=a9,aO:=c9 } :af).pure:=by rw [eX.I.2.2.2.2.2.2]; exact vS fl.I.2.2.1 hr fl.I.2.2.2
    exact ⟨dV h5,fun x hx=>(cY h5 hx).1,eX.I.2.2.2.2.2.1.at⟩)
   obtain ⟨m0,m1,m2,m3,m4,m5,m6,m7⟩:=eX.I.1.cells;obtain ⟨k0,k1,k2,k3,k4,k5,k6,k7⟩:=eX.I.2.2.2.2.1.cells;unfold af.cells at Mb;simp only [sR] at Mb k0 k1 k2 k3 k4 k5 k6 k7;have DM:bE (((p.L9.take k ++ [(⟨id,false⟩:aB)]) ++ p.L9.drop k).length=k+1+(p.L9.length - k)):=sR;clear sR mI hkd Jx gn;go_wp2_with fail;refine Mb.mono ?_;clear Mb m0 m1 m2 m3 m4 m5 m6 m7 k0 k1 k2 k3 k4 k5 k6 k7;rintro e ow ⟨gy,hok⟩;have hq:=HQ.I.2.2.2.2;have HZ:bE (B_ w.heap.size w ow/\ow.heap[w.heap.size+1]? =o_ (c_ ar 31)/\ap ow W.heap.size ({ q with L9:=(p.L9.take k ++ [(⟨id,false⟩:aB)]) ++ p.L9.drop k,ay:=a9,aO:=c9 } :af)/\w.heap.size+1 < W.heap.size):=⟨eX.I.2.2.1.trans (gy.mono eX.I.2.2.1.size),(gy.block _ (J2.1 eX.I.2.2.2.1).1).trans eX.I.2.2.2.1,eX.I.2.2.2.2.2.1.below gy,hq.2.1⟩
   clear gy hq;rw [eX.I.2.2.2.2.2.2] at hok;rcases hok with ⟨hok,rfl⟩ | ⟨hok,rfl⟩
   .have HN:bE (cB p.pure { p.pure with L9:=cA (·.id) (⟨id,false⟩:aB) p.pure.L9 } =o_ { p.pure with L9:=cA (·.id) (⟨id,false⟩:aB) p.pure.L9 }):=jS hok
    clear hok;go_wp2_with (refine ec 4 49 #[i_ j_ q.id,i_ j_ q.next,s_ q.aN q.L8.length q.aW,s_ q.bc q.aj.length q.bF,s_ a9 (k+1+(p.L9.length - k)) c9,s_ q.ax q.ag.length q.aP,s_ q.am q.ae.length q.aG,s_ q.aK q.ai.length q.aV] HZ.I.2.1 ?_);refine mG results74 (b_ true) HZ.I.2.1 ?_;have hl:=HZ.I.2.2.2;rw [HN.I];refine ⟨({ q with L9:=(p.L9.take k ++ [(⟨id,false⟩:aB)]) ++ p.L9.drop k,ay:=a9,aO:=c9 } :af),by unfold af.cells; simp only [DM.I]; rfl,(HZ.I.2.2.1.lower zo).same fun g hg=>KH _ _ _ _ ZcO,eX.I.2.2.2.2.2.2,q_ HZ.I.1 zo _⟩
   .have HN:bE (cB p.pure { p.pure with L9:=cA (·.id) (⟨id,false⟩:aB) p.pure.L9 } =n_):=jh hok
    clear hok;go_wp2_with (refine ec 4 49 ar HZ.I.2.1 ?_);refine mG results74 (b_ false) HZ.I.2.1 ?_;exact X_
end Go.Proofs.YtfncpmaefninjaaGreatDoor
