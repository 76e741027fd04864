/- What the proof leans on, part 23. -/
import Derived.Test.YtckenjkcmajicaaGreatOwnF18
set_option linter.all false
set_option maxRecDepth 100000
set_option maxHeartbeats 8000000
open Go.Proofs.Tryz
open Go renaming World->w_,Calls->k_
open Go.Ending renaming returned->r_
open Go.IntKind renaming i64->j_
open Go.Obj renaming cells->c_
open Go.RowKit renaming Below->B_,Hid->bN
open Go.Value renaming int->i_,slice->s_,bool->b_,string->t_,agg->a_
open Option renaming some->o_,none->n_
open Go renaming wp_at_succ->Kd,wp_at_zero->Kc
open Go.Proofs.Tryz renaming prog->J3

open Go.RowKit
open Array renaming getElem?_eq_some_iff->J2
namespace Go.Proofs.YtckenjkcmajicaaGreat
open Go.Maps
attribute [local go_sem ↓] Kc Kd
theorem Cl (q:af) (n bi:Nat) (x:ao) (bj:Int) (o:dN) (w:w_) (h:ap w bi q) (hb:bi<=w.heap.size) (hr:aQ q.pure) (hx:q.L8[n]? =o_ x) (hs:x.Md=1) (hn:q.next<=999999990) (eu:0<=bj/\bj<=1000000000) (ho:kc o=true) (hk:o.1=12):
  k_ J3 186 #[a_ q.cells,i_ j_ n,a_ (j9 o),i_ j_ bj] w (jH w bi q (dC o bj x.id q.pure)):=by
 obtain ⟨-,f1,f2,f3,f4⟩:=dv ho;have hM:=bz.1 f2;obtain ⟨k,N,M,s⟩:=o;simp only at hk hM f1 f3 f4;subst hk;have HR:=aA (SD hr hx hs hn eu hM);have HF:=aA (dW hr);clear f2 hr hx hs hn eu hM ho;have S:=aA (Xf.start (o:=(12,N,M,s)) h hb);clear h hb
 go_enter func186,ntmps186
 go_upto_region 1 with fail;generalize ((w.alloc (c_ q.cells 46)).alloc (c_ (j9 (12,N,M,s)) 217)).alloc (c_ ar 46)=A at *;obtain ⟨-,o1,-,-⟩:=S.I.op.cells;simp only at o1;have hpf:=ef (num:=fun x:az=>x.id) N q.ag 0;have Mb:=mg q N A Zb4 S.I.fr.own.at;generalize place (q.ag.map (fun x=>x.id)) N 0=z at *;go_wp2_with (refine eT _ S.I.fr.box ?_);refine Mb.mono ?_;clear Mb;rintro e A2 ⟨rfl,hb2⟩;replace S:=aA (S.I.reads hb2);clear hb2 o1;rcases hpf with ⟨hz,hf⟩ | ⟨m,y,hz,hm,hid,hf⟩
 .subst hz
  have HE:bN (dC (12,N,M,s) bj x.id q.pure=bu 3 x.id q.pure):=by show dC (12,N,M,s) bj x.id q.pure=_; unfold dC; rw [show cg (fun x:az=>x.id) N q.pure.ag=n_ from hf]
  exact ZbE
 rw [Li] at hz;subst hz;have afO:decide ((m:Int) < 0)=false:=decide_eq_false zw;have HM:bN (q.ag[m]? =o_ y/\y.id=N/\cg (fun x:az=>x.id) N q.pure.ag=o_ y):=⟨hm,hid,hf⟩
 have hml:=(Lj.1 hm).1;have j0:(0:Int)<=(m:Int):=zw
 have j1:(m:Int) < (q.ag.length:Int):=zw
 clear hm hid hf hml;obtain ⟨o0,-,-,-⟩:=S.I.op.cells;simp only at o0;have ht:=(sX (o:=(12,N,M,s)) HR.I.1 HM.I.2.2).2;have HG1:=aA (kg HR.I.1 HR.I.2.1 ht);clear ht;go_upto_region 17 with fail;clear afO o0;replace S:=aA (S.I.reads (Kp _ _).drew);refine eD (fun w1=>w1=A2.drew) 11 ZbY rfl ?_;generalize A2.drew=B at *;obtain ⟨Y5,iE,hat⟩:=jr S.I.fr.own.at.2.2.2.1 HM.I.1;have m5:=S.I.fr.box.cells.2.2.2.2.2.1;rw [iE] at m5;have d1:=hat.2.1;have d2:=hat.2.2;have HG:bN (q.ax=o_ ⟨Y5,0,n_⟩):=iE;clear hat iE;obtain ⟨gp,l9,-⟩:=cn S.I.fr.own.at.1 HR.I.2.1;have m2:=S.I.fr.box.cells.2.2.1;have k1:(n:Int) < (q.L8.length:Int):=by have:=(Lj.1 HR.I.2.1).1; omega
 have k0:(0:Int)<=(n:Int):=zw
 rw [l9] at m2;obtain ⟨s1,⟨u,c⟩,f⟩:=eY (n:=n) (j:=9) (v:=t_ y.text) (y:= { x with got:=y.text }) S.I.fr.own HR.I.2.1 l9 ⟨rfl,rfl,rfl⟩ (by decide) rfl;replace S:=aA (S.I.call s1);clear s1 l9
 iterate 11 (refine ly 12 (v:= ?_) (o_ _) rfl rfl ZbY (fun _ _ _ h=>h) (bV ZbY ?_) ?_; rotate_left; (intro w0 hS0; subst hS0; go_simp; try with_reducible rfl); simp only [pt,sb,s0,s1])
 refine fL rfl ZbY ZbY ZbY ?_;intro w1 cm;rw [cm];clear cm w1
 go_simp
 generalize B.setCell ⟨gp,n * 12+9,n_⟩ (t_ y.text)=C at *;clear m2 m5 d1 d2 c f u k0 k1;obtain ⟨q1,hq1,hq⟩:=HG1.I;have HB:bN (q1.ag[m]? =o_ y/\q1.next=q.next/\q1.ax=q.ax):=by rw [hq1]; exact ⟨HM.I.1,rfl,rfl⟩
 rw [<- hq1] at S;have HQ:=aA hq;clear hq1 hq HG1;obtain ⟨ga2,iE,hat⟩:=jr S.I.fr.own.at.2.2.2.1 HB.I.1;rw [HB.I.2.2,HG.I] at iE;cases iE;have d1:=hat.2.1;clear hat;have m5:=S.I.fr.box.cells.2.2.2.2.2.1;rw [HG.I] at m5;cases hu:y.shown
 .rw [hu] at d1
  have HE:bN (dC (12,N,M,s) bj x.id q.pure=mX 7 (12,N,M,s) bj x.id (ez y.text x.id q.pure)):=by show dC (12,N,M,s) bj x.id q.pure=_; unfold dC; rw [show cg (fun x:az=>x.id) N q.pure.ag=o_ y from HM.I.2.2]; simp [hu]
  clear hu;have Mb:=oR q1 n bi { x with got:=y.text } 7 bj (12,N,M,s) C S.I.fr.own S.I.low HQ.I.2.2.1 HQ.I.2.2.2 Zcb (by have:=HR.I.2.2.2.1; rw [HB.I.2.1]; omega) HR.I.2.2.2.2.1 HR.I.2.2.2.2.2;rw [HQ.I.1,HQ.I.2.1] at Mb;go_wp2_with (first | (refine eT _ S.I.fr.box ?_) | (refine LS rfl 217 (.tmp 6) rfl (w.heap.size+1) (by rfl) 217 (j9 (12,N,M,s)) (0,0) _ S.I.op underlying217 rfl ZbY ?_));exact ir
 .rw [hu] at d1
  have HE:bN (dC (12,N,M,s) bj x.id q.pure=bu 0 x.id (ez y.text x.id q.pure)):=by show dC (12,N,M,s) bj x.id q.pure=_; unfold dC; rw [show cg (fun x:az=>x.id) N q.pure.ag=o_ y from HM.I.2.2]; simp [hu]
  clear hu;have Mb:=bB (n:=n) 0 S.I.fr.own S.I.low HQ.I.2.2.1 HQ.I.2.2.2 Zcb;exact ZbU
theorem AS (q:af) (n bi:Nat) (x:ao) (bj:Int) (o:dN) (w:w_) (h:ap w bi q) (hb:bi<=w.heap.size) (hr:aQ q.pure) (hx:q.L8[n]? =o_ x) (hs:x.Md=1) (hn:q.next<=999999990) (eu:0<=bj/\bj<=1000000000) (ho:kc o=true) (hk:o.1=11):
  k_ J3 186 #[a_ q.cells,i_ j_ n,a_ (j9 o),i_ j_ bj] w (jH w bi q (dC o bj x.id q.pure)):=by
 obtain ⟨-,f1,f2,f3,f4⟩:=dv ho;have hM:=bz.1 f2;obtain ⟨k,N,M,s⟩:=o;simp only at hk hM f1 f3 f4;subst hk;have HR:=aA (SD hr hx hs hn eu hM);have HF:=aA (dW hr);clear f2 hr hx hs hn eu hM ho;have S:=aA (Xf.start (o:=(11,N,M,s)) h hb);clear h hb
 go_enter func186,ntmps186
 go_upto_region 1 with fail;generalize ((w.alloc (c_ q.cells 46)).alloc (c_ (j9 (11,N,M,s)) 217)).alloc (c_ ar 46)=A at *;obtain ⟨-,o1,-,-⟩:=S.I.op.cells;simp only at o1;have hpf:=ef (num:=fun x:az=>x.id) N q.ag 0;have Mb:=mg q N A Zb4 S.I.fr.own.at;generalize place (q.ag.map (fun x=>x.id)) N 0=z at *;go_wp2_with (refine eT _ S.I.fr.box ?_);refine Mb.mono ?_;clear Mb;rintro e A2 ⟨rfl,hb2⟩;replace S:=aA (S.I.reads hb2);clear hb2 o1;rcases hpf with ⟨hz,hf⟩ | ⟨m,y,hz,hm,hid,hf⟩
 .subst hz
  have HE:bN (dC (11,N,M,s) bj x.id q.pure=bu 3 x.id q.pure):=by show dC (11,N,M,s) bj x.id q.pure=_; unfold dC; rw [show cg (fun x:az=>x.id) N q.pure.ag=n_ from hf]
  exact ZbE
 rw [Li] at hz;subst hz;have afO:decide ((m:Int) < 0)=false:=decide_eq_false zw;have HM:bN (q.ag[m]? =o_ y/\y.id=N/\cg (fun x:az=>x.id) N q.pure.ag=o_ y):=⟨hm,hid,hf⟩
 have hml:=(Lj.1 hm).1;have j0:(0:Int)<=(m:Int):=zw
 have j1:(m:Int) < (q.ag.length:Int):=zw
 clear hm hid hf hml;obtain ⟨o0,-,-,-⟩:=S.I.op.cells;simp only at o0;have HE:bN (dC (11,N,M,s) bj x.id q.pure=bu 0 x.id (ib N false rM q.pure)):=by show dC (11,N,M,s) bj x.id q.pure=_; unfold dC; rw [show cg (fun x:az=>x.id) N q.pure.ag=o_ y from HM.I.2.2]; rfl
 obtain ⟨Y5,iE,hat⟩:=jr S.I.fr.own.at.2.2.2.1 HM.I.1;have m5:=S.I.fr.box.cells.2.2.2.2.2.1;rw [iE] at m5;have HG:bN (q.ax=o_ ⟨Y5,0,n_⟩):=iE;clear hat iE;obtain ⟨s1,⟨u,c⟩,f⟩:=ll (n:=m) (j:=1) (v:=b_ false) (y:= { y with shown:=false }) S.I.fr.own HM.I.1 HG.I (by decide) rfl;replace S:=aA (S.I.call s1);clear s1;go_upto_region 15 with fail;generalize A2.setCell ⟨Y5,m * 3+1,n_⟩ (b_ false)=C at *;clear m5 c f u;have m5:=S.I.fr.box.cells.2.2.2.2.2.1;rw [HG.I] at m5;obtain ⟨s1,⟨u,c⟩,f⟩:=ll (n:=m) (j:=2) (v:=t_ ⟨#[]⟩) (x:= { y with shown:=false }) (y:= { y with shown:=false,text:=rM }) S.I.fr.own ZcY HG.I (by decide) rfl;replace S:=aA (S.I.call s1);clear s1;simp only [PV] at S;go_upto_region 20 with fail;generalize C.setCell ⟨Y5,m * 3+2,n_⟩ (t_ ⟨#[]⟩)=D at *;clear m5 c f u afO j0 j1;have CK:bN (∃ q1:af,q1= { q with ag:=q.ag.set m { y with shown:=false,text:=rM } } /\q1.pure=ib N false rM q.pure/\q1.cells=q.cells/\aQ q1.pure/\q1.L8[n]? =o_ x/\q1.next=q.next):=by
  have hq:({ q with ag:=q.ag.set m { y with shown:=false,text:=rM } } :af).pure=ib N false rM q.pure:=by show ({ q.pure with ag:=q.ag.set m { y with shown:=false,text:=rM } } :aE)=_; unfold ib; rw [jF (num:=fun x:az=>x.id) (db HR.I.1.ag).2 HM.I.1 HM.I.2.1]; rfl
  exact ⟨_,rfl,hq,by unfold af.cells; simp,by rw [hq]; exact kA HR.I.1 jX (.inr oB),HR.I.2.1,rfl⟩
 obtain ⟨q1,hq1,hq⟩:=CK.I;rw [<- hq1] at S;have HQ:=aA hq;clear hq1 hq CK;have Mb:=bB (n:=n) 0 S.I.fr.own S.I.low HQ.I.2.2.1 HQ.I.2.2.2.1 Zb6;exact ZbU
theorem CA (q:af) (n bi:Nat) (x:ao) (bj:Int) (o:dN) (w:w_) (h:ap w bi q) (hb:bi<=w.heap.size) (hr:aQ q.pure) (hx:q.L8[n]? =o_ x) (hs:x.Md=1) (hn:q.next<=999999990) (eu:0<=bj/\bj<=1000000000) (ho:kc o=true) (hk:o.1=10):
  k_ J3 186 #[a_ q.cells,i_ j_ n,a_ (j9 o),i_ j_ bj] w (jH w bi q (dC o bj x.id q.pure)):=by
 obtain ⟨-,f1,f2,f3,f4⟩:=dv ho;have hM:=bz.1 f2;obtain ⟨k,N,M,s⟩:=o;simp only at hk hM f1 f3 f4;subst hk;have HR:=aA (SD hr hx hs hn eu hM);have HF:=aA (dW hr);clear f2 hr hx hs hn eu hM ho;have S:=aA (Xf.start (o:=(10,N,M,s)) h hb);clear h hb
 go_enter func186,ntmps186
 go_upto_region 1 with fail;generalize ((w.alloc (c_ q.cells 46)).alloc (c_ (j9 (10,N,M,s)) 217)).alloc (c_ ar 46)=A at *;obtain ⟨-,o1,-,-⟩:=S.I.op.cells;simp only at o1;have hpf:=ef (num:=fun x:az=>x.id) N q.ag 0;have Mb:=mg q N A Zb4 S.I.fr.own.at;generalize place (q.ag.map (fun x=>x.id)) N 0=z at *;go_wp2_with (refine eT _ S.I.fr.box ?_);refine Mb.mono ?_;clear Mb;rintro e A2 ⟨rfl,hb2⟩;replace S:=aA (S.I.reads hb2);clear hb2 o1;rcases hpf with ⟨hz,hf⟩ | ⟨m,y,hz,hm,hid,hf⟩
 .subst hz
  have HE:bN (dC (10,N,M,s) bj x.id q.pure=bu 3 x.id q.pure):=by show dC (10,N,M,s) bj x.id q.pure=_; unfold dC; rw [show cg (fun x:az=>x.id) N q.pure.ag=n_ from hf]
  exact ZbE
 rw [Li] at hz;subst hz;have afO:decide ((m:Int) < 0)=false:=decide_eq_false zw;have HM:bN (q.ag[m]? =o_ y/\y.id=N/\cg (fun x:az=>x.id) N q.pure.ag=o_ y):=⟨hm,hid,hf⟩
 have hml:=(Lj.1 hm).1;have j0:(0:Int)<=(m:Int):=zw
 have j1:(m:Int) < (q.ag.length:Int):=zw
 clear hm hid hf hml;obtain ⟨o0,-,-,-⟩:=S.I.op.cells;simp only at o0;have HE:bN (dC (10,N,M,s) bj x.id q.pure=bu 0 x.id (ff (lG s) 7 N (ib N true s q.pure))):=by show dC (10,N,M,s) bj x.id q.pure=_; unfold dC; rw [show cg (fun x:az=>x.id) N q.pure.ag=o_ y from HM.I.2.2]; rfl
 obtain ⟨Y5,iE,hat⟩:=jr S.I.fr.own.at.2.2.2.1 HM.I.1;have m5:=S.I.fr.box.cells.2.2.2.2.2.1;rw [iE] at m5;have HG:bN (q.ax=o_ ⟨Y5,0,n_⟩):=iE;clear hat iE;obtain ⟨s1,⟨u,c⟩,f⟩:=ll (n:=m) (j:=1) (v:=b_ true) (y:= { y with shown:=true }) S.I.fr.own HM.I.1 HG.I (by decide) rfl;replace S:=aA (S.I.call s1);clear s1;go_upto_region 7 with fail;generalize A2.setCell ⟨Y5,m * 3+1,n_⟩ (b_ true)=C at *;clear m5 c f u;obtain ⟨-,-,-,o3⟩:=S.I.op.cells;simp only at o3;have m5:=S.I.fr.box.cells.2.2.2.2.2.1;rw [HG.I] at m5;obtain ⟨s1,⟨u,c⟩,f⟩:=ll (n:=m) (j:=2) (v:=t_ s) (x:= { y with shown:=true }) (y:= { y with shown:=true,text:=s }) S.I.fr.own ZcY HG.I (by decide) rfl;replace S:=aA (S.I.call s1);clear s1;simp only [PV] at S;go_upto_region 8 with fail;generalize C.setCell ⟨Y5,m * 3+2,n_⟩ (t_ s)=D at *;clear m5 c f u afO j0 j1 o3;have CK:bN (∃ q1:af,q1= { q with ag:=q.ag.set m { y with shown:=true,text:=s } } /\q1.pure=ib N true s q.pure/\q1.cells=q.cells/\aQ q1.pure/\q1.L8[n]? =o_ x/\q1.next=q.next):=by
  have hq:({ q with ag:=q.ag.set m { y with shown:=true,text:=s } } :af).pure=ib N true s q.pure:=by show ({ q.pure with ag:=q.ag.set m { y with shown:=true,text:=s } } :aE)=_; unfold ib; rw [jF (num:=fun x:az=>x.id) (db HR.I.1.ag).2 HM.I.1 HM.I.2.1]; rfl
  exact ⟨_,rfl,hq,by unfold af.cells; simp,by rw [hq]; exact kA HR.I.1 f3 (.inl rfl),HR.I.2.1,rfl⟩
 obtain ⟨q1,hq1,hq⟩:=CK.I;rw [<- hq1] at S;have HQ:=aA hq;clear hq1 hq CK;have Mb:=ij q1 7 N D (by have:=(dW HQ.I.2.2.1).1; omega) S.I.fr.own.at;rw [HQ.I.2.1] at Mb;obtain ⟨-,o1,-,-⟩:=S.I.op.cells;simp only at o1;go_wp2_with (refine eT _ S.I.fr.box ?_);refine Mb.mono ?_;clear Mb o1;rintro e af3 ⟨⟨z,rfl,gV⟩,hb2⟩;replace S:=aA (S.I.reads hb2);clear hb2;have afW:=aA (S.I.sync HQ.I.2.1);have IB:bN (bw s=true):=f3;have HI:=aA (If.start (f:=lG s) (n:=n) (x:=x.toaD) HQ.I.2.2.1 (mj HQ.I.2.2.2.1) (by have:=HR.I.2.2.2.1; rw [HQ.I.2.2.2.2]; exact this) gV);rw [HQ.I.1] at HI;clear gV S f1 f3 f4;go_wp2_with fail
 go_loopg [10] ((ib N true s q.pure).L8.filter (ie 7 N)).length (fun k b wr=> ∃ (qk:af) (z:Int),b=i_ j_ z/\bN (If (lG s) 7 N (ff (lG s) 7 N (ib N true s q.pure)) n x.toaD k qk z/\Xf w bi q qk qk (10,N,M,s) wr))
 case atStart=>exact ⟨q1,z,rfl,HI.I,afW.I⟩
 case round=>
  obtain ⟨qk,z,rfl,HK⟩:=hrel;have S:=aA HK.I.2;rcases pp HK.I.1.best with ⟨hz,hw⟩ | ⟨i,v,hz,hi,hw⟩
  .have afO:decide (z>=0)=false:=decide_eq_false zw
   obtain ⟨x2,hx2,sw⟩:=tQ HK.I.1.pos;have HT:bN (bu 0 x2.id qk.pure=dC (10,N,M,s) bj x.id q.pure):=by show bu 0 x2.id qk.pure=_; rw [HE.I,<- HK.I.1.same,qO hw,show x2.id=x.id from congrArg aD.id sw]
   have Mb:=bB (n:=n) 0 S.I.fr.own S.I.low HK.I.1.r hx2 Zb5;clear hz hw hx2 sw;go_wp2_with (refine eT _ S.I.fr.box ?_);refine Mb.mono ?_;clear Mb;rintro e A2 ⟨q2,rfl,hp,ht⟩;replace S:=aA (S.I.call ht);have HP:bN (q2.pure=_):=hp;clear hp ht;go_wp2_with (refine ec _ _ q2.cells S.I.an ?_);refine gZ results186 S.I.an ?_;exact ⟨q2,rfl,HP.I.trans HT.I,S.I.done _⟩
  subst hz;have afO:decide ((i:Int)>=0)=true:=decide_eq_true zw;have HW:bN (jl 7 N qk.pure.L8=o_ v.toaD/\qk.L8[i]? =o_ v/\v.Md=7):=⟨hw,hi,(ft hw).2.1⟩
  clear hw hi;obtain ⟨-,-,-,o3⟩:=S.I.op.cells;simp only at o3;obtain ⟨gp,l9,-⟩:=cn S.I.fr.own.at.1 HW.I.2.1;have m2:=S.I.fr.box.cells.2.2.1;have k1:(i:Int) < (qk.L8.length:Int):=by have:=(Lj.1 HW.I.2.1).1; omega
  have k0:(0:Int)<=(i:Int):=zw
  rw [l9] at m2;obtain ⟨s1,⟨u,c⟩,f⟩:=eY (n:=i) (j:=9) (v:=t_ s) (y:= { v with got:=s }) S.I.fr.own HW.I.2.1 l9 ⟨rfl,rfl,rfl⟩ (by decide) rfl;replace S:=aA (S.I.call s1);clear s1 l9;go_upto_region 12 with fail;generalize wr.setCell ⟨gp,i * 12+9,n_⟩ (t_ s)=E at *;clear m2 c f u k0 k1 afO o3;obtain ⟨afn,hqg,g1,g2,g3,g4⟩:=kg HK.I.1.r HW.I.2.1 IB.I;rw [<- hqg] at S;have Mb:=lP (n:=i) S.I.fr.own S.I.low g3 g4 (by show ¬ v.Md=0; rw [HW.I.2.2]; decide) (by rw [hqg]; have:=HK.I.1.nx; show qk.next<=_; omega);rw [g1,g2,show ({ v with got:=s } :ao).toaD=lG s v.toaD from rfl,Bz] at Mb;clear hqg g1 g2 g3 g4;go_wp2_with (refine eT _ S.I.fr.box ?_);refine Mb.mono ?_;clear Mb;rintro e afP ⟨q2,rfl,hp,ht⟩;replace S:=aA (S.I.call ht);have HJ:=aA (HK.I.1.step (q2:=q2) HR.I.2.2.1 ⟨by decide,by decide⟩ (.inr ⟨_,IB.I,rfl⟩) HW.I.1 hp);clear hp ht;have S2:=aA S.I.put;go_upto_region 10 with (refine ec _ _ q2.cells S.I.fr.box ?_);generalize afP.setRow w.heap.size q2.cells=afv at *;clear S;have S:=S2;clear S2;obtain ⟨-,o1,-,-⟩:=S.I.op.cells;simp only at o1;have Mb:=ij q2 7 N afv (by have:=(dW HJ.I.2.2.1).1; omega) S.I.fr.own.at;go_wp2_with (refine eT _ S.I.fr.box ?_);refine Mb.mono ?_;clear Mb o1;rintro e R1 ⟨⟨z2,rfl,gV⟩,hb2⟩;exact Zac
end Go.Proofs.YtckenjkcmajicaaGreat

namespace Go.Proofs.YtckenjkcmajicaaGreat
open Go.Maps
attribute [local go_sem ↓] Kc Kd
theorem BE (q:af) (n bi:Nat) (x:ao) (bj:Int) (o:dN) (w:w_) (h:ap w bi q) (hb:bi<=w.heap.size) (hr:aQ q.pure) (hx:q.L8[n]? =o_ x) (hs:x.Md=1) (hn:q.next<=999999990) (eu:0<=bj/\bj<=1000000000) (ho:kc o=true) (hk:o.1=7):
  k_ J3 184 #[a_ q.cells,i_ j_ n,a_ (j9 o),i_ j_ bj] w (jH w bi q (dE o bj x.id q.pure)):=by
 obtain ⟨-,f1,f2,f3,f4⟩:=dv ho;have hM:=bz.1 f2;obtain ⟨k,N,M,s⟩:=o;simp only at hk hM f1 f3 f4;subst hk;have HR:=aA (SD hr hx hs hn eu hM);have HF:=aA (dW hr);clear f2 hr hx hs hn eu hM ho;have S:=aA (Xf.start (o:=(7,N,M,s)) h hb);clear h hb
 go_enter func184,ntmps184
 go_upto_region 1 with fail;generalize ((w.alloc (c_ q.cells 46)).alloc (c_ (j9 (7,N,M,s)) 217)).alloc (c_ ar 46)=A at *;obtain ⟨-,o1,-,-⟩:=S.I.op.cells;simp only at o1;have Mb:=lw q N A Zb4 S.I.fr.own.at;go_wp2_with (refine eT _ S.I.fr.box ?_);refine Mb.mono ?_;clear Mb;rintro e A2 ⟨rfl,hb2⟩;replace S:=aA (S.I.reads hb2);clear hb2 o1;generalize place (q.aj.map (fun x=>x.id)) N 0=z0 at *;obtain ⟨o0,o1,-,-⟩:=S.I.op.cells;simp only at o0 o1;have hpf:=ef (num:=fun x:aB=>x.id) N q.L9 0;have Mb:=ml q N A2 Zb4 S.I.fr.own.at;generalize place (q.L9.map (fun x=>x.id)) N 0=z at *;go_wp2_with (refine eT _ S.I.fr.box ?_);refine Mb.mono ?_;clear Mb;rintro e A3 ⟨rfl,hb2⟩;replace S:=aA (S.I.reads hb2);clear hb2 o0 o1;obtain ⟨o0,-,-,-⟩:=S.I.op.cells;simp only at o0;rcases hpf with ⟨hz,hf⟩ | ⟨m,y,hz,hm,hid,hf⟩
 .subst hz
  have HE:bN (dE (7,N,M,s) bj x.id q.pure=bu 3 x.id q.pure):=by show dE (7,N,M,s) bj x.id q.pure=_; unfold dE; rw [show cg (fun x:aB=>x.id) N q.pure.L9=n_ from hf]
  exact ZbA
 rw [Li] at hz;subst hz;have afO:decide ((m:Int) < 0)=false:=decide_eq_false zw;have HM:bN (q.L9[m]? =o_ y/\y.id=N/\cg (fun x:aB=>x.id) N q.L9=o_ y):=⟨hm,hid,hf⟩
 have hml:=(Lj.1 hm).1;have j0:(0:Int)<=(m:Int):=zw
 have j1:(m:Int) < (q.L9.length:Int):=zw
 obtain ⟨Y5,iE,hat⟩:=j4 S.I.fr.own.at.2.2.1 hm;have m4:=S.I.fr.box.cells.2.2.2.2.1;rw [iE] at m4;have HG:bN (q.ay=o_ ⟨Y5,0,n_⟩):=iE;have d1:=hat.2;clear hm hid hf hml hat iE;cases hu:y.up
 .rw [hu] at d1
  have HE:bN (dE (7,N,M,s) bj x.id q.pure=mX 4 (7,N,M,s) bj x.id q.pure):=by show dE (7,N,M,s) bj x.id q.pure=_; unfold dE; rw [show cg (fun x:aB=>x.id) N q.pure.L9=o_ y from HM.I.2.2]; simp [hu]
  clear hu;have Mb:=oR q n bi x 4 bj (7,N,M,s) A3 S.I.fr.own S.I.low HR.I.1 HR.I.2.1 Zb6 Zcr HR.I.2.2.2.2.1 HR.I.2.2.2.2.2;go_wp2_with (first | (refine eT _ S.I.fr.box ?_) | (refine LS rfl 217 (.tmp 6) rfl (w.heap.size+1) (by rfl) 217 (j9 (7,N,M,s)) (0,0) _ S.I.op underlying217 rfl ZbY ?_));exact f_
 .rw [hu] at d1
  have HE:bN (dE (7,N,M,s) bj x.id q.pure=bu 0 x.id q.pure):=by show dE (7,N,M,s) bj x.id q.pure=_; unfold dE; rw [show cg (fun x:aB=>x.id) N q.pure.L9=o_ y from HM.I.2.2]; simp [hu]
  clear hu;have Mb:=bB (n:=n) 0 S.I.fr.own S.I.low HR.I.1 HR.I.2.1 Zb6;exact ZbC
theorem Ab (q:af) (n bi:Nat) (x:ao) (bj:Int) (o:dN) (w:w_) (h:ap w bi q) (hb:bi<=w.heap.size) (hr:aQ q.pure) (hx:q.L8[n]? =o_ x) (hs:x.Md=1) (hn:q.next<=999999990) (eu:0<=bj/\bj<=1000000000) (ho:kc o=true) (hk:o.1=6):
  k_ J3 184 #[a_ q.cells,i_ j_ n,a_ (j9 o),i_ j_ bj] w (jH w bi q (dE o bj x.id q.pure)):=by
 obtain ⟨-,f1,f2,f3,f4⟩:=dv ho;have hM:=bz.1 f2;obtain ⟨k,N,M,s⟩:=o;simp only at hk hM f1 f3 f4;subst hk;have HR:=aA (SD hr hx hs hn eu hM);have HF:=aA (dW hr);clear f2 hr hx hs hn eu hM ho;have S:=aA (Xf.start (o:=(6,N,M,s)) h hb);clear h hb
 go_enter func184,ntmps184
 go_upto_region 1 with fail;generalize ((w.alloc (c_ q.cells 46)).alloc (c_ (j9 (6,N,M,s)) 217)).alloc (c_ ar 46)=A at *;obtain ⟨-,o1,-,-⟩:=S.I.op.cells;simp only at o1;have Mb:=lw q N A Zb4 S.I.fr.own.at;go_wp2_with (refine eT _ S.I.fr.box ?_);refine Mb.mono ?_;clear Mb;rintro e A2 ⟨rfl,hb2⟩;replace S:=aA (S.I.reads hb2);clear hb2 o1;generalize place (q.aj.map (fun x=>x.id)) N 0=z0 at *;obtain ⟨o0,o1,-,-⟩:=S.I.op.cells;simp only at o0 o1;have hpf:=ef (num:=fun x:aB=>x.id) N q.L9 0;have Mb:=ml q N A2 Zb4 S.I.fr.own.at;generalize place (q.L9.map (fun x=>x.id)) N 0=z at *;go_wp2_with (refine eT _ S.I.fr.box ?_);refine Mb.mono ?_;clear Mb;rintro e A3 ⟨rfl,hb2⟩;replace S:=aA (S.I.reads hb2);clear hb2 o0 o1;obtain ⟨o0,-,-,-⟩:=S.I.op.cells;simp only at o0;rcases hpf with ⟨hz,hf⟩ | ⟨m,y,hz,hm,hid,hf⟩
 .subst hz
  have HE:bN (dE (6,N,M,s) bj x.id q.pure=bu 3 x.id q.pure):=by show dE (6,N,M,s) bj x.id q.pure=_; unfold dE; rw [show cg (fun x:aB=>x.id) N q.pure.L9=n_ from hf]
  exact ZbA
 rw [Li] at hz;subst hz;have afO:decide ((m:Int) < 0)=false:=decide_eq_false zw;have HM:bN (q.L9[m]? =o_ y/\y.id=N/\cg (fun x:aB=>x.id) N q.L9=o_ y):=⟨hm,hid,hf⟩
 have hml:=(Lj.1 hm).1;have j0:(0:Int)<=(m:Int):=zw
 have j1:(m:Int) < (q.L9.length:Int):=zw
 obtain ⟨Y5,iE,hat⟩:=j4 S.I.fr.own.at.2.2.1 hm;have m4:=S.I.fr.box.cells.2.2.2.2.1;rw [iE] at m4;have HG:bN (q.ay=o_ ⟨Y5,0,n_⟩):=iE;have HE:bN (dE (6,N,M,s) bj x.id q.pure=bu 0 x.id (gL N false q.pure)):=by show dE (6,N,M,s) bj x.id q.pure=_; unfold dE; rw [show cg (fun x:aB=>x.id) N q.pure.L9=o_ y from HM.I.2.2]; rfl
 clear hm hid hf hml hat iE;obtain ⟨s1,⟨u,c⟩,f⟩:=rv (n:=m) (j:=1) (v:=b_ false) (y:= { y with up:=false }) S.I.fr.own HM.I.1 HG.I (by decide) rfl;replace S:=aA (S.I.call s1);clear s1;go_upto_region 29 with fail;generalize A3.setCell ⟨Y5,m * 2+1,n_⟩ (b_ false)=C at *;clear m4 c f u afO j0 j1 o0;have hq:({ q with L9:=q.L9.set m { y with up:=false } } :af).pure=gL N false q.pure:=by show ({ q.pure with L9:=q.L9.set m { y with up:=false } } :aE)=_; unfold gL; rw [jF (num:=fun x:aB=>x.id) (db HR.I.1.L9).2 HM.I.1 HM.I.2.1]; rfl
 have Hv:af.cells ({ q with L9:=q.L9.set m { y with up:=false } } :af)=q.cells:=by unfold af.cells; simp
 have hr2:aQ (gL N false q.pure):=kw HR.I.1;rw [<- hq] at hr2;have Mb:=bB (n:=n) 0 S.I.fr.own S.I.low hr2 HR.I.2.1 Zb6;rw [hq,Hv] at Mb;clear hq Hv hr2;exact ZbC
theorem Ey (q:af) (n bi:Nat) (x:ao) (bj:Int) (o:dN) (w:w_) (h:ap w bi q) (hb:bi<=w.heap.size) (hr:aQ q.pure) (hx:q.L8[n]? =o_ x) (hs:x.Md=1) (hn:q.next<=999999990) (eu:0<=bj/\bj<=1000000000) (ho:kc o=true) (hk:o.1=5):
  k_ J3 184 #[a_ q.cells,i_ j_ n,a_ (j9 o),i_ j_ bj] w (jH w bi q (dE o bj x.id q.pure)):=by
 obtain ⟨-,f1,f2,f3,f4⟩:=dv ho;have hM:=bz.1 f2;obtain ⟨k,N,M,s⟩:=o;simp only at hk hM f1 f3 f4;subst hk;have HR:=aA (SD hr hx hs hn eu hM);have HF:=aA (dW hr);clear f2 hr hx hs hn eu hM ho;have S:=aA (Xf.start (o:=(5,N,M,s)) h hb);clear h hb
 go_enter func184,ntmps184
 go_upto_region 1 with fail;generalize ((w.alloc (c_ q.cells 46)).alloc (c_ (j9 (5,N,M,s)) 217)).alloc (c_ ar 46)=A at *;obtain ⟨-,o1,-,-⟩:=S.I.op.cells;simp only at o1;have Mb:=lw q N A Zb4 S.I.fr.own.at;go_wp2_with (refine eT _ S.I.fr.box ?_);refine Mb.mono ?_;clear Mb;rintro e A2 ⟨rfl,hb2⟩;replace S:=aA (S.I.reads hb2);clear hb2 o1;generalize place (q.aj.map (fun x=>x.id)) N 0=z0 at *;obtain ⟨o0,o1,-,-⟩:=S.I.op.cells;simp only at o0 o1;have hpf:=ef (num:=fun x:aB=>x.id) N q.L9 0;have Mb:=ml q N A2 Zb4 S.I.fr.own.at;generalize place (q.L9.map (fun x=>x.id)) N 0=z at *;go_wp2_with (refine eT _ S.I.fr.box ?_);refine Mb.mono ?_;clear Mb;rintro e A3 ⟨rfl,hb2⟩;replace S:=aA (S.I.reads hb2);clear hb2 o0 o1;obtain ⟨o0,o1,-,-⟩:=S.I.op.cells;simp only at o0 o1;rcases hpf with ⟨hz,hf⟩ | ⟨m,y,hz,hm,hid,hf⟩
 .subst hz
  have HE:bN (dE (5,N,M,s) bj x.id q.pure=bu 3 x.id q.pure):=by show dE (5,N,M,s) bj x.id q.pure=_; unfold dE; rw [show cg (fun x:aB=>x.id) N q.pure.L9=n_ from hf]
  exact ZbA
 rw [Li] at hz;subst hz;have afO:decide ((m:Int) < 0)=false:=decide_eq_false zw;have HM:bN (q.L9[m]? =o_ y/\y.id=N/\cg (fun x:aB=>x.id) N q.L9=o_ y):=⟨hm,hid,hf⟩
 have hml:=(Lj.1 hm).1;have j0:(0:Int)<=(m:Int):=zw
 have j1:(m:Int) < (q.L9.length:Int):=zw
 obtain ⟨Y5,iE,hat⟩:=j4 S.I.fr.own.at.2.2.1 hm;have m4:=S.I.fr.box.cells.2.2.2.2.1;rw [iE] at m4;have HG:bN (q.ay=o_ ⟨Y5,0,n_⟩):=iE;have HE:bN (dE (5,N,M,s) bj x.id q.pure=bu 0 x.id (ff (fun y=>y) 4 N (gL N true q.pure))):=by show dE (5,N,M,s) bj x.id q.pure=_; unfold dE; rw [show cg (fun x:aB=>x.id) N q.pure.L9=o_ y from HM.I.2.2]; rfl
 clear o1;clear hm hid hf hml hat iE;obtain ⟨s1,⟨u,c⟩,f⟩:=rv (n:=m) (j:=1) (v:=b_ true) (y:= { y with up:=true }) S.I.fr.own HM.I.1 HG.I (by decide) rfl;replace S:=aA (S.I.call s1);clear s1;go_upto_region 20 with fail;generalize A3.setCell ⟨Y5,m * 2+1,n_⟩ (b_ true)=C at *;clear m4 c f u afO j0 j1 o0;have hq:({ q with L9:=q.L9.set m { y with up:=true } } :af).pure=gL N true q.pure:=by show ({ q.pure with L9:=q.L9.set m { y with up:=true } } :aE)=_; unfold gL; rw [jF (num:=fun x:aB=>x.id) (db HR.I.1.L9).2 HM.I.1 HM.I.2.1]; rfl
 have Hv:af.cells ({ q with L9:=q.L9.set m { y with up:=true } } :af)=q.cells:=by unfold af.cells; simp
 have hr2:aQ (gL N true q.pure):=kw HR.I.1;obtain ⟨q1,hq1⟩: ∃ q1:af,q1= { q with L9:=q.L9.set m { y with up:=true } } :=⟨_,rfl⟩
 rw [<- hq1] at hq Hv S;rw [<- hq] at hr2;have HQ:bN (q1.pure=gL N true q.pure/\q1.cells=q.cells/\aQ q1.pure/\q1.L8[n]? =o_ x/\q1.next<=999999990):=⟨hq,Hv,hr2,by rw [hq1]; exact HR.I.2.1,by rw [hq1]; exact HR.I.2.2.2.1⟩
 have Mb:=ij q1 4 N C (by have:=(dW HQ.I.2.2.1).1; omega) S.I.fr.own.at;rw [Hv] at Mb;clear hq Hv hr2 hq1;obtain ⟨-,o1,-,-⟩:=S.I.op.cells;simp only at o1;go_wp2_with (refine eT _ S.I.fr.box ?_);refine Mb.mono ?_;clear Mb o1;rintro e afl ⟨⟨z,rfl,gV⟩,hb2⟩;replace S:=aA (S.I.reads hb2);clear hb2;have afW:bN (Xf w bi q q1 q1 (5,N,M,s) afl):=⟨⟨by have h5:=S.I.fr.box; unfold av at h5 ⊢; exact h5.trans (congrArg (fun c=>o_ (Obj.cells c 46 (0,0))) HQ.I.2.1.symm),S.I.fr.own,S.I.fr.kept,S.I.fr.far,S.I.fr.lo,S.I.fr.sz⟩,S.I.op,S.I.an⟩
 have HI:=aA (If.start (f:=fun y=>y) (n:=n) (x:=x.toaD) HQ.I.2.2.1 (mj HQ.I.2.2.2.1) HQ.I.2.2.2.2 gV);rw [HQ.I.1] at HI;clear gV S;go_wp2_with fail
 go_loopg [11] ((gL N true q.pure).L8.filter (ie 4 N)).length (fun k b wr=> ∃ (qk:af) (z:Int),b=i_ j_ z/\bN (If (fun y=>y) 4 N (ff (fun y=>y) 4 N (gL N true q.pure)) n x.toaD k qk z/\Xf w bi q qk qk (5,N,M,s) wr))
 case atStart=>exact ⟨q1,z,rfl,HI.I,afW.I⟩
 case round=>
  obtain ⟨qk,z,rfl,HK⟩:=hrel;have S:=aA HK.I.2;rcases pp HK.I.1.best with ⟨hz,hw⟩ | ⟨i,v,hz,hi,hw⟩
  .have afO:decide (z>=0)=false:=decide_eq_false zw
   obtain ⟨x2,hx2,sw⟩:=tQ HK.I.1.pos;have HT:bN (bu 0 x2.id qk.pure=dE (5,N,M,s) bj x.id q.pure):=by show bu 0 x2.id qk.pure=_; rw [HE.I,<- HK.I.1.same,qO hw,show x2.id=x.id from congrArg aD.id sw]
   have Mb:=bB (n:=n) 0 S.I.fr.own S.I.low HK.I.1.r hx2 Zb5;clear hz hw hx2 sw;go_wp2_with (refine eT _ S.I.fr.box ?_);refine Mb.mono ?_;clear Mb;rintro e A2 ⟨q2,rfl,hp,ht⟩;replace S:=aA (S.I.call ht);have HP:bN (q2.pure=_):=hp;clear hp ht;go_wp2_with (refine ec _ _ q2.cells S.I.an ?_);refine gZ results184 S.I.an ?_;exact ⟨q2,rfl,HP.I.trans HT.I,S.I.done _⟩
  subst hz;have afO:decide ((i:Int)>=0)=true:=decide_eq_true zw;have HW:bN (jl 4 N qk.pure.L8=o_ v.toaD/\qk.L8[i]? =o_ v/\v.Md=4):=⟨hw,hi,(ft hw).2.1⟩
  clear hw hi;have Mb:=lP (n:=i) S.I.fr.own S.I.low HK.I.1.r HW.I.2.1 Zcg (by have:=HK.I.1.nx; omega);go_wp2_with (refine eT _ S.I.fr.box ?_);refine Mb.mono ?_;clear Mb afO;rintro e D ⟨q2,rfl,hp,ht⟩;replace S:=aA (S.I.call ht);have HJ:=aA (HK.I.1.step (q2:=q2) HR.I.2.2.1 ⟨by decide,by decide⟩ (.inl rfl) HW.I.1 hp);clear hp ht;have S2:=aA S.I.put;go_upto_region 22 with (refine ec _ _ q2.cells S.I.fr.box ?_);generalize D.setRow w.heap.size q2.cells=af3 at *;clear S;have S:=S2;clear S2;obtain ⟨-,o1,-,-⟩:=S.I.op.cells;simp only at o1;have Mb:=ij q2 4 N af3 (by have:=(dW HJ.I.2.2.1).1; omega) S.I.fr.own.at;go_wp2_with (refine eT _ S.I.fr.box ?_);refine Mb.mono ?_;clear Mb o1;rintro e afY ⟨⟨z2,rfl,gV⟩,hb2⟩;exact Zac
end Go.Proofs.YtckenjkcmajicaaGreat

namespace Go.Proofs.YtckenjkcmajicaaGreat
open Go.Maps
attribute [local go_sem ↓] Kc Kd
structure DZ (bj:Int) (bi:Nat) (w:w_) (q0:af) (k:Nat) (q:af) (wr:w_):Prop where
 box:av wr w.heap.size q
 mK:wr.heap[w.heap.size+1]? =o_ (c_ ar 46)
 own:ap wr bi q
 cd:B_ bi w wr
 wk:af9 bj q.pure
 same:gj bj q.pure=gj bj q0.pure
 cnt:(lF bj q.pure.L8).length=k
 short: ∀ x∈q.L8,x.prog.length<=1048576
 low: ∀ g∈q.Mc,g < w.heap.size
theorem un {q:af} {gs:Nat} (h:q.aN=o_ ⟨gs,0,n_⟩):gs∈q.Mc:=by
 unfold af.Mc;rw [h];simp [blk]
theorem Eb {bj:Int} {q:af} {n:Nat} {y:ao} {code:Int} (hw:af9 bj q.pure) (hy:q.L8[n]? =o_ y) (hp:q.pure.L8[n]? =o_ y.toaD) (hc:mL y.toaD=code) (hs: ∀ x∈q.L8,x.prog.length<=1048576):
  ({ q with next:=gf q.next y.toaD,L8:=q.L8.set n (pF q.next code y) } :af).pure=gu q.pure y.toaD/\({ q with next:=gf q.next y.toaD,L8:=q.L8.set n (pF q.next code y) } :af).Mc=q.Mc/\(∀ x∈({ q with next:=gf q.next y.toaD,L8:=q.L8.set n (pF q.next code y) } :af).L8,x.prog.length<=1048576):=by
 refine ⟨?_,?_,fun x hx=> ?_⟩
 .unfold gu
  rw [rp hw.kW hp rfl,hc]
  show ({ q.pure with next:=gf q.next y.toaD,L8:=(q.L8.set n (pF q.next code y)).map (·.toaD) } :aE)=_
  rw [PN];rfl
 .unfold af.Mc
  simp only [re hy (show (pF q.next code y).aY=y.aY from rfl)]
 .rcases PO hx with h5 | h5
  .exact hs x h5
  .rw [h5]
   show (iY q.next code y.toaD).prog.length<=_
   rw [(rD _ _ _).2];exact hs y (KA hy)
theorem ti (q0:af) (bj:Int) (bi:Nat) (w:w_) (h:ap w bi q0) (hb:bi<=w.heap.size) (hk:af9 bj q0.pure) (hs: ∀ x∈q0.L8,x.prog.length<=1048576):
  k_ J3 170 #[a_ q0.cells,i_ j_ bj] w fun e w'=> ∃ q:af,e=r_ (a_ q.cells)/\q.pure=gj bj q0.pure/\ap w' bi q/\B_ bi w w':=by
 have b1:B_ w.heap.size w ((w.alloc (c_ q0.cells 46)).alloc (c_ ar 46)):=dT _ _ _;have HB:bN (DZ bj bi w q0 (lF bj q0.pure.L8).length q0 ((w.alloc (c_ q0.cells 46)).alloc (c_ ar 46))/\bi<=w.heap.size):=⟨⟨(cZ _ _ _).1,(cZ _ _ _).2,h.below b1,b1.mono hb,hk,rfl,rfl,hs,fun g hg=>(h.lt g hg).2⟩,hb⟩
 clear h hb hk hs b1;unfold af.cells at *
 go_enter func170,ntmps170
 go_wp2_with fail;generalize (w.alloc (c_ #[i_ j_ q0.id,i_ j_ q0.next,s_ q0.aN q0.L8.length q0.aW,s_ q0.bc q0.aj.length q0.bF,s_ q0.ay q0.L9.length q0.aO,s_ q0.ax q0.ag.length q0.aP,s_ q0.am q0.ae.length q0.aG,s_ q0.aK q0.ai.length q0.aV] 46)).alloc (c_ ar 46)=W at *
 go_loopg [] (lF bj q0.pure.L8).length (fun k wr=> ∃ q:af,bN (DZ bj bi w q0 k q wr))
 case atStart=>exact ⟨q0,HB.I.1⟩
 case round=>
  obtain ⟨q,HO⟩:=hrel
  rename w_=>W1
  have hql:q.L8.length<=6:=by have h5:=HO.I.wk.low; simpa [af.pure] using h5
  go_wp2_with fail
  go_loopw [5,6] (fun b i wr=> ∃ (k:Nat) (z:Int),k<=q.L8.length/\i=i_ j_ k/\b=i_ j_ z/\bN (eN l8 (og bj) q.pure.L8 k z/\B_ W1.heap.size W1 wr)) (fun _ i _=>q.L8.length - (Go.RowKit.intOf i).toNat)
  case atStart=>exact ⟨0,-1,Ky _,rfl,rfl,⟨eN.start _ _ _,Kp _ _⟩⟩
  case round=>
   obtain ⟨k,z,hk,rfl,rfl,HA⟩:=hrel;have HW:bN (av wr w.heap.size q/\ap wr bi q):=⟨HO.I.box.below HA.I.2,HO.I.own.below HA.I.2⟩
   obtain ⟨m0,m1,m2,m3,m4,m5,m6,m7⟩:=HW.I.1.cells;by_cases hlt:k < q.L8.length
   .have i0:(0:Int)<=(k:Int):=zw
    have i1:(k:Int) < (q.L8.length:Int):=zw
    clear m0 m1 m3 m4 m5 m6 m7;obtain ⟨x,hx⟩: ∃ x,q.L8[k]? =o_ x:=⟨_,Kz hlt⟩
    have HX:bN (q.L8[k]? =o_ x/\q.pure.L8[k]? =o_ x.toaD):=⟨hx,by show (q.L8.map (·.toaD))[k]? =_; rw [Kk,hx]; rfl⟩
    obtain ⟨gs,ha,hat⟩:=cn HW.I.2.at.1 hx;have HG:bN (q.aN=o_ ⟨gs,0,n_⟩):=ha;rw [ha] at m2;obtain ⟨d0,d1,d2,d3,d4,d5,d6,d7,d8,d9,tH,tS⟩:=hat;clear hx ha;have hgl:w.heap.size < wr.heap.size:=(J2.1 HW.I.1).1;have HN:bN (av (wr.alloc (c_ x.row 125)) w.heap.size q/\ap (wr.alloc (c_ x.row 125)) bi q/\jx (wr.alloc (c_ x.row 125)) wr.heap.size x/\B_ W1.heap.size W1 (wr.alloc (c_ x.row 125))):=⟨HW.I.1.below ((Kp _ _).alloc (Ki _) _),HW.I.2.below ((Kp _ _).alloc (Ki _) _),Kj _ _,HA.I.2.alloc HA.I.2.size _⟩
    go_wp2_with fail;generalize wr.alloc (c_ x.row 125)=W5 at *;generalize wr.heap.size=X at *;clear d0 d1 d2 d3 d4 d5 d6 d7 d8 d9 tH tS m2 hgl;obtain ⟨-,-,m2,-⟩:=HN.I.1.cells;rw [HG.I] at m2;obtain ⟨-,-,-,b3,-,-,b6,-⟩:=HN.I.2.2.1.cells;by_cases hs:2<=x.Md;rotate_left
    .have d1:decide (2<=x.Md)=false:=decide_eq_false hs
     have HY:bN (eN l8 (og bj) q.pure.L8 (k+1) z):=HA.I.1.skip HX.I.2 (by show (decide (2<=x.Md) && _)=false; rw [d1]; rfl);clear hs;refine aT (fun w'=>(w'.cell? ⟨w.heap.size,2,n_⟩=o_ (s_ (o_ ⟨gs,0,n_⟩) q.L8.length q.aW)/\w'.cell? ⟨X,3,n_⟩=o_ (i_ j_ x.Md)/\w'.cell? ⟨X,6,n_⟩=o_ (i_ j_ x.Mg))/\bN (B_ W5.heap.size W5 w')) ZbY ⟨⟨m2,b3,b6⟩,(Kp _ _).drew⟩ ?_
     iterate 4 (refine PI ?_)
     iterate 4 (refine nl ?_; simp only [pt,sb,s0,s1])
     exact D_
    have d1:decide (2<=x.Md)=true:=decide_eq_true hs;cases hv:cv x.Mg 1 bj
    .have afp:bN (Ending.returned (b_ (cv x.Mg 1 bj))=Ending.returned (b_ false)):=by show _=_; rw [hv]
     have HY:bN (eN l8 (og bj) q.pure.L8 (k+1) z):=HA.I.1.skip HX.I.2 (by show (_ && cv x.Mg 1 bj)=false; rw [hv,PP]);clear hs hv;refine aT (fun w'=>(w'.cell? ⟨w.heap.size,2,n_⟩=o_ (s_ (o_ ⟨gs,0,n_⟩) q.L8.length q.aW)/\w'.cell? ⟨X,3,n_⟩=o_ (i_ j_ x.Md)/\w'.cell? ⟨X,6,n_⟩=o_ (i_ j_ x.Mg))/\bN (B_ W5.heap.size W5 w')) ZbY ⟨⟨m2,b3,b6⟩,(Kp _ _).drew⟩ ?_
     iterate 7 (refine PI ?_)
     refine cl (b_ false) 41 #[i_ j_ x.Mg,i_ j_ 1,i_ j_ bj] ?_ ?_ ?_
     .intro w0 hS0
      obtain ⟨⟨o2,o3,o6⟩,hH⟩:=hS0
      exact ww
     .exact Q3
     simp only [pt,sb,s0,s1]
     exact D_
    have afp:bN (Ending.returned (b_ (cv x.Mg 1 bj))=Ending.returned (b_ true)):=by show _=_; rw [hv]
    have HF:bN (og bj x.toaD=true):=by show (decide (2<=x.Md) && cv x.Mg 1 bj)=true; rw [hv,d1]; rfl
    clear hs hv;by_cases hz:z < 0
    .have afO:decide (z < 0)=true:=decide_eq_true hz
     have HY:bN (eN l8 (og bj) q.pure.L8 (k+1) k):=HA.I.1.first hz HX.I.2 HF.I;refine aT (fun w'=>(w'.cell? ⟨w.heap.size,2,n_⟩=o_ (s_ (o_ ⟨gs,0,n_⟩) q.L8.length q.aW)/\w'.cell? ⟨X,3,n_⟩=o_ (i_ j_ x.Md)/\w'.cell? ⟨X,6,n_⟩=o_ (i_ j_ x.Mg))/\bN (B_ W5.heap.size W5 w')) ZbY ⟨⟨m2,b3,b6⟩,(Kp _ _).drew⟩ ?_
     iterate 7 (refine PI ?_)
     refine cl (b_ true) 41 #[i_ j_ x.Mg,i_ j_ 1,i_ j_ bj] ?_ ?_ ?_
     .intro w0 hS0
      obtain ⟨⟨o2,o3,o6⟩,hH⟩:=hS0
      exact ww
     .exact Q3
     simp only [pt,sb,s0,s1]
     iterate 5 (refine PI ?_)
     iterate 9 (refine nl ?_; simp only [pt,sb,s0,s1])
     iterate 2 (refine PI ?_)
     exact Q4
    have afO:decide (z < 0)=false:=decide_eq_false hz;obtain ⟨n,y0,hzn,hn,hy0,hbe⟩:=HA.I.1.got hz;subst hzn;have Fm:bN (eN l8 (og bj) q.pure.L8 (k+1) (if l8 x.toaD y0 then (k:Int) else (n:Int))):=eN.next hn hy0 hbe HX.I.2 HF.I;obtain ⟨y,hy,rfl⟩: ∃ y,q.L8[n]? =o_ y/\y.toaD=y0:=by
     have h5:(q.L8.map (·.toaD))[n]? =o_ y0:=hy0;rw [Kk,Kw] at h5;exact h5
    have j0:(0:Int)<=(n:Int):=zw
    have j1:(n:Int) < (q.L8.length:Int):=zw
    obtain ⟨gs2,ha2,g8⟩:=cn HN.I.2.1.at.1 hy;rw [HG.I] at ha2;cases ha2;obtain ⟨-,-,-,-,-,-,y6,-⟩:=g8;clear hy hy0 hbe hz;by_cases hw:x.Mg < y.Mg
    .have af6:decide (x.Mg < y.Mg)=true:=decide_eq_true hw
     have HY:bN (eN l8 (og bj) q.pure.L8 (k+1) k):=by have h5:=Fm.I; rwa [show l8 x.toaD y.toaD=true from af6,if_pos rfl] at h5
     clear hw Fm;refine aT (fun w'=>(w'.cell? ⟨w.heap.size,2,n_⟩=o_ (s_ (o_ ⟨gs,0,n_⟩) q.L8.length q.aW)/\w'.cell? ⟨X,3,n_⟩=o_ (i_ j_ x.Md)/\w'.cell? ⟨X,6,n_⟩=o_ (i_ j_ x.Mg)/\w'.cell? ⟨gs,n * 12+6,n_⟩=o_ (i_ j_ y.Mg))/\bN (B_ W5.heap.size W5 w')) ZbY ⟨⟨m2,b3,b6,y6⟩,(Kp _ _).drew⟩ ?_
     iterate 7 (refine PI ?_)
     refine cl (b_ true) 41 #[i_ j_ x.Mg,i_ j_ 1,i_ j_ bj] ?_ ?_ ?_
     .intro w0 hS0
      obtain ⟨⟨o2,o3,o6,afI⟩,hH⟩:=hS0
      exact ww
     .exact Q3
     simp only [pt,sb,s0,s1]
     iterate 16 (refine PI ?_)
     exact Q4
    .have af6:decide (x.Mg < y.Mg)=false:=decide_eq_false hw
     have HY:bN (eN l8 (og bj) q.pure.L8 (k+1) n):=by have h5:=Fm.I; rwa [show l8 x.toaD y.toaD=false from af6,if_neg Bool.false_ne_true] at h5
     clear hw Fm;refine aT (fun w'=>(w'.cell? ⟨w.heap.size,2,n_⟩=o_ (s_ (o_ ⟨gs,0,n_⟩) q.L8.length q.aW)/\w'.cell? ⟨X,3,n_⟩=o_ (i_ j_ x.Md)/\w'.cell? ⟨X,6,n_⟩=o_ (i_ j_ x.Mg)/\w'.cell? ⟨gs,n * 12+6,n_⟩=o_ (i_ j_ y.Mg))/\bN (B_ W5.heap.size W5 w')) ZbY ⟨⟨m2,b3,b6,y6⟩,(Kp _ _).drew⟩ ?_
     iterate 7 (refine PI ?_)
     refine cl (b_ true) 41 #[i_ j_ x.Mg,i_ j_ 1,i_ j_ bj] ?_ ?_ ?_
     .intro w0 hS0
      obtain ⟨⟨o2,o3,o6,afI⟩,hH⟩:=hS0
      exact ww
     .exact Q3
     simp only [pt,sb,s0,s1]
     iterate 16 (refine PI ?_)
     refine bk ZbY ?_ _;intro w1 cm;have HV:bN (B_ W1.heap.size W1 w1):=HN.I.2.2.2.trans (cm.2.I.mono HN.I.2.2.2.size);clear cm;go_wp2;go_roundw
     case rel=>exact ⟨k+1,n,zw,by go_num,rfl,⟨HY.I,HV.I⟩⟩
     case measure=>simp [Go.RowKit.intOf]; omega
   .have i1: ¬ (k:Int) < (q.L8.length:Int):=zw
    have HE:bN (eN l8 (og bj) q.pure.L8 q.L8.length z):=by have h5:=HA.I.1; rwa [show k=q.L8.length by omega] at h5
    have hfl:q.pure.L8.take q.L8.length=q.pure.L8:=by rw [KF]; simp [af.pure]
    have Ih:bN (wr.heap[w.heap.size+1]? =o_ (c_ ar 46)/\B_ bi w wr):=⟨(HA.I.2.block _ (J2.1 HO.I.mK).1).trans HO.I.mK,HO.I.cd.trans (HA.I.2.mono (by have:=HO.I.cd.size; have:=HB.I.2; omega))⟩
    by_cases hz:z < 0
    .have HD:bN (lZ bj q.pure.L8=n_):=by have h5:=HE.I.none' hz; rwa [hfl] at h5
     have afO:decide (z < 0)=true:=decide_eq_true hz;clear hfl hz;go_wp2_with (refine ec _ _ q.row Ih.I.1 ?_);refine gZ results170 Ih.I.1 ?_;exact ⟨q,rfl,by rw [<- HO.I.same]; exact (Co HD.I).symm,HW.I.2.same fun g hg=>KH _ _ _ _ (by have:=HO.I.low g hg; omega),kz Ih.I.2 (by have:=HB.I.2; omega) _⟩
    have afO:decide (z < 0)=false:=decide_eq_false hz;obtain ⟨n,y0,hzn,hn,hy0,hbe⟩:=HE.I.got hz;subst hzn;rw [hfl] at hbe;obtain ⟨y,hy,rfl⟩: ∃ y,q.L8[n]? =o_ y/\y.toaD=y0:=by
     have h5:(q.L8.map (·.toaD))[n]? =o_ y0:=hy0;rw [Kk,Kw] at h5;exact h5
    have HD:bN (lZ bj q.pure.L8=o_ y.toaD/\q.L8[n]? =o_ y/\q.pure.L8[n]? =o_ y.toaD):=⟨hbe,hy,hy0⟩
    have j0:(0:Int)<=(n:Int):=zw
    have j1:(n:Int) < (q.L8.length:Int):=zw
    obtain ⟨gs,ha,hat⟩:=cn HW.I.2.at.1 hy;have HG:bN (q.aN=o_ ⟨gs,0,n_⟩):=ha;have d3:=hat.2.2.2.1;rw [ha] at m2;have hdu:=(af9.mem hbe)
    have hst:2<=y.Md:=by have h5:=hdu.2; unfold og at h5; simp only [J7,decide_eq_true_eq] at h5; exact h5.1
    have hop:=HO.I.wk.op y.toaD hdu.1 hst;have hro:=HO.I.wk.room;have hle:=HO.I.short y (KA hy);have Mb:=fun code=>vT q n bi y code wr HW.I.2 (by have:=HO.I.cd.size; have:=HA.I.2.size; have:=HB.I.2; omega) hy hop hle (by have h5:q.pure.next=q.next:=rfl; omega)
    clear hfl hz hbe hy hy0 hat ha hdu hst hop hro hle hn;unfold af.cells at Mb;simp only [HG.I] at Mb;cases e2:(y.Md == 2)
    .skip
     replace Mb:=Mb 2;have HCO:bN (mL y.toaD=2):=by show mL y.toaD=_; unfold mL; rw [if_neg (by simpa using e2)]
     exact g_
    .skip
     replace Mb:=Mb 0;have HCO:bN (mL y.toaD=0):=by show mL y.toaD=_; unfold mL; rw [if_pos (by simpa using e2)]
     exact g_
end Go.Proofs.YtckenjkcmajicaaGreat

namespace Go.Proofs.YtckenjkcmajicaaGreat
open Go.Maps
attribute [local go_sem ↓] Kc Kd
theorem uy (p:af) (w:w_):k_ J3 140 #[a_ p.cells] w fun e w'=>e=r_ (b_ (decide (p.next<=999999980)))/\B_ w.heap.size w w':=by
 have HB:bN (av (w.alloc (c_ p.cells 46)) w.heap.size p/\B_ w.heap.size w (w.alloc (c_ p.cells 46))):=⟨Kj _ _,(Kp _ _).alloc (Ki _) _⟩
 unfold af.cells at *;obtain ⟨-,m1,-⟩:=HB.I.1.cells
 go_enter func140,ntmps140
 go_wp2;go_ret;exact ⟨rfl,HB.I.2⟩
end Go.Proofs.YtckenjkcmajicaaGreat
