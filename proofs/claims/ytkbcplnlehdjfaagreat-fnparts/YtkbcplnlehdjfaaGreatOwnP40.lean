/- What the proof leans on, part 40. -/
import Derived.Test.YtkbcplnlehdjfaaGreatOwnP38
set_option maxRecDepth 100000
set_option maxHeartbeats 8000000
open Bool renaming and_eq_true->J7
open Go renaming wp_at_succ->Kd,wp_at_zero->Kc
open Go.Proofs.Tryz renaming func234->P5,ntmps234->P6,prog->J3,results234->LZ,results238->P7
open List renaming getElem?_eq_some_iff->Lj
open Nat renaming zero_add->Li
open Option.some renaming inj->KC

namespace Go.Proofs.YtkbcplnlehdjfaaGreat
open Go.RowKit Go.Maps
attribute [local go_sem ↓] Kc Kd
theorem BE (q:af) (n base:Nat) (x:ao) (now:Int) (o:dN) (w:World) (h:ap w base q) (hb:base≤w.heap.size) (hr:aQ q.pure) (hx:q.L8[n]? =some x) (hs:x.Md=1) (hn:q.next≤999999990) (eu:0≤now∧now≤1000000000) (ho:kc o=true) (hk:o.1=7):
  Calls J3 234 #[.agg q.cells,.int .i64 n,.agg (j9 o),.int .i64 now] w (jH w base q (dE o now x.id q.pure)):=by
 obtain ⟨-,f1,f2,f3,f4⟩:=dv ho;have hM:=bz.1 f2;obtain ⟨k,N,M,s⟩:=o;simp only at hk hM f1 f3 f4;subst hk;have HR:=aA (SD hr hx hs hn eu hM);have HF:=aA (dW hr);clear f2 hr hx hs hn eu hM ho;have S:=aA (FO.start (o:=(7,N,M,s)) h hb);clear h hb
 go_enter P5,P6
 go_upto_region 1 with fail;generalize ((w.alloc (.cells q.cells 32)).alloc (.cells (j9 (7,N,M,s)) 134)).alloc (.cells ar 32)=A at *;obtain ⟨-,o1,-,-⟩:=S.I.op.cells;simp only at o1;have Mb:=lw q N A (by have:=HF.I; omega) S.I.fr.own.at;go_wp2_with (refine eT 4 S.I.fr.box ?_);refine Mb.mono ?_;clear Mb;rintro e A2 ⟨rfl,hb2⟩;replace S:=aA (S.I.reads hb2);clear hb2 o1;generalize place (q.aj.map (fun x=>x.id)) N 0=z0 at *;obtain ⟨o0,o1,-,-⟩:=S.I.op.cells;simp only at o0 o1;have hpf:=ef (num:=fun x:aB=>x.id) N q.L9 0;have Mb:=ml q N A2 (by have:=HF.I; omega) S.I.fr.own.at;generalize place (q.L9.map (fun x=>x.id)) N 0=z at *;go_wp2_with (refine eT 4 S.I.fr.box ?_);refine Mb.mono ?_;clear Mb;rintro e A3 ⟨rfl,hb2⟩;replace S:=aA (S.I.reads hb2);clear hb2 o0 o1;obtain ⟨o0,-,-,-⟩:=S.I.op.cells;simp only at o0;rcases hpf with ⟨hz,hf⟩ | ⟨m,y,hz,hm,hid,hf⟩
 ·subst hz
  have HE:Hid (dE (7,N,M,s) now x.id q.pure=bu 3 x.id q.pure):=by show dE (7,N,M,s) now x.id q.pure=_; unfold dE; rw [show cg (fun x:aB=>x.id) N q.pure.L9=none from hf]
  clear hf;have Mb:=bB (n:=n) 3 S.I.fr.own S.I.low HR.I.1 HR.I.2.1 (by rw [HR.I.2.2.1]; decide);go_wp2_with (refine eT 4 S.I.fr.box ?_);refine Mb.mono ?_;clear Mb;rintro e A2 ⟨q2,rfl,hp,ht⟩;replace S:=aA (S.I.call ht);have HP:Hid (q2.pure=_):=hp;clear hp ht;go_wp2_with (refine ec 8 32 q2.cells S.I.an ?_);refine gZ LZ S.I.an ?_;exact ⟨q2,rfl,HP.I.trans HE.I.symm,S.I.done _⟩
 rw [Li] at hz;subst hz;have dz:decide ((m:Int) < 0)=false:=decide_eq_false (by omega);have HM:Hid (q.L9[m]? =some y∧y.id=N∧cg (fun x:aB=>x.id) N q.L9=some y):=⟨hm,hid,hf⟩
 have hml:=(Lj.1 hm).1;have j0:(0:Int)≤(m:Int):=by omega
 have j1:(m:Int) < (q.L9.length:Int):=by omega
 obtain ⟨ga,iE,hat⟩:=j4 S.I.fr.own.at.2.2.1 hm;have m4:=S.I.fr.box.cells.2.2.2.2.1;rw [iE] at m4;have HG:Hid (q.ay=some ⟨ga,0,none⟩):=iE;have d1:=hat.2;clear hm hid hf hml hat iE;cases hu:y.up
 ·rw [hu] at d1
  have HE:Hid (dE (7,N,M,s) now x.id q.pure=mX 4 (7,N,M,s) now x.id q.pure):=by show dE (7,N,M,s) now x.id q.pure=_; unfold dE; rw [show cg (fun x:aB=>x.id) N q.pure.L9=some y from HM.I.2.2]; simp [hu]
  clear hu;have Mb:=oR q n base x 4 now (7,N,M,s) A3 S.I.fr.own S.I.low HR.I.1 HR.I.2.1 (by rw [HR.I.2.2.1]; decide) (by have:=HR.I.2.2.2.1; omega) HR.I.2.2.2.2.1 HR.I.2.2.2.2.2;go_wp2_with (first | (refine eT 4 S.I.fr.box ?_) | (refine wpList_load_row rfl 134 (.tmp 6) rfl (w.heap.size+1) (by rfl) 134 (j9 (7,N,M,s)) (0,0) _ S.I.op Tryz.underlying134 rfl (by kernel_rfl) ?_));refine Mb.mono ?_;clear Mb;rintro e A2 ⟨q2,rfl,hp,ht⟩;replace S:=aA (S.I.call ht);have HP:Hid (q2.pure=_):=hp;clear hp ht;go_wp2_with (refine ec 8 142 q2.cells S.I.an ?_);refine gZ LZ S.I.an ?_;exact ⟨q2,rfl,HP.I.trans HE.I.symm,S.I.done _⟩
 ·rw [hu] at d1
  have HE:Hid (dE (7,N,M,s) now x.id q.pure=bu 0 x.id q.pure):=by show dE (7,N,M,s) now x.id q.pure=_; unfold dE; rw [show cg (fun x:aB=>x.id) N q.pure.L9=some y from HM.I.2.2]; simp [hu]
  clear hu;have Mb:=bB (n:=n) 0 S.I.fr.own S.I.low HR.I.1 HR.I.2.1 (by rw [HR.I.2.2.1]; decide);go_wp2_with (refine eT 4 S.I.fr.box ?_);refine Mb.mono ?_;clear Mb;rintro e A2 ⟨q2,rfl,hp,ht⟩;replace S:=aA (S.I.call ht);have HP:Hid (q2.pure=_):=hp;clear hp ht;go_wp2_with (refine ec 8 145 q2.cells S.I.an ?_);refine gZ LZ S.I.an ?_;exact ⟨q2,rfl,HP.I.trans HE.I.symm,S.I.done _⟩
theorem Ab (q:af) (n base:Nat) (x:ao) (now:Int) (o:dN) (w:World) (h:ap w base q) (hb:base≤w.heap.size) (hr:aQ q.pure) (hx:q.L8[n]? =some x) (hs:x.Md=1) (hn:q.next≤999999990) (eu:0≤now∧now≤1000000000) (ho:kc o=true) (hk:o.1=6):
  Calls J3 234 #[.agg q.cells,.int .i64 n,.agg (j9 o),.int .i64 now] w (jH w base q (dE o now x.id q.pure)):=by
 obtain ⟨-,f1,f2,f3,f4⟩:=dv ho;have hM:=bz.1 f2;obtain ⟨k,N,M,s⟩:=o;simp only at hk hM f1 f3 f4;subst hk;have HR:=aA (SD hr hx hs hn eu hM);have HF:=aA (dW hr);clear f2 hr hx hs hn eu hM ho;have S:=aA (FO.start (o:=(6,N,M,s)) h hb);clear h hb
 go_enter P5,P6
 go_upto_region 1 with fail;generalize ((w.alloc (.cells q.cells 32)).alloc (.cells (j9 (6,N,M,s)) 134)).alloc (.cells ar 32)=A at *;obtain ⟨-,o1,-,-⟩:=S.I.op.cells;simp only at o1;have Mb:=lw q N A (by have:=HF.I; omega) S.I.fr.own.at;go_wp2_with (refine eT 4 S.I.fr.box ?_);refine Mb.mono ?_;clear Mb;rintro e A2 ⟨rfl,hb2⟩;replace S:=aA (S.I.reads hb2);clear hb2 o1;generalize place (q.aj.map (fun x=>x.id)) N 0=z0 at *;obtain ⟨o0,o1,-,-⟩:=S.I.op.cells;simp only at o0 o1;have hpf:=ef (num:=fun x:aB=>x.id) N q.L9 0;have Mb:=ml q N A2 (by have:=HF.I; omega) S.I.fr.own.at;generalize place (q.L9.map (fun x=>x.id)) N 0=z at *;go_wp2_with (refine eT 4 S.I.fr.box ?_);refine Mb.mono ?_;clear Mb;rintro e A3 ⟨rfl,hb2⟩;replace S:=aA (S.I.reads hb2);clear hb2 o0 o1;obtain ⟨o0,-,-,-⟩:=S.I.op.cells;simp only at o0;rcases hpf with ⟨hz,hf⟩ | ⟨m,y,hz,hm,hid,hf⟩
 ·subst hz
  have HE:Hid (dE (6,N,M,s) now x.id q.pure=bu 3 x.id q.pure):=by show dE (6,N,M,s) now x.id q.pure=_; unfold dE; rw [show cg (fun x:aB=>x.id) N q.pure.L9=none from hf]
  clear hf;have Mb:=bB (n:=n) 3 S.I.fr.own S.I.low HR.I.1 HR.I.2.1 (by rw [HR.I.2.2.1]; decide);go_wp2_with (refine eT 4 S.I.fr.box ?_);refine Mb.mono ?_;clear Mb;rintro e A2 ⟨q2,rfl,hp,ht⟩;replace S:=aA (S.I.call ht);have HP:Hid (q2.pure=_):=hp;clear hp ht;go_wp2_with (refine ec 8 32 q2.cells S.I.an ?_);refine gZ LZ S.I.an ?_;exact ⟨q2,rfl,HP.I.trans HE.I.symm,S.I.done _⟩
 rw [Li] at hz;subst hz;have dz:decide ((m:Int) < 0)=false:=decide_eq_false (by omega);have HM:Hid (q.L9[m]? =some y∧y.id=N∧cg (fun x:aB=>x.id) N q.L9=some y):=⟨hm,hid,hf⟩
 have hml:=(Lj.1 hm).1;have j0:(0:Int)≤(m:Int):=by omega
 have j1:(m:Int) < (q.L9.length:Int):=by omega
 obtain ⟨ga,iE,hat⟩:=j4 S.I.fr.own.at.2.2.1 hm;have m4:=S.I.fr.box.cells.2.2.2.2.1;rw [iE] at m4;have HG:Hid (q.ay=some ⟨ga,0,none⟩):=iE;have HE:Hid (dE (6,N,M,s) now x.id q.pure=bu 0 x.id (gL N false q.pure)):=by show dE (6,N,M,s) now x.id q.pure=_; unfold dE; rw [show cg (fun x:aB=>x.id) N q.pure.L9=some y from HM.I.2.2]; rfl
 clear hm hid hf hml hat iE;obtain ⟨s1,⟨u,c⟩,f⟩:=rv (n:=m) (j:=1) (v:= .bool false) (y:= { y with up:=false }) S.I.fr.own HM.I.1 HG.I (by decide) rfl;replace S:=aA (S.I.call s1);clear s1;go_upto_region 29 with fail;generalize A3.setCell ⟨ga,m * 2+1,none⟩ (.bool false)=C at *;clear m4 c f u dz j0 j1 o0;have hq:({ q with L9:=q.L9.set m { y with up:=false } } :af).pure=gL N false q.pure:=by show ({ q.pure with L9:=q.L9.set m { y with up:=false } } :aE)=_; unfold gL; rw [jF (num:=fun x:aB=>x.id) (db HR.I.1.L9).2 HM.I.1 HM.I.2.1]; rfl
 have Hv:af.cells ({ q with L9:=q.L9.set m { y with up:=false } } :af)=q.cells:=by unfold af.cells; simp
 have hr2:aQ (gL N false q.pure):=kw HR.I.1;rw [← hq] at hr2;have Mb:=bB (n:=n) 0 S.I.fr.own S.I.low hr2 HR.I.2.1 (by rw [HR.I.2.2.1]; decide);rw [hq,Hv] at Mb;clear hq Hv hr2;go_wp2_with (refine eT 4 S.I.fr.box ?_);refine Mb.mono ?_;clear Mb;rintro e A2 ⟨q2,rfl,hp,ht⟩;replace S:=aA (S.I.call ht);have HP:Hid (q2.pure=_):=hp;clear hp ht;go_wp2_with (refine ec 8 145 q2.cells S.I.an ?_);refine gZ LZ S.I.an ?_;exact ⟨q2,rfl,HP.I.trans HE.I.symm,S.I.done _⟩
theorem Ey (q:af) (n base:Nat) (x:ao) (now:Int) (o:dN) (w:World) (h:ap w base q) (hb:base≤w.heap.size) (hr:aQ q.pure) (hx:q.L8[n]? =some x) (hs:x.Md=1) (hn:q.next≤999999990) (eu:0≤now∧now≤1000000000) (ho:kc o=true) (hk:o.1=5):
  Calls J3 234 #[.agg q.cells,.int .i64 n,.agg (j9 o),.int .i64 now] w (jH w base q (dE o now x.id q.pure)):=by
 obtain ⟨-,f1,f2,f3,f4⟩:=dv ho;have hM:=bz.1 f2;obtain ⟨k,N,M,s⟩:=o;simp only at hk hM f1 f3 f4;subst hk;have HR:=aA (SD hr hx hs hn eu hM);have HF:=aA (dW hr);clear f2 hr hx hs hn eu hM ho;have S:=aA (FO.start (o:=(5,N,M,s)) h hb);clear h hb
 go_enter P5,P6
 go_upto_region 1 with fail;generalize ((w.alloc (.cells q.cells 32)).alloc (.cells (j9 (5,N,M,s)) 134)).alloc (.cells ar 32)=A at *;obtain ⟨-,o1,-,-⟩:=S.I.op.cells;simp only at o1;have Mb:=lw q N A (by have:=HF.I; omega) S.I.fr.own.at;go_wp2_with (refine eT 4 S.I.fr.box ?_);refine Mb.mono ?_;clear Mb;rintro e A2 ⟨rfl,hb2⟩;replace S:=aA (S.I.reads hb2);clear hb2 o1;generalize place (q.aj.map (fun x=>x.id)) N 0=z0 at *;obtain ⟨o0,o1,-,-⟩:=S.I.op.cells;simp only at o0 o1;have hpf:=ef (num:=fun x:aB=>x.id) N q.L9 0;have Mb:=ml q N A2 (by have:=HF.I; omega) S.I.fr.own.at;generalize place (q.L9.map (fun x=>x.id)) N 0=z at *;go_wp2_with (refine eT 4 S.I.fr.box ?_);refine Mb.mono ?_;clear Mb;rintro e A3 ⟨rfl,hb2⟩;replace S:=aA (S.I.reads hb2);clear hb2 o0 o1;obtain ⟨o0,o1,-,-⟩:=S.I.op.cells;simp only at o0 o1;rcases hpf with ⟨hz,hf⟩ | ⟨m,y,hz,hm,hid,hf⟩
 ·subst hz
  have HE:Hid (dE (5,N,M,s) now x.id q.pure=bu 3 x.id q.pure):=by show dE (5,N,M,s) now x.id q.pure=_; unfold dE; rw [show cg (fun x:aB=>x.id) N q.pure.L9=none from hf]
  clear hf;have Mb:=bB (n:=n) 3 S.I.fr.own S.I.low HR.I.1 HR.I.2.1 (by rw [HR.I.2.2.1]; decide);go_wp2_with (refine eT 4 S.I.fr.box ?_);refine Mb.mono ?_;clear Mb;rintro e A2 ⟨q2,rfl,hp,ht⟩;replace S:=aA (S.I.call ht);have HP:Hid (q2.pure=_):=hp;clear hp ht;go_wp2_with (refine ec 8 32 q2.cells S.I.an ?_);refine gZ LZ S.I.an ?_;exact ⟨q2,rfl,HP.I.trans HE.I.symm,S.I.done _⟩
 rw [Li] at hz;subst hz;have dz:decide ((m:Int) < 0)=false:=decide_eq_false (by omega);have HM:Hid (q.L9[m]? =some y∧y.id=N∧cg (fun x:aB=>x.id) N q.L9=some y):=⟨hm,hid,hf⟩
 have hml:=(Lj.1 hm).1;have j0:(0:Int)≤(m:Int):=by omega
 have j1:(m:Int) < (q.L9.length:Int):=by omega
 obtain ⟨ga,iE,hat⟩:=j4 S.I.fr.own.at.2.2.1 hm;have m4:=S.I.fr.box.cells.2.2.2.2.1;rw [iE] at m4;have HG:Hid (q.ay=some ⟨ga,0,none⟩):=iE;have HE:Hid (dE (5,N,M,s) now x.id q.pure=bu 0 x.id (ff (fun y=>y) 4 N (gL N true q.pure))):=by show dE (5,N,M,s) now x.id q.pure=_; unfold dE; rw [show cg (fun x:aB=>x.id) N q.pure.L9=some y from HM.I.2.2]; rfl
 clear o1;clear hm hid hf hml hat iE;obtain ⟨s1,⟨u,c⟩,f⟩:=rv (n:=m) (j:=1) (v:= .bool true) (y:= { y with up:=true }) S.I.fr.own HM.I.1 HG.I (by decide) rfl;replace S:=aA (S.I.call s1);clear s1;go_upto_region 20 with fail;generalize A3.setCell ⟨ga,m * 2+1,none⟩ (.bool true)=C at *;clear m4 c f u dz j0 j1 o0;have hq:({ q with L9:=q.L9.set m { y with up:=true } } :af).pure=gL N true q.pure:=by show ({ q.pure with L9:=q.L9.set m { y with up:=true } } :aE)=_; unfold gL; rw [jF (num:=fun x:aB=>x.id) (db HR.I.1.L9).2 HM.I.1 HM.I.2.1]; rfl
 have Hv:af.cells ({ q with L9:=q.L9.set m { y with up:=true } } :af)=q.cells:=by unfold af.cells; simp
 have hr2:aQ (gL N true q.pure):=kw HR.I.1;obtain ⟨q1,hq1⟩: ∃ q1:af,q1= { q with L9:=q.L9.set m { y with up:=true } } :=⟨_,rfl⟩
 rw [← hq1] at hq Hv S;rw [← hq] at hr2;have HQ:Hid (q1.pure=gL N true q.pure∧q1.cells=q.cells∧aQ q1.pure∧q1.L8[n]? =some x∧q1.next≤999999990):=⟨hq,Hv,hr2,by rw [hq1]; exact HR.I.2.1,by rw [hq1]; exact HR.I.2.2.2.1⟩
 have Mb:=ij q1 4 N C (by have:=(dW HQ.I.2.2.1).1; omega) S.I.fr.own.at;rw [Hv] at Mb;clear hq Hv hr2 hq1;obtain ⟨-,o1,-,-⟩:=S.I.op.cells;simp only at o1;go_wp2_with (refine eT 4 S.I.fr.box ?_);refine Mb.mono ?_;clear Mb o1;rintro e C2 ⟨⟨z,rfl,gV⟩,hb2⟩;replace S:=aA (S.I.reads hb2);clear hb2;have SB:Hid (FO w base q q1 q1 (5,N,M,s) C2):=⟨⟨by have h5:=S.I.fr.box; unfold av at h5 ⊢; exact h5.trans (congrArg (fun c=>some (Obj.cells c 32 (0,0))) HQ.I.2.1.symm),S.I.fr.own,S.I.fr.kept,S.I.fr.far,S.I.fr.lo,S.I.fr.sz⟩,S.I.op,S.I.an⟩
 have HI:=aA (If.start (f:=fun y=>y) (n:=n) (x:=x.toaD) HQ.I.2.2.1 (mj HQ.I.2.2.2.1) HQ.I.2.2.2.2 gV);rw [HQ.I.1] at HI;clear gV S;go_wp2_with fail
 go_loopg [11] ((gL N true q.pure).L8.filter (ie 4 N)).length (fun k b wr=> ∃ (qk:af) (z:Int),b= .int .i64 z∧Hid (If (fun y=>y) 4 N (ff (fun y=>y) 4 N (gL N true q.pure)) n x.toaD k qk z∧FO w base q qk qk (5,N,M,s) wr))
 case atStart=>exact ⟨q1,z,rfl,HI.I,SB.I⟩
 case round=>
  obtain ⟨qk,z,rfl,HK⟩:=hrel;have S:=aA HK.I.2;rcases pp HK.I.1.best with ⟨hz,hw⟩ | ⟨i,v,hz,hi,hw⟩
  ·have dz:decide (z≥0)=false:=decide_eq_false (by omega)
   obtain ⟨x2,hx2,sw⟩:=tQ HK.I.1.pos;have HT:Hid (bu 0 x2.id qk.pure=dE (5,N,M,s) now x.id q.pure):=by show bu 0 x2.id qk.pure=_; rw [HE.I,← HK.I.1.same,qO hw,show x2.id=x.id from congrArg aD.id sw]
   have Mb:=bB (n:=n) 0 S.I.fr.own S.I.low HK.I.1.r hx2 (by rw [show x2.Md=x.Md from congrArg aD.Md sw,HR.I.2.2.1]; decide);clear hz hw hx2 sw;go_wp2_with (refine eT 4 S.I.fr.box ?_);refine Mb.mono ?_;clear Mb;rintro e A2 ⟨q2,rfl,hp,ht⟩;replace S:=aA (S.I.call ht);have HP:Hid (q2.pure=_):=hp;clear hp ht;go_wp2_with (refine ec 8 145 q2.cells S.I.an ?_);refine gZ LZ S.I.an ?_;exact ⟨q2,rfl,HP.I.trans HT.I,S.I.done _⟩
  subst hz;have dz:decide ((i:Int)≥0)=true:=decide_eq_true (by omega);have HW:Hid (jl 4 N qk.pure.L8=some v.toaD∧qk.L8[i]? =some v∧v.Md=4):=⟨hw,hi,(ft hw).2.1⟩
  clear hw hi;have Mb:=lP (n:=i) S.I.fr.own S.I.low HK.I.1.r HW.I.2.1 (by rw [HW.I.2.2]; decide) (by have:=HK.I.1.nx; omega);go_wp2_with (refine eT 4 S.I.fr.box ?_);refine Mb.mono ?_;clear Mb dz;rintro e D ⟨q2,rfl,hp,ht⟩;replace S:=aA (S.I.call ht);have HJ:=aA (HK.I.1.step (q2:=q2) HR.I.2.2.1 ⟨by decide,by decide⟩ (.inl rfl) HW.I.1 hp);clear hp ht;have S2:=aA S.I.put;go_upto_region 22 with (refine ec 4 121 q2.cells S.I.fr.box ?_);generalize D.setRow w.heap.size q2.cells=D2 at *;clear S;have S:=S2;clear S2;obtain ⟨-,o1,-,-⟩:=S.I.op.cells;simp only at o1;have Mb:=ij q2 4 N D2 (by have:=(dW HJ.I.2.2.1).1; omega) S.I.fr.own.at;go_wp2_with (refine eT 4 S.I.fr.box ?_);refine Mb.mono ?_;clear Mb o1;rintro e D3 ⟨⟨z2,rfl,gV⟩,hb2⟩;replace S:=aA (S.I.reads hb2);clear hb2;have HB:=aA (HJ.I.2.2.2 z2 gV);clear gV;go_wp2_with fail
  go_roundg (gk - 1)
  case rel=>exact ⟨q2,z2,rfl,HB.I,S.I⟩
  case measure=>have:=HJ.I.1; omega
end Go.Proofs.YtkbcplnlehdjfaaGreat

namespace Go.Proofs.YtkbcplnlehdjfaaGreat
open Go.RowKit Go.Maps
attribute [local go_sem ↓] Kc Kd
theorem Aa {p:aE} {y:aD} {N:Int} (h:aQ p) (hf:cg (fun x:aD=>x.id) N p.L8=some y) (h0:y.Md=0) (hn:p.next≤999999990):aQ (py N p):=by
 have hnx:=bz.1 h.next;refine h.ju (nx:=p.next+1) (f:=fun y=> { y with Md:=1,RU:=p.next }) (fun _=>rfl) ⟨by omega,by omega⟩ fun z hz hi=> ?_
 have e:=only h.L8 hf hz hi;subst e;obtain ⟨-,q1,q2,q3⟩:=h.proc hz;have q4:=iF q1;rw [fG,J7] at q1;have q5:=q1.2;unfold bO at q5;rw [if_pos h0] at q5;simp only [J7,decide_eq_true_eq] at q5;obtain ⟨⟨⟨⟨⟨a1,a2⟩,a3⟩,a4⟩,a5⟩,a6⟩:=q5;have q6:jm z.prog=true:=by
  unfold jY at q4;simp only [J7] at q4;exact q4.1.1.1.2
 refine ⟨?_,?_,rfl,.inr (.inr rfl)⟩
 ·rw [fG,J7]
  refine ⟨q4,mr q6 rfl ⟨by show 0≤z.pc; omega,?_⟩ a2 a3 a4 a6⟩
  have:=lK q6
  show z.pc < z.prog.length
  omega
 ·unfold fF
  rw [Bool.or_eq_true];exact .inr (eB (by show 1≤p.next; omega) (by show p.next≤p.next+1 - 1; omega))
theorem sP {q q2:af} {n:Nat} {k nx:Int} {x:ao} {f:aD→aD} (hx:q.L8[n]? =some x) (hk: ¬ x.id=k) (hp:q2.pure= { q.pure with next:=nx,L8:=ce k f q.pure.L8 }): ∃ x2,q2.L8[n]? =some x2∧x2.toaD=x.toaD:=
 tQ (by rw [hp]; exact ym (mj hx) hk)
theorem A0 {q q2:af} {n:Nat} {N:Int} {x:ao} {y:aD} (hr:aQ q.pure) (hx:q.L8[n]? =some x) (hs:x.Md=1) (hf:cg (fun x:aD=>x.id) N q.pure.L8=some y) (h0:y.Md=0) (hn:q.next≤999999990) (hp:q2.pure=py N q.pure):
  aQ q2.pure∧ ∃ x2,q2.L8[n]? =some x2∧x2.toaD=x.toaD:=by
 refine ⟨by rw [hp]; exact Aa hr hf h0 hn,sP hx (fun e=> ?_) hp⟩
 have:=only hr.L8 hf (iu hx) e
 rw [← this] at h0;have h2:x.toaD.Md=1:=hs;omega
theorem BU (q:af) (n base:Nat) (x:ao) (o:dN) (w:World) (h:ap w base q) (hb:base≤w.heap.size) (hr:aQ q.pure) (hx:q.L8[n]? =some x) (hs:x.Md=1) (hn:q.next≤999999990) (ho:kc o=true) (hk:o.1=15):
  Calls J3 238 #[.agg q.cells,.int .i64 n,.agg (j9 o)] w (jH w base q (jU o x.id q.pure)):=by
 obtain ⟨-,f1,f2,f3,f4⟩:=dv ho;have hM:=bz.1 f2;obtain ⟨k,N,M,s⟩:=o;simp only at hk hM f1 f3 f4;subst hk;have HR:Hid (aQ q.pure∧q.L8[n]? =some x∧x.Md=1∧q.next≤999999990∧(-1≤M∧M≤1000)):=⟨hr,hx,hs,hn,hM⟩
 have HF:=aA (dW hr);clear f2 hr hx hs hn hM ho;have S:=aA (FO.start (o:=(15,N,M,s)) h hb);clear h hb
 go_enter Tryz.func238,Tryz.ntmps238
 go_upto_region 1 with fail;generalize ((w.alloc (.cells q.cells 32)).alloc (.cells (j9 (15,N,M,s)) 134)).alloc (.cells ar 32)=A at *;obtain ⟨-,o1,-,-⟩:=S.I.op.cells;simp only at o1;have hpf:=ef (num:=fun x:ao=>x.id) N q.L8 0;have Mb:=lS q N A (by have:=HF.I; omega) S.I.fr.own.at;generalize place (q.L8.map (fun x=>x.id)) N 0=z at *;go_wp2_with (refine eT 3 S.I.fr.box ?_);refine Mb.mono ?_;clear Mb;rintro e A2 ⟨rfl,hb2⟩;replace S:=aA (S.I.reads hb2);clear hb2 o1;have hfm:=lJ (num:=fun x:aD=>x.id) (je:=fun x:ao=>x.id) (g:=fun x:ao=>x.toaD) (fun _=>rfl) (id:=N) q.L8;rcases hpf with ⟨hz,hf⟩ | ⟨m,y,hz,hm,hid,hf⟩
 ·subst hz
  rw [hf] at hfm;have HE:Hid (jU (15,N,M,s) x.id q.pure=bu 3 x.id q.pure):=by show jU (15,N,M,s) x.id q.pure=_; unfold jU; rw [show cg (fun x:aD=>x.id) N q.pure.L8=none from hfm]
  clear hf hfm;have Mb:=bB (n:=n) 3 S.I.fr.own S.I.low HR.I.1 HR.I.2.1 (by rw [HR.I.2.2.1]; decide);go_wp2_with (refine eT 3 S.I.fr.box ?_);refine Mb.mono ?_;clear Mb;rintro e A2 ⟨q2,rfl,hp,ht⟩;replace S:=aA (S.I.call ht);have HP:Hid (q2.pure=_):=hp;clear hp ht;go_wp2_with (refine ec 6 17 q2.cells S.I.an ?_);refine gZ P7 S.I.an ?_;exact ⟨q2,rfl,HP.I.trans HE.I.symm,S.I.done _⟩
 rw [hf] at hfm;rw [Li] at hz;subst hz;have dz:decide ((m:Int) < 0)=false:=decide_eq_false (by omega);have HM:Hid (q.L8[m]? =some y∧y.id=N∧cg (fun x:aD=>x.id) N q.pure.L8=some y.toaD):=⟨hm,hid,hfm⟩
 have hml:=(Lj.1 hm).1;have j0:(0:Int)≤(m:Int):=by omega
 have j1:(m:Int) < (q.L8.length:Int):=by omega
 obtain ⟨gp,l9,hat⟩:=cn S.I.fr.own.at.1 hm;have HG:Hid (q.aN=some ⟨gp,0,none⟩):=l9;obtain ⟨o0,-,-,-⟩:=S.I.op.cells;simp only at o0;have m2:=S.I.fr.box.cells.2.2.1;rw [l9] at m2;have d3:=hat.2.2.2.1;clear hm hid hf hfm hml hat l9;by_cases h0:y.Md=0;rotate_left
 ·have e1:(y.Md == 0)=false:=by simp [h0]
  have HE:Hid (jU (15,N,M,s) x.id q.pure=bu 1 x.id q.pure):=by show jU (15,N,M,s) x.id q.pure=_; unfold jU; rw [show cg (fun x:aD=>x.id) N q.pure.L8=some y.toaD from HM.I.2.2]; exact if_neg h0
  clear h0;have Mb:=bB (n:=n) 1 S.I.fr.own S.I.low HR.I.1 HR.I.2.1 (by rw [HR.I.2.2.1]; decide);go_wp2_with (refine eT 3 S.I.fr.box ?_);refine Mb.mono ?_;clear Mb;rintro e A2 ⟨q2,rfl,hp,ht⟩;replace S:=aA (S.I.call ht);have HP:Hid (q2.pure=_):=hp;clear hp ht;go_wp2_with (refine ec 6 32 q2.cells S.I.an ?_);refine gZ P7 S.I.an ?_;exact ⟨q2,rfl,HP.I.trans HE.I.symm,S.I.done _⟩
 have e1:(y.Md == 0)=true:=by simp [h0]
 have HE:Hid (jU (15,N,M,s) x.id q.pure=bu 0 x.id (py N q.pure)):=by show jU (15,N,M,s) x.id q.pure=_; unfold jU; rw [show cg (fun x:aD=>x.id) N q.pure.L8=some y.toaD from HM.I.2.2]; exact if_pos h0
 have HN:Hid (y.Md=0):=h0;clear h0;obtain ⟨s1,⟨u,c⟩,f⟩:=eY (n:=m) (j:=3) (v:= .int .i64 1) (y:= { y with Md:=1 }) S.I.fr.own HM.I.1 HG.I ⟨rfl,rfl,rfl⟩ (by decide) rfl;replace S:=aA (S.I.call s1);clear s1;go_upto_region 9 with fail;generalize A2.setCell ⟨gp,m * 12+3,none⟩ (.int .i64 1)=C at *;clear m2 d3 c f u dz e1 o0 j0 j1;have hq:({ q with L8:=q.L8.set m { y with Md:=1 } } :af).pure= { q.pure with next:=q.next,L8:=ce y.id (fun z=> { z with Md:=1 }) q.pure.L8 } :=g7 (nx:=q.next) HR.I.1.kW HM.I.1 rfl;have Mb:=oT (n:=m) (x:= { y with Md:=1 }) S.I.fr.own S.I.low (us HR.I.1.kW HM.I.1 rfl) (by show (q.L8.set m _)[m]? =_; rw [List.getElem?_set_self (Lj.1 HM.I.1).1]) ⟨by have h5:=bz.1 HR.I.1.next; have:q.pure.next=q.next:=rfl; show 0≤q.next; omega,by have:=HR.I.2.2.2.1; show q.next≤_; omega⟩;rw [jd (nx:=q.next),hq] at Mb;have HS:Hid ({ q.pure with next:=q.next+1,L8:=ce y.id (fun z=> { z with RU:=q.next }) (ce y.id (fun z=> { z with Md:=1 }) q.pure.L8) } =py N q.pure):=by show _=py N q.pure; rw [pm (by intro _; rfl),HM.I.2.1]; rfl
 clear hq;go_wp2_with (refine eT 3 S.I.fr.box ?_);refine Mb.mono ?_;clear Mb;rintro e C2 ⟨q2,rfl,hp,ht⟩;replace S:=aA (S.I.call ht);replace hp:=hp.trans HS.I;obtain ⟨hr2,x2,hx2,sw⟩:=A0 HR.I.1 HR.I.2.1 HR.I.2.2.1 HM.I.2.2 HN.I HR.I.2.2.2.1 hp;have Mb:=bB (n:=n) 0 S.I.fr.own S.I.low hr2 hx2 (by rw [show x2.Md=x.Md from congrArg aD.Md sw,HR.I.2.2.1]; decide);rw [show x2.id=x.id from congrArg aD.id sw,hp,← HE.I] at Mb;clear hp ht hr2 hx2 sw;go_wp2_with fail;refine Mb.mono ?_;clear Mb;rintro e C22 ⟨q3,rfl,hp,ht⟩;replace S:=aA (S.I.call ht);have HP:Hid (q3.pure=_):=hp;clear hp ht;go_wp2_with (refine ec 6 43 q3.cells S.I.an ?_);refine gZ P7 S.I.an ?_;exact ⟨q3,rfl,HP.I,S.I.done _⟩
theorem C9 (q:af) (n base:Nat) (x:ao) (o:dN) (w:World) (h:ap w base q) (hb:base≤w.heap.size) (hr:aQ q.pure) (hx:q.L8[n]? =some x) (hs:x.Md=1) (hn:q.next≤999999990) (ho:kc o=true) (hk:o.1=16):
  Calls J3 238 #[.agg q.cells,.int .i64 n,.agg (j9 o)] w (jH w base q (lg o x.id q.pure)):=by
 obtain ⟨-,f1,f2,f3,f4⟩:=dv ho;have hM:=bz.1 f2;obtain ⟨k,N,M,s⟩:=o;simp only at hk hM f1 f3 f4;subst hk;have HR:Hid (aQ q.pure∧q.L8[n]? =some x∧x.Md=1∧q.next≤999999990∧(-1≤M∧M≤1000)):=⟨hr,hx,hs,hn,hM⟩
 have HF:=aA (dW hr);clear f2 hr hx hs hn hM ho;have S:=aA (FO.start (o:=(16,N,M,s)) h hb);clear h hb
 go_enter Tryz.func238,Tryz.ntmps238
 go_upto_region 1 with fail;generalize ((w.alloc (.cells q.cells 32)).alloc (.cells (j9 (16,N,M,s)) 134)).alloc (.cells ar 32)=A at *;obtain ⟨-,o1,-,-⟩:=S.I.op.cells;simp only at o1;have hpf:=ef (num:=fun x:ao=>x.id) N q.L8 0;have Mb:=lS q N A (by have:=HF.I; omega) S.I.fr.own.at;generalize place (q.L8.map (fun x=>x.id)) N 0=z at *;go_wp2_with (refine eT 3 S.I.fr.box ?_);refine Mb.mono ?_;clear Mb;rintro e A2 ⟨rfl,hb2⟩;replace S:=aA (S.I.reads hb2);clear hb2 o1;have hfm:=lJ (num:=fun x:aD=>x.id) (je:=fun x:ao=>x.id) (g:=fun x:ao=>x.toaD) (fun _=>rfl) (id:=N) q.L8;rcases hpf with ⟨hz,hf⟩ | ⟨m,y,hz,hm,hid,hf⟩
 ·subst hz
  rw [hf] at hfm;have HE:Hid (lg (16,N,M,s) x.id q.pure=bu 3 x.id q.pure):=by show lg (16,N,M,s) x.id q.pure=_; unfold lg; rw [show cg (fun x:aD=>x.id) N q.pure.L8=none from hfm]
  clear hf hfm;have Mb:=bB (n:=n) 3 S.I.fr.own S.I.low HR.I.1 HR.I.2.1 (by rw [HR.I.2.2.1]; decide);go_wp2_with (refine eT 3 S.I.fr.box ?_);refine Mb.mono ?_;clear Mb;rintro e A2 ⟨q2,rfl,hp,ht⟩;replace S:=aA (S.I.call ht);have HP:Hid (q2.pure=_):=hp;clear hp ht;go_wp2_with (refine ec 6 17 q2.cells S.I.an ?_);refine gZ P7 S.I.an ?_;exact ⟨q2,rfl,HP.I.trans HE.I.symm,S.I.done _⟩
 rw [hf] at hfm;rw [Li] at hz;subst hz;have dz:decide ((m:Int) < 0)=false:=decide_eq_false (by omega);have HM:Hid (q.L8[m]? =some y∧y.id=N∧cg (fun x:aD=>x.id) N q.pure.L8=some y.toaD):=⟨hm,hid,hfm⟩
 have hml:=(Lj.1 hm).1;have j0:(0:Int)≤(m:Int):=by omega
 have j1:(m:Int) < (q.L8.length:Int):=by omega
 obtain ⟨gp,l9,hat⟩:=cn S.I.fr.own.at.1 hm;have HG:Hid (q.aN=some ⟨gp,0,none⟩):=l9;obtain ⟨o0,-,-,-⟩:=S.I.op.cells;simp only at o0;have m2:=S.I.fr.box.cells.2.2.1;rw [l9] at m2;have d3:=hat.2.2.2.1;clear hm hid hf hfm hml hat l9;by_cases h0:y.Md=0
 ·have e1:(y.Md == 0)=true:=by simp [h0]
  have HE:Hid (lg (16,N,M,s) x.id q.pure=bu 1 x.id q.pure):=by show lg (16,N,M,s) x.id q.pure=_; unfold lg; rw [show cg (fun x:aD=>x.id) N q.pure.L8=some y.toaD from HM.I.2.2]; exact if_pos h0
  clear h0;have Mb:=bB (n:=n) 1 S.I.fr.own S.I.low HR.I.1 HR.I.2.1 (by rw [HR.I.2.2.1]; decide);go_wp2_with (refine eT 3 S.I.fr.box ?_);refine Mb.mono ?_;clear Mb;rintro e A2 ⟨q2,rfl,hp,ht⟩;replace S:=aA (S.I.call ht);have HP:Hid (q2.pure=_):=hp;clear hp ht;go_wp2_with (refine ec 6 32 q2.cells S.I.an ?_);refine gZ P7 S.I.an ?_;exact ⟨q2,rfl,HP.I.trans HE.I.symm,S.I.done _⟩
 have e1:(y.Md == 0)=false:=by simp [h0]
 have HE:Hid (lg (16,N,M,s) x.id q.pure=if N=x.id then ot x.id q.pure else bu 0 x.id (ot N q.pure)):=by show lg (16,N,M,s) x.id q.pure=_; unfold lg; rw [show cg (fun x:aD=>x.id) N q.pure.L8=some y.toaD from HM.I.2.2]; exact if_neg h0
 clear h0;go_upto_region 10 with fail;clear m2 d3 dz e1 o0;replace S:=aA (S.I.reads (Below.refl _ _).drew);have HT:Hid (∀ w1,FO w base q q q (16,N,M,s) w1→Ba w.heap.size gp m q y w1):=fun w1 h1=>by
  obtain ⟨g,hg,hat⟩:=cn h1.fr.own.at.1 HM.I.1;rw [HG.I] at hg;cases hg;exact ⟨h1.m2 HG.I,hat⟩
 refine eD (fun w1=>Ba w.heap.size gp m q y w1∧Hid (FO w base q q q (16,N,M,s) w1)) 10 (by kernel_rfl) ⟨HT.I _ S.I,S⟩ ?_;clear S
 iterate 8 (refine ly 11 (v:= ?_) (some _) rfl rfl (by kernel_rfl) (fun _ _ _ h=>h) (bV (by kernel_rfl) ?_) ?_; rotate_left; (intro w0 hS0; obtain ⟨⟨o2,d0,d1,d2,d3,d4,d5,d6,d7,d8,d9,tH,tS⟩,hH⟩:=hS0; go_simp; try with_reducible rfl); simp only [pt,sb,s0,s1])
 refine ly 11 (v:= .agg (sy y)) (some _) rfl rfl (by kernel_rfl) (fun _ _ _ h=>h) (iZ (f:=100) (args:= #[.agg y.row]) (by kernel_rfl) ?_ ?_) ?_
 ·intro w0 hS0
  obtain ⟨⟨o2,d0,d1,d2,d3,d4,d5,d6,d7,d8,d9,tH,tS⟩,hH⟩:=hS0
  go_simp
  try with_reducible rfl
 ·intro w0 hS0
  refine (mN y w0).mono ?_;rintro e w2 ⟨rfl,hb2⟩;have h6:=aA (hS0.2.I.reads hb2);exact ⟨rfl,HT.I _ h6.I,h6⟩
 simp only [pt,sb,s0,s1]
 (refine ly 11 (v:= ?_) (some _) rfl rfl (by kernel_rfl) (fun _ _ _ h=>h) (bV (by kernel_rfl) ?_) ?_; rotate_left; (intro w0 hS0; obtain ⟨⟨o2,d0,d1,d2,d3,d4,d5,d6,d7,d8,d9,tH,tS⟩,hH⟩:=hS0; go_simp; try with_reducible rfl); simp only [pt,sb,s0,s1])
 refine fL rfl (by kernel_rfl) (by kernel_rfl) (by kernel_rfl) ?_;intro B cm;have S:=cm.2;obtain ⟨oC,hto⟩:=GC S.I.fr.own HM.I.1 HG.I;clear cm HT;replace S:=aA (S.I.call hto);clear hto;refine wp_store_mid 43 _ _ rfl gp (m * 12) (sy y) rfl rfl oC (by kernel_rfl) (by kernel_rfl) ?_;generalize B.setCells gp (m * 12) (sy y).toList=C at *;clear oC;obtain ⟨q1,hq1⟩: ∃ q1:af,q1= { q with L8:=q.L8.set m (sW y) } :=⟨_,rfl⟩
 have HQ:Hid (q1.pure=ot N q.pure∧q1.cells=q.cells∧aQ q1.pure):=by
  have hq:q1.pure=ot N q.pure:=by rw [hq1,← HM.I.2.1]; exact g7 (nx:=q.next) HR.I.1.kW HM.I.1 rfl
  exact ⟨hq,by rw [hq1]; exact jd (nx:=q.next),by rw [hq]; exact nG HR.I.1⟩
 rw [← hq1] at S;clear hq1;have k1:=(Lj.1 HR.I.2.1).1;by_cases hmn:m=n
 ·have e2:((m:Int) == (n:Int))=true:=by simp [hmn]
  have HT:Hid (q1.pure=lg (16,N,M,s) x.id q.pure):=by
   have e:y=x:=by have h5:=HM.I.1; rw [hmn,HR.I.2.1] at h5; exact (KC h5).symm
   have hN:N=x.id:=by rw [← HM.I.2.1,e]
   show q1.pure=_
   rw [HE.I,if_pos hN,HQ.I.1,hN]
  clear hmn k1;go_wp2_with (first | (refine eT 3 S.I.fr.box ?_) | (refine ec 6 57 q.cells S.I.an ?_));refine gZ P7 S.I.an ?_;exact ⟨q1,by rw [HQ.I.2.1],HT.I,S.I.done _⟩
 have e2:((m:Int) == (n:Int))=false:=by simp; omega
 have hne: ¬ x.id=N:=fun e=>by
  have h5:=only HR.I.1.L8 HM.I.2.2 (iu HR.I.2.1) e;have h6:=HR.I.1.kW;rw [List.pairwise_iff_getElem] at h6;obtain ⟨i1,i2⟩:=Lj.1 (mj HR.I.2.1);obtain ⟨i3,i4⟩:=Lj.1 (mj HM.I.1);rcases Nat.lt_trichotomy m n with hlt | heq | hgt
  ·have:=h6 m n i3 i1 hlt; rw [i2,i4,h5] at this; omega
  ·exact hmn heq
  ·have:=h6 n m i1 i3 hgt; rw [i2,i4,h5] at this; omega
 have HT:Hid (lg (16,N,M,s) x.id q.pure=bu 0 x.id (ot N q.pure)):=HE.I.trans (if_neg fun e=>hne e.symm);obtain ⟨x2,hx2,sw⟩:=sP (nx:=q.pure.next) (f:=j7) HR.I.2.1 hne HQ.I.1;have Mb:=bB (n:=n) 0 S.I.fr.own S.I.low HQ.I.2.2 hx2 (by rw [show x2.Md=x.Md from congrArg aD.Md sw,HR.I.2.2.1]; decide);rw [show x2.id=x.id from congrArg aD.id sw,HQ.I.1,HQ.I.2.1,← HT.I] at Mb;clear hmn hne hx2 sw k1;go_wp2_with (refine eT 3 S.I.fr.box ?_);refine Mb.mono ?_;clear Mb;rintro e A2 ⟨q2,rfl,hp,ht⟩;replace S:=aA (S.I.call ht);have HP:Hid (q2.pure=_):=hp;clear hp ht;go_wp2_with (refine ec 6 60 q2.cells S.I.an ?_);refine gZ P7 S.I.an ?_;exact ⟨q2,rfl,HP.I,S.I.done _⟩
end Go.Proofs.YtkbcplnlehdjfaaGreat
