/- What the proof leans on, part 38. -/
import Derived.Test.YtkbcplnlehdjfaaGreatOwnW37
set_option maxRecDepth 100000
set_option maxHeartbeats 8000000
open Go.IntKind renaming wrap_i64->K8
open Go.Proofs.Tryz renaming func234->P5,ntmps234->P6,prog->J3,results234->LZ
open Go.RowKit.Below renaming refl->Kp
open List renaming append_assoc->Lm,filterMap_append->LW,filterMap_cons->LH,filter_cons->LN,getElem?_eq_some_iff->Lj,getElem?_map->Kk,length_set->LI,map_set->PN,mem_append->Kg,mem_append_left->Lz,mem_append_right->Ly,mem_cons->Kt,mem_of_getElem?->KA,mem_of_mem_drop->RL,mem_of_mem_take->RK,nodup_append->Kf,set_eq_take_append_cons_drop->RJ
open Nat renaming le_refl->Ki,zero_add->Li

namespace Go.Proofs.YtkbcplnlehdjfaaGreat
section
open Go.RowKit
theorem DL {g:aD→Bool} {f:aD→aD} {x:aD} (hf:g (f x)=false) (hx:g x=true): ∀ {l:List aD},l.Pairwise (fun x y=>x.id < y.id)→x∈l→((ce x.id f l).filter g).length+1=(l.filter g).length
 | [],_,h=>by cases h
 | y :: r,hr,h=>by
  rw [List.pairwise_cons] at hr;by_cases e:y=x
  ·subst e
   have h2:ce y.id f (y :: r)=f y :: r:=by
    have h3:ce y.id f r=r:=qB fun z hz e=>by have:=hr.1 z hz; omega
    simp only [ce,List.map_cons,if_true] at h3 ⊢;rw [h3]
   rw [h2];simp [hf,hx]
  ·have hm:x∈r:=by
    rcases Kt.1 h with h1 | h1
    ·exact absurd h1.symm e
    ·exact h1
   have h4:=DL hf hx hr.2 hm;have h5: ¬ y.id=x.id:=by have:=hr.1 x hm; omega
   have h6:ce x.id f (y :: r)=y :: ce x.id f r:=by simp [ce,h5]
   rw [h6];by_cases hy:g y=true
   ·simp only [LN,hy,if_true,List.length_cons]; omega
   ·simp only [LN,hy,Bool.false_eq_true,if_false]; exact h4
section
variable {p:aE} {f:aD→aD} {st on:Int} {v:aD}
theorem qO (h:jl st on p.L8=none):ff f st on p=p:=by
 unfold ff;rw [Dt h];rfl
theorem zC (hr:aQ p) (hst: ¬ st=0∧ ¬ st=1) (h:jl st on p.L8=some v):ff f st on p=ff f st on (gF f p v)∧((gF f p v).L8.filter (ie st on)).length+1=(p.L8.filter (ie st on)).length:=by
 obtain ⟨m1,m2,m3⟩:=ft h;have h1:((gF f p v).L8.filter (ie st on)).length+1=(p.L8.filter (ie st on)).length:=by
  refine DL (f:=fun y=>iY p.next 0 (f y)) ?_ ?_ hr.kW m1
  ·unfold ie iY
   split
   ·show (decide ((0:Int)=st) && _)=false
    rw [decide_eq_false (by omega)]; rfl
   ·show (decide ((1:Int)=st) && _)=false
    rw [decide_eq_false (by omega)]; rfl
  ·unfold ie; simp [m2,m3]
 refine ⟨?_,h1⟩;unfold ff;rw [← h1];simp only [gW,h]
end
structure If (f:aD→aD) (st on:Int) (tgt:aE) (n:Nat) (x:aD) (k:Nat) (q:af) (z:Int):Prop where
 r:aQ q.pure
 pos:q.pure.L8[n]? =some x
 nx:q.next+k≤1000000000
 cnt:(q.pure.L8.filter (ie st on)).length=k
 same:ff f st on q.pure=tgt
 best:dO (fun x:aD=>decide (x.Md=st) && decide (x.on=on)) q.pure.L8 q.L8.length z
section
variable {f:aD→aD} {st on z z2:Int} {tgt:aE} {n k i:Nat} {x:aD} {v:ao} {q q2:af}
theorem If.start (hr:aQ q.pure) (hp:q.pure.L8[n]? =some x) (hn:q.next≤999999990) (hb:dO (fun x:aD=>decide (x.Md=st) && decide (x.on=on)) q.pure.L8 q.L8.length z):If f st on (ff f st on q.pure) n x (q.pure.L8.filter (ie st on)).length q z:=by
 have h1:(q.pure.L8.filter (ie st on)).length≤q.pure.L8.length:=List.length_filter_le _ _;have h2:=hr.dl;exact ⟨hr,hp,by omega,rfl,rfl,hb⟩
theorem If.step (h:If f st on tgt n x k q z) (hx:x.Md=1) (hst: ¬ st=0∧ ¬ st=1) (hf:f=(fun y=>y)∨ ∃ t,bw t=true∧f=lG t) (hw:jl st on q.pure.L8=some v.toaD) (hp:q2.pure=gF f q.pure v.toaD):
  1≤k∧q.next+1≤1000000000∧aQ q2.pure∧ ∀ z2,dO (fun x:aD=>decide (x.Md=st) && decide (x.on=on)) q2.pure.L8 q2.L8.length z2→If f st on tgt n x (k - 1) q2 z2:=by
 obtain ⟨m1,m2,m3⟩:=ft hw;obtain ⟨h1,h2⟩:=zC (f:=f) h.r hst hw;have h3:=h.cnt;have h4:=h.nx;have h5:=mU q.next v.toaD;have h6:q2.next=gf q.next v.toaD:=congrArg aE.next hp;have hr2:aQ q2.pure:=by rw [hp]; exact i9 h.r m1 (by rw [m2]; exact hst.1) hf (by have:q.pure.next=q.next:=rfl; omega)
 refine ⟨by omega,by omega,hr2,fun z2 hb=>⟨hr2,?_,by omega,by rw [hp]; omega,by rw [hp,← h1]; exact h.same,hb⟩⟩;rw [hp];refine ym h.pos fun e=>hst.2 ?_
 have:=Gc h.r m1 (KA h.pos) e
 rw [this,m2] at hx;exact hx
end
end
section
open Go.RowKit Go.Maps
attribute [local go_sem ↓] Go.wp_at_zero Go.wp_at_succ
theorem dW {q:af} (h:aQ q.pure):q.L8.length≤6∧q.aj.length≤5∧q.L9.length≤5∧q.ag.length≤5∧q.ae.length≤5∧q.ai.length≤5:=by
 have h1:=h.dl;have h2:=h.cb;have h3:=h.dH;simp only [af.pure,List.length_map] at h1 h2 h3;exact ⟨h1,h.fx,h.cD,h.cC,h2,h3⟩
theorem DP {p:aE} {y:bD} (h:aQ p) (hy:y∈p.aj):y.max≤1000:=by
 have h1:=(cK h.aj y hy).2;unfold gw at h1;simp only [Bool.and_eq_true] at h1;exact (bz.1 h1.1).2
theorem CR (q:af) (n base:Nat) (x:ao) (now:Int) (o:dN) (w:World) (h:ap w base q) (hb:base≤w.heap.size) (hr:aQ q.pure) (hx:q.L8[n]? =some x) (hs:x.Md=1) (hn:q.next≤999999990) (eu:0≤now∧now≤1000000000) (ho:kc o=true) (hk:o.1=3):
  Calls J3 234 #[.agg q.cells,.int .i64 n,.agg (j9 o),.int .i64 now] w (jH w base q (mh o now x.id q.pure)):=by
 obtain ⟨-,f1,f2,f3,f4⟩:=dv ho;have hM:=bz.1 f2;obtain ⟨k,N,M,s⟩:=o;simp only at hk hM f1 f3 f4;subst hk;have HR:=aA (SD hr hx hs hn eu hM);have HF:=aA (dW hr);clear f2 hr hx hs hn eu hM ho;have S:=aA (FO.start (o:=(3,N,M,s)) h hb);clear h hb
 go_enter P5,P6
 go_upto_region 1 with fail;generalize ((w.alloc (.cells q.cells 32)).alloc (.cells (j9 (3,N,M,s)) 134)).alloc (.cells ar 32)=A at *;obtain ⟨-,o1,-,-⟩:=S.I.op.cells;simp only at o1;have hpf:=ef (num:=fun x:bD=>x.id) N q.aj 0;have Mb:=lw q N A (by have:=HF.I; omega) S.I.fr.own.at;generalize place (q.aj.map (fun x=>x.id)) N 0=z at *;go_wp2_with (refine eT 4 S.I.fr.box ?_);refine Mb.mono ?_;clear Mb;rintro e A2 ⟨rfl,hb2⟩;replace S:=aA (S.I.reads hb2);clear hb2;clear o1;obtain ⟨o0,-,-,-⟩:=S.I.op.cells;simp only at o0;rcases hpf with ⟨hz,hf⟩ | ⟨m,y,hz,hm,hid,hf⟩
 ·subst hz
  have HE:Hid (mh (3,N,M,s) now x.id q.pure=bu 3 x.id q.pure):=by show mh (3,N,M,s) now x.id q.pure=_; unfold mh; rw [show cg (fun x:bD=>x.id) N q.pure.aj=none from hf]
  clear hf;have Mb:=bB (n:=n) 3 S.I.fr.own S.I.low HR.I.1 HR.I.2.1 (by rw [HR.I.2.2.1]; decide);go_wp2_with (refine eT 4 S.I.fr.box ?_);refine Mb.mono ?_;clear Mb;rintro e A2 ⟨q2,rfl,hp,ht⟩;replace S:=aA (S.I.call ht);have HP:Hid (q2.pure=_):=hp;clear hp ht;go_wp2_with (refine ec 8 32 q2.cells S.I.an ?_);refine gZ LZ S.I.an ?_;exact ⟨q2,rfl,HP.I.trans HE.I.symm,S.I.done _⟩
 rw [Li] at hz;subst hz;have dz:decide ((m:Int) < 0)=false:=decide_eq_false (by omega);have HM:Hid (q.aj[m]? =some y∧y.id=N∧cg (fun x:bD=>x.id) N q.aj=some y):=⟨hm,hid,hf⟩
 have hml:=(Lj.1 hm).1;have j0:(0:Int)≤(m:Int):=by omega
 have j1:(m:Int) < (q.aj.length:Int):=by omega
 obtain ⟨ga,iE,hat⟩:=lQ S.I.fr.own.at.2.1 hm;have m3:=S.I.fr.box.cells.2.2.2.1;rw [iE] at m3;have d1:=hat.2.1;have HG:Hid (q.bc=some ⟨ga,0,none⟩):=iE;clear hm hid hf hml hat iE;by_cases hn0:y.n=0
 ·have HE:Hid (mh (3,N,M,s) now x.id q.pure=mX 3 (3,N,M,s) now x.id q.pure):=by show mh (3,N,M,s) now x.id q.pure=_; unfold mh; rw [show cg (fun x:bD=>x.id) N q.pure.aj=some y from HM.I.2.2]; exact if_pos hn0
  have e1:(y.n == 0)=true:=by simp [hn0]
  have Mb:=oR q n base x 3 now (3,N,M,s) A2 S.I.fr.own S.I.low HR.I.1 HR.I.2.1 (by rw [HR.I.2.2.1]; decide) (by have:=HR.I.2.2.2.1; omega) HR.I.2.2.2.2.1 HR.I.2.2.2.2.2;clear hn0;go_wp2_with (first | (refine eT 4 S.I.fr.box ?_) | (refine wpList_load_row rfl 134 (.tmp 6) rfl (w.heap.size+1) (by rfl) 134 (j9 (3,N,M,s)) (0,0) _ S.I.op Tryz.underlying134 rfl (by kernel_rfl) ?_));refine Mb.mono ?_;clear Mb;rintro e A2 ⟨q2,rfl,hp,ht⟩;replace S:=aA (S.I.call ht);have HP:Hid (q2.pure=_):=hp;clear hp ht;go_wp2_with (refine ec 8 48 q2.cells S.I.an ?_);refine gZ LZ S.I.an ?_;exact ⟨q2,rfl,HP.I.trans HE.I.symm,S.I.done _⟩
 have HE:Hid (mh (3,N,M,s) now x.id q.pure=bu 0 x.id (nZ N (-1) q.pure)):=by show mh (3,N,M,s) now x.id q.pure=_; unfold mh; rw [show cg (fun x:bD=>x.id) N q.pure.aj=some y from HM.I.2.2]; exact if_neg hn0
 have e1:(y.n == 0)=false:=by simp [hn0]
 have HN:Hid (¬ y.n=0):=hn0;clear hn0;go_upto_region 10 with fail;replace S:=aA (S.I.reads (Kp _ _).drew);refine eD (fun w1=>w1=A2.drew) 12 (by kernel_rfl) rfl ?_;generalize A2.drew=B at *;clear m3 d1;have m3:=S.I.fr.box.cells.2.2.2.1;rw [HG.I] at m3;obtain ⟨ga2,iE,hat⟩:=lQ S.I.fr.own.at.2.1 HM.I.1;rw [HG.I] at iE;cases iE;have d1:=hat.2.1;clear hat;obtain ⟨s1,⟨u,c⟩,f⟩:=uR (n:=m) (j:=1) (v:= .int .i64 (y.n - 1)) (y:= { y with n:=y.n - 1 }) S.I.fr.own HM.I.1 HG.I (by decide) rfl;have hk:=pw (o:=(3,N,M,s)) HR.I.1 HM.I.2.2;have n0:=hk.2.1;have n1:=hk.2.2;have n2:y.max≤1000:=DP HR.I.1 (KA HM.I.1);clear hk;have hw:IntKind.wrap .i64 (y.n - 1)=y.n - 1:=by rw [K8]; have:=HN.I; omega
 replace S:=aA (S.I.call s1);clear s1
 iterate 12 (refine ly 13 (v:= ?_) (some _) rfl rfl (by kernel_rfl) (fun _ _ _ h=>h) (bV (by kernel_rfl) ?_) ?_; rotate_left; (intro w0 hS0; subst hS0; go_simp; try with_reducible rfl); simp only [pt,sb,s0,s1])
 refine fL rfl (by kernel_rfl) (by kernel_rfl) (by kernel_rfl) ?_;intro w1 cm;rw [cm];clear cm w1
 go_simp
 generalize B.setCell ⟨ga,m * 3+1,none⟩ (.int .i64 (y.n - 1))=C at *;clear m3 d1 c f u;have hq:({ q with aj:=q.aj.set m { y with n:=y.n - 1 } } :af).pure=nZ N (-1) q.pure:=by show ({ q.pure with aj:=q.aj.set m { y with n:=y.n - 1 } } :aE)=_; unfold nZ; rw [jF (num:=fun x:bD=>x.id) (db HR.I.1.aj).2 HM.I.1 HM.I.2.1]; rfl
 have hr2:aQ (nZ N (-1) q.pure):=mx HR.I.1 fun z hz hk=>by rw [only HR.I.1.aj HM.I.2.2 hz hk]; have:=HN.I; omega
 rw [← hq] at hr2;have Mb:=bB (n:=n) 0 S.I.fr.own S.I.low hr2 HR.I.2.1 (by rw [HR.I.2.2.1]; decide);rw [hq,show af.cells ({ q with aj:=q.aj.set m { y with n:=y.n - 1 } } :af)=q.cells by unfold af.cells; simp] at Mb;clear hq hr2 n0 n1 n2 hw;go_wp2_with (refine eT 4 S.I.fr.box ?_);refine Mb.mono ?_;clear Mb;rintro e A2 ⟨q2,rfl,hp,ht⟩;replace S:=aA (S.I.call ht);have HP:Hid (q2.pure=_):=hp;clear hp ht;go_wp2_with (refine ec 8 145 q2.cells S.I.an ?_);refine gZ LZ S.I.an ?_;exact ⟨q2,rfl,HP.I.trans HE.I.symm,S.I.done _⟩
theorem zE (q:af) (n base:Nat) (x:ao) (now:Int) (o:dN) (w:World) (h:ap w base q) (hb:base≤w.heap.size) (hr:aQ q.pure) (hx:q.L8[n]? =some x) (hs:x.Md=1) (hn:q.next≤999999990) (eu:0≤now∧now≤1000000000) (ho:kc o=true) (hk:o.1=4):
  Calls J3 234 #[.agg q.cells,.int .i64 n,.agg (j9 o),.int .i64 now] w (jH w base q (gJ o x.id q.pure)):=by
 obtain ⟨-,f1,f2,f3,f4⟩:=dv ho;have hM:=bz.1 f2;obtain ⟨k,N,M,s⟩:=o;simp only at hk hM f1 f3 f4;subst hk;have HR:=aA (SD hr hx hs hn eu hM);have HF:=aA (dW hr);clear f2 hr hx hs hn eu hM ho;have S:=aA (FO.start (o:=(4,N,M,s)) h hb);clear h hb
 go_enter P5,P6
 go_upto_region 1 with fail;generalize ((w.alloc (.cells q.cells 32)).alloc (.cells (j9 (4,N,M,s)) 134)).alloc (.cells ar 32)=A at *;obtain ⟨-,o1,-,-⟩:=S.I.op.cells;simp only at o1;have hpf:=ef (num:=fun x:bD=>x.id) N q.aj 0;have Mb:=lw q N A (by have:=HF.I; omega) S.I.fr.own.at;generalize place (q.aj.map (fun x=>x.id)) N 0=z at *;go_wp2_with (refine eT 4 S.I.fr.box ?_);refine Mb.mono ?_;clear Mb;rintro e A2 ⟨rfl,hb2⟩;replace S:=aA (S.I.reads hb2);clear hb2;clear o1;obtain ⟨o0,o1,-,-⟩:=S.I.op.cells;simp only at o0 o1;rcases hpf with ⟨hz,hf⟩ | ⟨m,y,hz,hm,hid,hf⟩
 ·subst hz
  have HE:Hid (gJ (4,N,M,s) x.id q.pure=bu 3 x.id q.pure):=by show gJ (4,N,M,s) x.id q.pure=_; unfold gJ; rw [show cg (fun x:bD=>x.id) N q.pure.aj=none from hf]
  clear hf;have Mb:=bB (n:=n) 3 S.I.fr.own S.I.low HR.I.1 HR.I.2.1 (by rw [HR.I.2.2.1]; decide);go_wp2_with (refine eT 4 S.I.fr.box ?_);refine Mb.mono ?_;clear Mb;rintro e A2 ⟨q2,rfl,hp,ht⟩;replace S:=aA (S.I.call ht);have HP:Hid (q2.pure=_):=hp;clear hp ht;go_wp2_with (refine ec 8 32 q2.cells S.I.an ?_);refine gZ LZ S.I.an ?_;exact ⟨q2,rfl,HP.I.trans HE.I.symm,S.I.done _⟩
 rw [Li] at hz;subst hz;have dz:decide ((m:Int) < 0)=false:=decide_eq_false (by omega);have HM:Hid (q.aj[m]? =some y∧y.id=N∧cg (fun x:bD=>x.id) N q.aj=some y):=⟨hm,hid,hf⟩
 have hml:=(Lj.1 hm).1;have j0:(0:Int)≤(m:Int):=by omega
 have j1:(m:Int) < (q.aj.length:Int):=by omega
 clear hm hid hf hml;have Mb:=ij q 3 N A2 (by have:=HF.I; omega) S.I.fr.own.at;go_wp2_with (refine eT 4 S.I.fr.box ?_);refine Mb.mono ?_;clear Mb o0 o1 dz;rintro e A3 ⟨⟨z,rfl,gV⟩,hb2⟩;replace S:=aA (S.I.reads hb2);clear hb2;rcases pp gV with ⟨hz,hw⟩ | ⟨i,v,hz,hi,hw⟩
 ·have HW:Hid (jl 3 N q.pure.L8=none):=hw
  have dz:decide (z≥0)=false:=decide_eq_false (by omega);clear gV hz hw;obtain ⟨ga,iE,hat⟩:=lQ S.I.fr.own.at.2.1 HM.I.1;have m3:=S.I.fr.box.cells.2.2.2.1;rw [iE] at m3;have d1:=hat.2.1;have d2:=hat.2.2;have HG:Hid (q.bc=some ⟨ga,0,none⟩):=iE;clear hat iE;go_upto_region 15 with fail;clear dz;replace S:=aA (S.I.reads (Kp _ _).drew);refine aT (fun w1=>w1=A3.drew) (by kernel_rfl) rfl ?_;generalize A3.drew=B at *;clear m3 d1 d2;have m3:=S.I.fr.box.cells.2.2.2.1;rw [HG.I] at m3;obtain ⟨ga2,iE,hat⟩:=lQ S.I.fr.own.at.2.1 HM.I.1;rw [HG.I] at iE;cases iE;have d1:=hat.2.1;have d2:=hat.2.2;clear hat
  iterate 13 (refine PI ?_ (hy:=fun w0 hS0=>by subst hS0; go_simp; try with_reducible rfl))
  refine bk (by kernel_rfl) ?_ _;intro w1 cm;rw [cm];clear cm w1;have HU:Hid (gJ (4,N,M,s) x.id q.pure=if y.n=y.max then bu 1 x.id q.pure else bu 0 x.id (nZ N 1 q.pure)):=by show gJ (4,N,M,s) x.id q.pure=_; unfold gJ; rw [show cg (fun x:bD=>x.id) N q.pure.aj=some y from HM.I.2.2]; dsimp only; rw [HW.I]
  by_cases hx0:y.n=y.max
  ·have HE:Hid (gJ (4,N,M,s) x.id q.pure=bu 1 x.id q.pure):=HU.I.trans (if_pos hx0)
   have e1:(y.n == y.max)=true:=by simp [hx0]
   have Mb:=bB (n:=n) 1 S.I.fr.own S.I.low HR.I.1 HR.I.2.1 (by rw [HR.I.2.2.1]; decide);clear hx0 m3 d1 d2;go_wp2_with (refine eT 4 S.I.fr.box ?_);refine Mb.mono ?_;clear Mb;rintro e A2 ⟨q2,rfl,hp,ht⟩;replace S:=aA (S.I.call ht);have HP:Hid (q2.pure=_):=hp;clear hp ht;go_wp2_with (refine ec 8 89 q2.cells S.I.an ?_);refine gZ LZ S.I.an ?_;exact ⟨q2,rfl,HP.I.trans HE.I.symm,S.I.done _⟩
  have HE:Hid (gJ (4,N,M,s) x.id q.pure=bu 0 x.id (nZ N 1 q.pure)):=HU.I.trans (if_neg hx0);have e1:(y.n == y.max)=false:=by simp [hx0]
  have HN:Hid (¬ y.n=y.max):=hx0;clear hx0 d2;go_upto_region 17 with fail;clear e1;replace S:=aA (S.I.reads (Kp _ _).drew);refine eD (fun w1=>w1=B.drew) 12 (by kernel_rfl) rfl ?_;generalize B.drew=B2 at *;clear m3 d1;have m3:=S.I.fr.box.cells.2.2.2.1;rw [HG.I] at m3;obtain ⟨ga2,iE,hat⟩:=lQ S.I.fr.own.at.2.1 HM.I.1;rw [HG.I] at iE;cases iE;have d1:=hat.2.1;clear hat;obtain ⟨s1,⟨u,c⟩,f⟩:=uR (n:=m) (j:=1) (v:= .int .i64 (y.n+1)) (y:= { y with n:=y.n+1 }) S.I.fr.own HM.I.1 HG.I (by decide) rfl;have hk:=pw (o:=(4,N,M,s)) HR.I.1 HM.I.2.2;have n0:=hk.2.1;have n1:=hk.2.2;have n2:y.max≤1000:=DP HR.I.1 (KA HM.I.1);clear hk;have hw:IntKind.wrap .i64 (y.n+1)=y.n+1:=by rw [K8]; have:=HN.I; omega
  replace S:=aA (S.I.call s1);clear s1
  iterate 12 (refine ly 13 (v:= ?_) (some _) rfl rfl (by kernel_rfl) (fun _ _ _ h=>h) (bV (by kernel_rfl) ?_) ?_; rotate_left; (intro w0 hS0; subst hS0; go_simp; try with_reducible rfl); simp only [pt,sb,s0,s1])
  refine fL rfl (by kernel_rfl) (by kernel_rfl) (by kernel_rfl) ?_;intro w1 cm;rw [cm];clear cm w1
  go_simp
  generalize B2.setCell ⟨ga,m * 3+1,none⟩ (.int .i64 (y.n+1))=C at *;clear m3 d1 c f u;have hq:({ q with aj:=q.aj.set m { y with n:=y.n+1 } } :af).pure=nZ N (1) q.pure:=by show ({ q.pure with aj:=q.aj.set m { y with n:=y.n+1 } } :aE)=_; unfold nZ; rw [jF (num:=fun x:bD=>x.id) (db HR.I.1.aj).2 HM.I.1 HM.I.2.1]; rfl
  have hr2:aQ (nZ N (1) q.pure):=mx HR.I.1 fun z hz hk=>by rw [only HR.I.1.aj HM.I.2.2 hz hk]; have:=HN.I; omega
  rw [← hq] at hr2;have Mb:=bB (n:=n) 0 S.I.fr.own S.I.low hr2 HR.I.2.1 (by rw [HR.I.2.2.1]; decide);rw [hq,show af.cells ({ q with aj:=q.aj.set m { y with n:=y.n+1 } } :af)=q.cells by unfold af.cells; simp] at Mb;clear hq hr2 n0 n1 n2 hw;go_wp2_with (refine eT 4 S.I.fr.box ?_);refine Mb.mono ?_;clear Mb;rintro e A2 ⟨q2,rfl,hp,ht⟩;replace S:=aA (S.I.call ht);have HP:Hid (q2.pure=_):=hp;clear hp ht;go_wp2_with (refine ec 8 145 q2.cells S.I.an ?_);refine gZ LZ S.I.an ?_;exact ⟨q2,rfl,HP.I.trans HE.I.symm,S.I.done _⟩
 have HW:Hid (jl 3 N q.pure.L8=some v.toaD∧q.L8[i]? =some v∧v.Md=3):=⟨hw,hi,(ft hw).2.1⟩
 subst hz;have dz:decide ((i:Int)≥0)=true:=decide_eq_true (by omega);have hnx:=HR.I.2.2.2.1;clear gV hw hi;have HE:Hid (gJ (4,N,M,s) x.id q.pure=bu 0 x.id (gF (fun y=>y) q.pure v.toaD)):=by show gJ (4,N,M,s) x.id q.pure=_; unfold gJ; rw [show cg (fun x:bD=>x.id) N q.pure.aj=some y from HM.I.2.2]; dsimp only; rw [HW.I.1]
 have Mb:=lP (n:=i) S.I.fr.own S.I.low HR.I.1 HW.I.2.1 (by rw [HW.I.2.2]; decide) (by omega);go_wp2_with (refine eT 4 S.I.fr.box ?_);refine Mb.mono ?_;clear Mb;rintro e A4 ⟨q2,rfl,hp,ht⟩;replace S:=aA (S.I.call ht);obtain ⟨hr2,x2,hx2,sw⟩:=qp HR.I.1 HR.I.2.1 HR.I.2.2.1 HW.I.2.1 (by rw [HW.I.2.2]; decide) (by rw [HW.I.2.2]; decide) (.inl rfl) (by omega) hp;have Mb:=bB (n:=n) 0 S.I.fr.own S.I.low hr2 hx2 (by rw [show x2.Md=x.Md from congrArg aD.Md sw,HR.I.2.2.1]; decide);rw [show x2.id=x.id from congrArg aD.id sw,hp,← HE.I] at Mb;clear hp ht hr2 hx2 sw dz hnx;go_wp2_with fail;refine Mb.mono ?_;clear Mb;rintro e A42 ⟨q3,rfl,hp,ht⟩;replace S:=aA (S.I.call ht);have HP:Hid (q3.pure=_):=hp;clear hp ht;go_wp2_with (refine ec 8 73 q3.cells S.I.an ?_);refine gZ LZ S.I.an ?_;exact ⟨q3,rfl,HP.I,S.I.done _⟩
end
section
open Go.RowKit Go.Maps
theorem uX {P1 P2:List Nat} {a b:Option Nat} (h:(P1 ++ (a.toList ++ P2)).Nodup) (hb: ∀ g,b=some g→g∉P1∧g∉P2):(P1 ++ (b.toList ++ P2)).Nodup:=by
 obtain ⟨h1,h2,h3⟩:=Kf.1 h;obtain ⟨-,h5,-⟩:=Kf.1 h2;refine Kf.2 ⟨h1,Kf.2 ⟨by cases b <;> simp,h5,fun x hx y hy e=> ?_⟩,fun x hx y hy e=> ?_⟩
 ·cases b with
  | none=>simp at hx
  | some g=>simp at hx; subst hx; exact (hb x rfl).2 (e ▸ hy)
 ·rcases Kg.1 hy with hy | hy
  ·cases b with
   | none=>simp at hy
   | some g=>simp at hy; subst hy; exact (hb y rfl).1 (e ▸ hx)
  ·exact h3 x hx y (Ly _ hy) e
theorem ou (w:World) (base:Nat) (a0:Option Addr) (c0:Nat) (l0:List ByteArray) (ho:w.ownsRow base 9 1 (.slice a0 l0.length c0) l0.length (bT.flat l0)) (a:Option Addr) (l:List ByteArray) (cap:Nat) (h:ld w a (bT.flat l)) (hl:l0.length+l.length≤4000000) (lY:base≤w.heap.size):
  ∃ a' cap' w',(Builtin.append_ #[59,59] 59 #[.slice a0 l0.length c0,.slice a l.length cap]).run J3 w= .ok (.slice a' (l0.length+l.length) cap') w'∧w'.ownsRow base 9 1 (.slice a' (l0.length+l.length) cap') (l0.length+l.length) (bT.flat (l0 ++ l))∧w.grownBy w' (Value.slice a0 l0.length c0).ownBlock∧ ∀ g∈blk a',g∈blk a0∨g=w.heap.size:=by
 obtain ⟨i,hi,e⟩:=Option.map_eq_some_iff.1 zD;simp only [Prod.mk.injEq] at e;rw [bT.dc];exact jD w base _ _ 9 i _ 1 16 Tryz.underlying59 hi e.1 e.2.1 e.2.2 rfl (by decide) a0 l0.length c0 _ ho a l.length cap _ h (bT.dM l) yK hl (by decide) lY
theorem IN (w:World) (s:ByteArray):(w.alloc (.cells #[.string s] 9)).ownsRow w.heap.size 9 1 (.slice (some ⟨w.heap.size,0,none⟩) [s].length 1) [s].length (bT.flat [s]):=
 ⟨rfl,.inr ⟨w.heap.size,1,#[.string s],rfl,Ki _,heap_alloc_new _ _,Ki _,by decide,rfl,rfl⟩⟩
theorem vg {w:World} {a:Option Addr} {l:List ByteArray} {c:Nat} (hk:l.length≤c) (h:Row w a (bT.flat l)):ld w (if c=1 then a else Option.map (fun x:Addr=>⟨x.block,x.off+1,none⟩) a) (bT.flat (l.drop 1)):=by
 have h1:=qK (K:=bT) (k:=1) hk h;have e:(fun x:Addr=>x.add (1 * bT.n))=(fun x:Addr=>⟨x.block,x.off+1,none⟩):=by funext x; rfl
 rw [e] at h1;exact h1
theorem aI.grown {w w5 w7:World} {a:Option Addr} {n c:Nat} (hb:Below w.heap.size w w5) (hg:w5.grownBy w7 (Value.slice a n c).ownBlock):aI w w7 (blk a):=
 ⟨hg.os.trans hb.os,hg.tape.trans hb.tape,hg.output.trans hb.output,Nat.le_trans hb.size hg.size,fun g h1 h2=>(hg.block g (Nat.lt_of_lt_of_le h1 hb.size) fun e=>h2 (di e.symm)).trans (hb.block g h1)⟩
section
variable {w W:World} {base n gs:Nat} {q:af}
theorem mB {x:au} {l:List ByteArray} {a:Option Addr} {c:Nat} (h:ap w base q) (hb:aI w W (blk x.ak)) (hx:q.ae[n]? =some x) (ha:q.am=some ⟨gs,0,none⟩) (ho:W.ownsRow base 9 1 (.slice a l.length c) l.length (bT.flat l)) (hf: ∀ g∈blk a,g∈blk x.ak∨w.heap.size≤g):
  yr w base q ({ q with ae:=q.ae.set n { x with Ma:=l,ak:=a,aq:=c } } :af) (W.setCell ⟨gs,n * 3+2,none⟩ (.slice a l.length c))∧(∃ u,W.cell? ⟨gs,n * 3+2,none⟩=some u)∧W.frozen? ⟨gs,n * 3+2,none⟩=false:=by
 have hn:n < q.ae.length:=(Lj.1 hx).1;have hset:q.ae.set n { x with Ma:=l,ak:=a,aq:=c } =q.ae.take n ++ { x with Ma:=l,ak:=a,aq:=c } :: q.ae.drop (n+1):=by rw [RJ,if_pos hn]
 have hk: ∀ (z:au) (A B:List au),(A ++ z :: B).filterMap aC.bt=A.filterMap aC.bt ++ ((aC.bt z).toList ++ B.filterMap aC.bt):=fun z A B=>by
  rw [LW,LH];cases aC.bt z <;> simp
 have h6:q.ae.filterMap aC.bt=(q.ae.take n).filterMap aC.bt ++ ((aC.bt x).toList ++ (q.ae.drop (n+1)).filterMap aC.bt):=(congrArg (List.filterMap aC.bt) (kL hx)).trans (hk _ _ _);obtain ⟨P1,uZ⟩: ∃ P1,P1=blk q.aN ++ (q.L8.filterMap aR.bt ++ (blk q.bc ++ (blk q.ay ++ (blk q.ax ++ blk q.am)))) ++ (q.ae.take n).filterMap aC.bt:=⟨_,rfl⟩
 obtain ⟨P2,IQ⟩: ∃ P2,P2=(q.ae.drop (n+1)).filterMap aC.bt ++ (blk q.aK ++ q.ai.filterMap aU.bt):=⟨_,rfl⟩
 have e1:q.Mc=P1 ++ ((aC.bt x).toList ++ P2):=by rw [uZ,IQ]; simp only [af.Mc,h6,Lm]
 have e2:({ q with ae:=q.ae.set n { x with Ma:=l,ak:=a,aq:=c } } :af).Mc=P1 ++ ((a.map (·.block)).toList ++ P2):=by
  rw [uZ,IQ];simp only [af.Mc,hset,hk,Lm];rfl
 have hkx: ∀ g,g∈blk x.ak↔g∈(aC.bt x).toList:=fun g=>Iff.rfl
 have Dl:=h.nodup;rw [e1] at Dl;have hP: ∀ g,g∈P1∨g∈P2→g∉blk x.ak:=fun g hg hm=>by
  obtain ⟨-,k2,k3⟩:=Kf.1 Dl;obtain ⟨-,-,k6⟩:=Kf.1 k2;rcases hg with hg | hg
  ·exact k3 g hg g (Lz _ ((hkx g).1 hm)) rfl
  ·exact k6 g ((hkx g).1 hm) g hg rfl
 have hin: ∀ g,g∈P1∨g∈P2→g∈q.Mc:=fun g hg=>by
  rw [e1];rcases hg with hg | hg
  ·exact Lz _ hg
  ·exact Ly _ (Ly _ hg)
 have hgl:gs∈blk q.am:=by rw [ha]; simp [blk]
 have hgP:gs∈P1:=by rw [uZ]; simp [hgl]
 have hsW: ∀ g,g∈P1∨g∈P2→W.heap[g]? =w.heap[g]? :=fun g hg=>hb.same g (h.lt g (hin g hg)).2 (hP g hg)
 have hrow:=aL h.ae fun g hg=>hsW g (.inl (by rw [uZ]; simp [hg]))
 obtain ⟨h1,h2,h3⟩:=rn (K:=bm) (y:= { x with Ma:=l,ak:=a,aq:=c }) (v:= .slice a l.length c) hrow hx ha (show 2 < 3 by decide) rfl;refine ⟨?_,h3⟩;have hnd:({ q with ae:=q.ae.set n { x with Ma:=l,ak:=a,aq:=c } } :af).Mc.Nodup:=by
  rw [e2];refine uX Dl fun g hg=> ?_
  rcases hf g (fZ.2 hg) with hm | hm
  ·exact ⟨fun hq=>hP g (.inl hq) hm,fun hq=>hP g (.inr hq) hm⟩
  ·exact ⟨fun hq=>by have:=(h.lt g (hin g (.inl hq))).2; omega,fun hq=>by have:=(h.lt g (hin g (.inr hq))).2; omega⟩
 have hs: ∀ g,g≠gs→(W.setCell ⟨gs,n * 3+2,none⟩ (.slice a l.length c)).heap[g]? =W.heap[g]? :=fun g hg=>aH hg
 have hsp:q.Mc=(blk q.aN ++ (q.L8.filterMap aR.bt ++ (blk q.bc ++ (blk q.ay ++ blk q.ax)))) ++ (blk q.am ++ (q.ae.filterMap aC.bt ++ (blk q.aK ++ q.ai.filterMap aU.bt))):=by simp [af.Mc,Lm]
 have nw: ∀ g,(g∈(blk q.aN ++ (q.L8.filterMap aR.bt ++ (blk q.bc ++ (blk q.ay ++ blk q.ax))))∨g∈(q.ae.filterMap aC.bt ++ (blk q.aK ++ q.ai.filterMap aU.bt)))→g≠gs:=fun g hg he=>by
  have h5:=h.nodup;rw [hsp] at h5;obtain ⟨-,k2,k3⟩:=Kf.1 h5;obtain ⟨-,-,k6⟩:=Kf.1 k2;rcases hg with hg | hg
  ·exact k3 g hg gs (Lz _ hgl) he
  ·exact k6 gs hgl g hg he.symm
 have hall: ∀ g,g∈P1∨g∈P2→g≠gs→(W.setCell ⟨gs,n * 3+2,none⟩ (.slice a l.length c)).heap[g]? =w.heap[g]? :=fun g hg hne=>(hs g hne).trans (hsW g hg)
 refine ⟨⟨aL h.L8 fun g hg=>hall g (.inl (by rw [uZ]; simp [hg])) (nw g (.inl (by simp [hg]))),aL h.aj fun g hg=>hall g (.inl (by rw [uZ]; simp [hg])) (nw g (.inl (by simp [hg]))),aL h.L9 fun g hg=>hall g (.inl (by rw [uZ]; simp [hg])) (nw g (.inl (by simp [hg]))),aL h.ag fun g hg=>hall g (.inl (by rw [uZ]; simp [hg])) (nw g (.inl (by simp [hg]))),(by show (W.setCell _ _).ownsRow _ _ _ (.slice _ (List.set _ _ _).length _) (List.set _ _ _).length _; rw [LI]; exact h1),aL h.ai fun g hg=>hall g (.inr (by rw [IQ]; simp [hg])) (nw g (.inr (by simp [hg]))),fun z hz=>(h.eI z hz).same fun g hg=>hall g (.inl (by rw [uZ]; simp only [Kg]; exact .inl (.inr (.inl (dP.2 ⟨z,hz,hg⟩))))) (nw g (.inl (by simp only [Kg]; exact .inr (.inl (dP.2 ⟨z,hz,hg⟩))))),?_,?_,hnd⟩,⟨hb.os,hb.tape,hb.output,by rw [ja]; exact hb.size,fun g hg hm=>(hs g fun e=>hm (e ▸ hin gs (.inl hgP))).trans (hb.same g hg fun hx=>hm (by rw [e1]; simp only [Kg]; exact .inr (.inl ((hkx g).1 hx))))⟩,fun g hg=> ?_⟩
 ·intro z hz
  rw [hset] at hz;rcases Kg.1 hz with hz | hz
  ·exact (h.eE z (RK hz)).same fun g hg=>hall g (.inl (by rw [uZ]; exact Ly _ (dP.2 ⟨z,hz,hg⟩))) (nw g (.inr (by simp only [Kg]; exact .inl (dP.2 ⟨z,RK hz,hg⟩))))
  ·rcases Kt.1 hz with rfl | hz
   ·show (W.setCell _ _).ownsRow base _ 1 (.slice a l.length c) l.length (bT.flat l)
    exact aL ho fun g hg=>hs g fun e=>by
     rcases hf g hg with h7 | h7
     ·exact hP gs (.inl hgP) (e ▸ h7)
     ·have:=(h.lt gs (hin gs (.inl hgP))).2; omega
   ·exact (h.eE z (RL hz)).same fun g hg=>hall g (.inr (by rw [IQ]; exact Lz _ (dP.2 ⟨z,hz,hg⟩))) (nw g (.inr (by simp only [Kg]; exact .inl (dP.2 ⟨z,RL hz,hg⟩))))
 ·intro z hz
  exact (h.eR z hz).same fun g hg=>hall g (.inr (by rw [IQ]; simp only [Kg]; exact .inr (.inr (dP.2 ⟨z,hz,hg⟩)))) (nw g (.inr (by simp only [Kg]; exact .inr (.inr (dP.2 ⟨z,hz,hg⟩)))))
 ·rw [e2] at hg
  rcases Kg.1 hg with hg | hg
  ·exact .inl (hin g (.inl hg))
  ·rcases Kg.1 hg with hg | hg
   ·exact (hf g hg).imp_left fun h7=>by rw [e1]; simp only [Kg]; exact .inr (.inl ((hkx g).1 h7))
   ·exact .inl (hin g (.inr hg))
theorem pg {x:aM} {l:List ByteArray} {a:Option Addr} {c:Nat} (h:ap w base q) (hb:aI w W (blk x.ak)) (hx:q.ai[n]? =some x) (ha:q.aK=some ⟨gs,0,none⟩) (ho:W.ownsRow base 9 1 (.slice a l.length c) l.length (bT.flat l)) (hf: ∀ g∈blk a,g∈blk x.ak∨w.heap.size≤g):
  yr w base q ({ q with ai:=q.ai.set n { x with Ma:=l,ak:=a,aq:=c } } :af) (W.setCell ⟨gs,n * 5+4,none⟩ (.slice a l.length c))∧(∃ u,W.cell? ⟨gs,n * 5+4,none⟩=some u)∧W.frozen? ⟨gs,n * 5+4,none⟩=false:=by
 have hn:n < q.ai.length:=(Lj.1 hx).1;have hset:q.ai.set n { x with Ma:=l,ak:=a,aq:=c } =q.ai.take n ++ { x with Ma:=l,ak:=a,aq:=c } :: q.ai.drop (n+1):=by rw [RJ,if_pos hn]
 have hk: ∀ (z:aM) (A B:List aM),(A ++ z :: B).filterMap aU.bt=A.filterMap aU.bt ++ ((aU.bt z).toList ++ B.filterMap aU.bt):=fun z A B=>by
  rw [LW,LH];cases aU.bt z <;> simp
 have h6:q.ai.filterMap aU.bt=(q.ai.take n).filterMap aU.bt ++ ((aU.bt x).toList ++ (q.ai.drop (n+1)).filterMap aU.bt):=(congrArg (List.filterMap aU.bt) (kL hx)).trans (hk _ _ _);obtain ⟨P1,uZ⟩: ∃ P1,P1=blk q.aN ++ (q.L8.filterMap aR.bt ++ (blk q.bc ++ (blk q.ay ++ (blk q.ax ++ (blk q.am ++ (q.ae.filterMap aC.bt ++ blk q.aK)))))) ++ (q.ai.take n).filterMap aU.bt:=⟨_,rfl⟩
 obtain ⟨P2,IQ⟩: ∃ P2,P2=(q.ai.drop (n+1)).filterMap aU.bt:=⟨_,rfl⟩
 have e1:q.Mc=P1 ++ ((aU.bt x).toList ++ P2):=by rw [uZ,IQ]; simp only [af.Mc,h6,Lm]
 have e2:({ q with ai:=q.ai.set n { x with Ma:=l,ak:=a,aq:=c } } :af).Mc=P1 ++ ((a.map (·.block)).toList ++ P2):=by
  rw [uZ,IQ];simp only [af.Mc,hset,hk,Lm];rfl
 have hkx: ∀ g,g∈blk x.ak↔g∈(aU.bt x).toList:=fun g=>Iff.rfl
 have Dl:=h.nodup;rw [e1] at Dl;have hP: ∀ g,g∈P1∨g∈P2→g∉blk x.ak:=fun g hg hm=>by
  obtain ⟨-,k2,k3⟩:=Kf.1 Dl;obtain ⟨-,-,k6⟩:=Kf.1 k2;rcases hg with hg | hg
  ·exact k3 g hg g (Lz _ ((hkx g).1 hm)) rfl
  ·exact k6 g ((hkx g).1 hm) g hg rfl
 have hin: ∀ g,g∈P1∨g∈P2→g∈q.Mc:=fun g hg=>by
  rw [e1];rcases hg with hg | hg
  ·exact Lz _ hg
  ·exact Ly _ (Ly _ hg)
 have hgl:gs∈blk q.aK:=by rw [ha]; simp [blk]
 have hgP:gs∈P1:=by rw [uZ]; simp [hgl]
 have hsW: ∀ g,g∈P1∨g∈P2→W.heap[g]? =w.heap[g]? :=fun g hg=>hb.same g (h.lt g (hin g hg)).2 (hP g hg)
 have hrow:=aL h.ai fun g hg=>hsW g (.inl (by rw [uZ]; simp [hg]))
 obtain ⟨h1,h2,h3⟩:=rn (K:=bX) (y:= { x with Ma:=l,ak:=a,aq:=c }) (v:= .slice a l.length c) hrow hx ha (show 4 < 5 by decide) rfl;refine ⟨?_,h3⟩;have hnd:({ q with ai:=q.ai.set n { x with Ma:=l,ak:=a,aq:=c } } :af).Mc.Nodup:=by
  rw [e2];refine uX Dl fun g hg=> ?_
  rcases hf g (fZ.2 hg) with hm | hm
  ·exact ⟨fun hq=>hP g (.inl hq) hm,fun hq=>hP g (.inr hq) hm⟩
  ·exact ⟨fun hq=>by have:=(h.lt g (hin g (.inl hq))).2; omega,fun hq=>by have:=(h.lt g (hin g (.inr hq))).2; omega⟩
 have hs: ∀ g,g≠gs→(W.setCell ⟨gs,n * 5+4,none⟩ (.slice a l.length c)).heap[g]? =W.heap[g]? :=fun g hg=>aH hg
 have hsp:q.Mc=(blk q.aN ++ (q.L8.filterMap aR.bt ++ (blk q.bc ++ (blk q.ay ++ (blk q.ax ++ (blk q.am ++ q.ae.filterMap aC.bt)))))) ++ (blk q.aK ++ (q.ai.filterMap aU.bt)):=by simp [af.Mc,Lm]
 have nw: ∀ g,(g∈(blk q.aN ++ (q.L8.filterMap aR.bt ++ (blk q.bc ++ (blk q.ay ++ (blk q.ax ++ (blk q.am ++ q.ae.filterMap aC.bt))))))∨g∈(q.ai.filterMap aU.bt))→g≠gs:=fun g hg he=>by
  have h5:=h.nodup;rw [hsp] at h5;obtain ⟨-,k2,k3⟩:=Kf.1 h5;obtain ⟨-,-,k6⟩:=Kf.1 k2;rcases hg with hg | hg
  ·exact k3 g hg gs (Lz _ hgl) he
  ·exact k6 gs hgl g hg he.symm
 have hall: ∀ g,g∈P1∨g∈P2→g≠gs→(W.setCell ⟨gs,n * 5+4,none⟩ (.slice a l.length c)).heap[g]? =w.heap[g]? :=fun g hg hne=>(hs g hne).trans (hsW g hg)
 refine ⟨⟨aL h.L8 fun g hg=>hall g (.inl (by rw [uZ]; simp [hg])) (nw g (.inl (by simp [hg]))),aL h.aj fun g hg=>hall g (.inl (by rw [uZ]; simp [hg])) (nw g (.inl (by simp [hg]))),aL h.L9 fun g hg=>hall g (.inl (by rw [uZ]; simp [hg])) (nw g (.inl (by simp [hg]))),aL h.ag fun g hg=>hall g (.inl (by rw [uZ]; simp [hg])) (nw g (.inl (by simp [hg]))),aL h.ae fun g hg=>hall g (.inl (by rw [uZ]; simp [hg])) (nw g (.inl (by simp [hg]))),(by show (W.setCell _ _).ownsRow _ _ _ (.slice _ (List.set _ _ _).length _) (List.set _ _ _).length _; rw [LI]; exact h1),fun z hz=>(h.eI z hz).same fun g hg=>hall g (.inl (by rw [uZ]; simp only [Kg]; exact .inl (.inr (.inl (dP.2 ⟨z,hz,hg⟩))))) (nw g (.inl (by simp only [Kg]; exact .inr (.inl (dP.2 ⟨z,hz,hg⟩))))),?_,?_,hnd⟩,⟨hb.os,hb.tape,hb.output,by rw [ja]; exact hb.size,fun g hg hm=>(hs g fun e=>hm (e ▸ hin gs (.inl hgP))).trans (hb.same g hg fun hx=>hm (by rw [e1]; simp only [Kg]; exact .inr (.inl ((hkx g).1 hx))))⟩,fun g hg=> ?_⟩
 ·intro z hz
  exact (h.eE z hz).same fun g hg=>hall g (.inl (by rw [uZ]; simp only [Kg]; exact .inl (.inr (.inr (.inr (.inr (.inr (.inr (.inl (dP.2 ⟨z,hz,hg⟩)))))))))) (nw g (.inl (by simp only [Kg]; exact .inr (.inr (.inr (.inr (.inr (.inr (dP.2 ⟨z,hz,hg⟩)))))))))
 ·intro z hz
  rw [hset] at hz;rcases Kg.1 hz with hz | hz
  ·exact (h.eR z (RK hz)).same fun g hg=>hall g (.inl (by rw [uZ]; exact Ly _ (dP.2 ⟨z,hz,hg⟩))) (nw g (.inr (by exact dP.2 ⟨z,RK hz,hg⟩)))
  ·rcases Kt.1 hz with rfl | hz
   ·show (W.setCell _ _).ownsRow base _ 1 (.slice a l.length c) l.length (bT.flat l)
    exact aL ho fun g hg=>hs g fun e=>by
     rcases hf g hg with h7 | h7
     ·exact hP gs (.inl hgP) (e ▸ h7)
     ·have:=(h.lt gs (hin gs (.inl hgP))).2; omega
   ·exact (h.eR z (RL hz)).same fun g hg=>hall g (.inr (by rw [IQ]; exact dP.2 ⟨z,hz,hg⟩)) (nw g (.inr (by exact dP.2 ⟨z,RL hz,hg⟩)))
 ·rw [e2] at hg
  rcases Kg.1 hg with hg | hg
  ·exact .inl (hin g (.inl hg))
  ·rcases Kg.1 hg with hg | hg
   ·exact (hf g hg).imp_left fun h7=>by rw [e1]; simp only [Kg]; exact .inr (.inl ((hkx g).1 h7))
   ·exact .inl (hin g (.inr hg))
theorem IY {m ga gp g:Nat} {y:au} (h:ap W base q) (hy:q.ae[m]? =some y) (iE:q.am=some ⟨ga,0,none⟩) (l9:q.aN=some ⟨gp,0,none⟩) (hg:g∈blk y.ak):g∈q.Mc∧g≠ga∧g≠gp∧ga≠gp:=by
 have hk:g∈q.ae.filterMap aC.bt:=dP.2 ⟨y,KA hy,fZ.1 hg⟩;have h1:=h.nodup;have e:q.Mc=blk q.aN ++ ((q.L8.filterMap aR.bt ++ (blk q.bc ++ (blk q.ay ++ blk q.ax))) ++ (blk q.am ++ (q.ae.filterMap aC.bt ++ (blk q.aK ++ q.ai.filterMap aU.bt)))):=by simp [af.Mc,Lm]
 rw [e] at h1;obtain ⟨-,h2,h3⟩:=Kf.1 h1;obtain ⟨-,h4,-⟩:=Kf.1 h2;obtain ⟨-,-,h5⟩:=Kf.1 h4;have ma:ga∈blk q.am:=by rw [iE]; simp [blk]
 have mp:gp∈blk q.aN:=by rw [l9]; simp [blk]
 exact ⟨by rw [e]; simp only [Kg]; exact .inr (.inr (.inr (.inl hk))),fun e=>h5 ga ma g (Lz _ hk) e.symm,fun e=>h3 gp mp g (by simp only [Kg]; exact .inr (.inr (.inl hk))) e.symm,fun e=>h3 gp mp ga (by simp only [Kg]; exact .inr (.inl ma)) e.symm⟩
theorem oN {x:au} {l:List ByteArray} {a:Option Addr} {c:Nat} {N:Int} {ok:ci→Bool} {last:Int} (hr:aw (·.id) ok last q.pure.ae=true) (hx:q.ae[n]? =some x) (hN:x.id=N):({ q with ae:=q.ae.set n { x with Ma:=l,ak:=a,aq:=c } } :af).pure=cV N l q.pure:=by
 have hx':q.pure.ae[n]? =some x.toci:=by show (q.ae.map (·.toci))[n]? =_; rw [Kk,hx]; rfl
 unfold cV;rw [jF (num:=fun x:ci=>x.id) (db hr).2 hx' hN]
 show ({ q.pure with ae:=(q.ae.set n { x with Ma:=l,ak:=a,aq:=c }).map (·.toci) } :aE)=_
 rw [PN];rfl
theorem sq {x:aM} {l:List ByteArray} {a:Option Addr} {c:Nat} {N:Int} {ok:dS→Bool} {last:Int} (hr:aw (·.id) ok last q.pure.ai=true) (hx:q.ai[n]? =some x) (hN:x.id=N):({ q with ai:=q.ai.set n { x with Ma:=l,ak:=a,aq:=c } } :af).pure=gU N l q.pure:=by
 have hx':q.pure.ai[n]? =some x.todS:=by show (q.ai.map (·.todS))[n]? =_; rw [Kk,hx]; rfl
 unfold gU;rw [jF (num:=fun x:dS=>x.id) (db hr).2 hx' hN]
 show ({ q.pure with ai:=(q.ai.set n { x with Ma:=l,ak:=a,aq:=c }).map (·.todS) } :aE)=_
 rw [PN];rfl
end
end
end Go.Proofs.YtkbcplnlehdjfaaGreat
