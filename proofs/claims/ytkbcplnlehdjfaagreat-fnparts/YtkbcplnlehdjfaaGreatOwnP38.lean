/- What the proof leans on, part 38. -/
import Derived.Test.YtkbcplnlehdjfaaGreatOwnP37
set_option maxRecDepth 100000
set_option maxHeartbeats 8000000
open Go renaming wp_at_succ->Kd,wp_at_zero->Kc
open Go.IntKind renaming wrap_i64->K8
open Go.Proofs.Tryz renaming func234->P5,ntmps234->P6,prog->J3,results234->LZ
open Go.RowKit.Below renaming refl->Kp
open List renaming append_assoc->Lm,filterMap_append->LW,filterMap_cons->LH,filter_cons->LN,getElem?_eq_getElem->Kz,getElem?_eq_some_iff->Lj,getElem?_map->Kk,getElem?_set_self->LU,length_set->LI,map_cons->Lt,map_set->PN,mem_append->Kg,mem_append_left->Lz,mem_append_right->Ly,mem_cons->Kt,mem_iff_getElem->LK,mem_of_getElem?->KA,mem_of_mem_drop->RL,mem_of_mem_take->RK,nodup_append->Kf,not_mem_nil->Ku,set_eq_take_append_cons_drop->RJ,take_length->LQ
open Nat renaming add_zero->PT,le_refl->Ki,zero_add->Li
open Option renaming map_eq_some_iff->Kw

namespace Go.Proofs.YtkbcplnlehdjfaaGreat
section
open Go.RowKit
theorem rn {α:Type} {K:Kind α} {T:TypeId} {w:World} {base cap n gs j:Nat} {a:Option Addr} {l:List α} {x y:α} {v:Value} (h:w.ownsRow base T K.n (.slice a l.length cap) l.length (K.flat l)) (hx:l[n]? =some x) (ha:a=some ⟨gs,0,none⟩) (hj:j < K.n) (hv:K.vals y=(K.vals x).set j v):
  (w.setCell ⟨gs,n * K.n+j,none⟩ v).ownsRow base T K.n (.slice a l.length cap) l.length (K.flat (l.set n y))∧aI w (w.setCell ⟨gs,n * K.n+j,none⟩ v) (blk a)∧(∃ u,w.cell? ⟨gs,n * K.n+j,none⟩=some u)∧w.frozen? ⟨gs,n * K.n+j,none⟩=false:=by
 have hn:n < l.length:=(Lj.1 hx).1;obtain ⟨g,hg,hrow⟩:=bl.fX (K:=K) h (by omega);rw [ha] at hg;cases hg;have h7:=hrow.cell hx (r:=j) hj;have hsp:=kL hx;have hset:l.set n y=l.take n ++ y :: l.drop (n+1):=by rw [RJ,if_pos hn]
 have hl:(l.take n).length=n:=by rw [List.length_take]; omega
 rw [hsp] at hrow;have h5:=bl.part (K:=K) (x:=x) (y:=y) (j:=j) (vs:= [v]) hrow (by simp; omega) (fun r hr=>by simp at hr; subst hr; rw [PT,hv,LU (by rw [K.len]; exact hj)]; rfl) (fun r hr hn=>by rw [hv,List.getElem?_set_ne (by simp at hn; omega)]);rw [hl,← hset] at h5;have h6:=h5.owns;rw [LI] at h6;rw [ha];exact ⟨h6,aI.set (vs:= [v]) (by simp [blk]),⟨_,h7.1.trans (Kz (by rw [K.len]; exact hj))⟩,h7.2⟩
theorem lJ {α β:Type} {num:β→Int} {je:α→Int} {g:α→β} (hg: ∀ x,num (g x)=je x) {id:Int} : ∀ (l:List α),cg num id (l.map g)=(cg je id l).map g
 | [] =>rfl
 | x :: r=>by
  have h:=lJ hg (id:=id) r;unfold cg at h ⊢;simp only [Lt,List.find?_cons,hg]
  split
  ·rfl
  ·exact h
section
variable {W:World} {base n j gs:Nat} {q:af} {v:Value}
theorem gD {q:af} {g:Nat} (h:g∈blk q.aN∨g∈blk q.bc∨g∈blk q.ay∨g∈blk q.ax∨g∈blk q.am∨g∈blk q.aK):g∈q.Mc:=by
 simp only [af.Mc,Kg];rcases h with h | h | h | h | h | h <;> simp [h]
theorem uR {x y:bD} (h:ap W base q) (hx:q.aj[n]? =some x) (ha:q.bc=some ⟨gs,0,none⟩) (hj:j < 3) (hv:dm.vals y=(dm.vals x).set j v):
  yr W base q ({ q with aj:=q.aj.set n y } :af) (W.setCell ⟨gs,n * 3+j,none⟩ v)∧(∃ u,W.cell? ⟨gs,n * 3+j,none⟩=some u)∧W.frozen? ⟨gs,n * 3+j,none⟩=false:=by
 obtain ⟨h1,h2,h3⟩:=rn (K:=dm) h.aj hx ha hj hv;obtain ⟨h4,h5⟩:=h.DT h1 (by simp) h2;exact ⟨⟨h4,h2.mono fun g hg=>gD (.inr (.inl hg)),fun g hg=> .inl (h5 ▸ hg)⟩,h3⟩
theorem rv {x y:aB} (h:ap W base q) (hx:q.L9[n]? =some x) (ha:q.ay=some ⟨gs,0,none⟩) (hj:j < 2) (hv:bJ.vals y=(bJ.vals x).set j v):
  yr W base q ({ q with L9:=q.L9.set n y } :af) (W.setCell ⟨gs,n * 2+j,none⟩ v)∧(∃ u,W.cell? ⟨gs,n * 2+j,none⟩=some u)∧W.frozen? ⟨gs,n * 2+j,none⟩=false:=by
 obtain ⟨h1,h2,h3⟩:=rn (K:=bJ) h.L9 hx ha hj hv;obtain ⟨h4,h5⟩:=h.xA h1 (by simp) h2;exact ⟨⟨h4,h2.mono fun g hg=>gD (.inr (.inr (.inl hg))),fun g hg=> .inl (h5 ▸ hg)⟩,h3⟩
theorem ll {x y:az} (h:ap W base q) (hx:q.ag[n]? =some x) (ha:q.ax=some ⟨gs,0,none⟩) (hj:j < 3) (hv:bG.vals y=(bG.vals x).set j v):
  yr W base q ({ q with ag:=q.ag.set n y } :af) (W.setCell ⟨gs,n * 3+j,none⟩ v)∧(∃ u,W.cell? ⟨gs,n * 3+j,none⟩=some u)∧W.frozen? ⟨gs,n * 3+j,none⟩=false:=by
 obtain ⟨h1,h2,h3⟩:=rn (K:=bG) h.ag hx ha hj hv;obtain ⟨h4,h5⟩:=h.xM h1 (by simp) h2;exact ⟨⟨h4,h2.mono fun g hg=>gD (.inr (.inr (.inr (.inl hg)))),fun g hg=> .inl (h5 ▸ hg)⟩,h3⟩
theorem pp {st on i:Int} (h:dO (fun x:aD=>decide (x.Md=st) && decide (x.on=on)) q.pure.L8 q.L8.length i):(i < 0∧jl st on q.pure.L8=none)∨ ∃ (m:Nat) (y:ao),i=m∧q.L8[m]? =some y∧jl st on q.pure.L8=some y.toaD:=by
 have hl:q.L8.length=q.pure.L8.length:=by simp [af.pure]
 by_cases hi:i < 0
 ·refine .inl ⟨hi,?_⟩
  unfold dO at h;rw [hl,LQ] at h;unfold jl
  split at h
  ·assumption
  ·obtain ⟨k,hk,-⟩:=h
   omega
 ·obtain ⟨k,y,h1,h2,h3,h4⟩:=h.got hi
  rw [hl,LQ] at h4;have h5:(q.L8.map (·.toaD))[k]? =some y:=h3;rw [Kk,Kw] at h5;obtain ⟨z,hz,rfl⟩:=h5;exact .inr ⟨k,z,h1,hz,h4⟩
theorem eY {x y:ao} (h:ap W base q) (hx:q.L8[n]? =some x) (ha:q.aN=some ⟨gs,0,none⟩) (hy:y.prog=x.prog∧y.aY=x.aY∧y.bH=x.bH) (hj:j < 12) (hv:bg.vals y=(bg.vals x).set j v):
  yr W base q ({ q with L8:=q.L8.set n y } :af) (W.setCell ⟨gs,n * 12+j,none⟩ v)∧(∃ u,W.cell? ⟨gs,n * 12+j,none⟩=some u)∧W.frozen? ⟨gs,n * 12+j,none⟩=false:=by
 have h3:=h.kB (n:=n) (j:=j) (x:=x) (y:=y) (vs:= [v]) hx ha hy (by simp; omega) (fun r hr=>by simp at hr; subst hr; rw [PT,hv,LU (by rw [bg.len]; exact hj)]; rfl) (fun r hr hn=>by rw [hv,List.getElem?_set_ne (by simp at hn; omega)]);refine ⟨⟨h3.1,h3.2.1.mono fun g hg=> ?_,fun g hg=> .inl (h3.2.2 ▸ hg)⟩,?_⟩
 ·simp only [Kt,Ku,or_false] at hg
  rw [hg];exact tN ha
 ·obtain ⟨g,hg,hrow⟩:=bl.fX (K:=bg) h.L8 (by have:=(Lj.1 hx).1; omega)
  rw [ha] at hg;cases hg;have h7:=hrow.cell hx (r:=j) hj;exact ⟨⟨_,h7.1.trans (Kz (by rw [bg.len]; exact hj))⟩,h7.2⟩
def sy (x:ao):Array Value:= #[.int .i64 x.id,.int .i64 x.RX,.slice x.aY x.prog.length x.bH,.int .i64 0,.int .i64 0,.int .i64 0,.int .i64 0,.int .i64 0,.string ⟨#[]⟩,.string x.got,.int .i64 x.code,.int .i64 0]
theorem GC {x:ao} (h:ap W base q) (hx:q.L8[n]? =some x) (ha:q.aN=some ⟨gs,0,none⟩):W.there gs (n * 12) 12∧yr W base q ({ q with L8:=q.L8.set n (sW x) } :af) (W.setCells gs (n * 12) (sy x).toList):=by
 constructor
 ·obtain ⟨g,hg,hrow⟩:=bl.fX (K:=bg) h.L8 (by have:=(Lj.1 hx).1; omega)
  rw [ha] at hg;cases hg;exact fun j hj=>⟨by have h7:=(hrow.cell hx (r:=j) hj).1; rw [show bg.n=12 from rfl] at h7; rw [h7,Kz (by rw [bg.len]; exact hj)]; rfl,(hrow.cell hx (r:=j) hj).2⟩
 ·have hv:(sy x).toList=bg.vals (sW x):=rfl
  have h3:=h.kB (n:=n) (j:=0) (x:=x) (y:=sW x) (vs:=(sy x).toList) hx ha ⟨rfl,rfl,rfl⟩ (by show 0+12≤12; omega) (fun r _=>by rw [Li,hv]) (fun r hr hn=>absurd ⟨Nat.zero_le _,by show r < 0+12; omega⟩ hn);rw [PT,← iL] at h3;refine ⟨h3.1,h3.2.1.mono fun g hg=> ?_,fun g hg=> .inl (h3.2.2 ▸ hg)⟩;simp only [Kt,Ku,or_false] at hg;rw [hg];exact tN ha
theorem kg {x:ao} {t:ByteArray} (hr:aQ q.pure) (hx:q.L8[n]? =some x) (ht:bw t=true):
  ∃ q1:af,q1= { q with L8:=q.L8.set n { x with got:=t } } ∧q1.pure=ez t x.id q.pure∧q1.cells=q.cells∧aQ q1.pure∧q1.L8[n]? =some { x with got:=t } :=
 ⟨_,rfl,g7 (nx:=q.next) hr.kW hx rfl,jd (nx:=q.next),by rw [show ({ q with L8:=q.L8.set n { x with got:=t } } :af).pure=ez t x.id q.pure from g7 (nx:=q.next) hr.kW hx rfl]; exact iQ hr ht,by show (q.L8.set n _)[n]? =_; rw [LU (Lj.1 hx).1]⟩
theorem Bz {p:aE} {v:aD} {t:ByteArray} :gF (fun y=>y) (ez t v.id p) (lG t v)=gF (lG t) p v:=by
 unfold gF ez
 show ({ p with next:=gf p.next v,L8:=ce v.id (fun y=>iY p.next 0 y) (ce v.id (lG t) p.L8) } :aE)=_
 rw [pm (f:=lG t) (fun _=>rfl)]
theorem FO.sync {w:World} {q0 z q1:af} {o:dN} (h:FO w base q0 z q o W) (hc:q1.cells=z.cells):FO w base q0 q1 q o W:=⟨⟨by have h5:=h.fr.box; unfold av at h5 ⊢; exact h5.trans (congrArg (fun c=>some (Obj.cells c 32 (0,0))) hc.symm),h.fr.own,h.fr.kept,h.fr.far,h.fr.lo,h.fr.sz⟩,h.op,h.an⟩
theorem tQ {y:aD} (h:q.pure.L8[n]? =some y): ∃ x,q.L8[n]? =some x∧x.toaD=y:=by
 have h5:(q.L8.map (·.toaD))[n]? =some y:=h;rw [Kk,Kw] at h5;exact h5
theorem Gc {p:aE} {x y:aD} (h:aQ p) (hx:x∈p.L8) (hy:y∈p.L8) (e:y.id=x.id):y=x:=by
 have h5:=h.kW;rw [List.pairwise_iff_getElem] at h5;obtain ⟨i,hi1,rfl⟩:=LK.1 hy;obtain ⟨j,DS,rfl⟩:=LK.1 hx;rcases Nat.lt_trichotomy i j with hlt | heq | hgt
 ·have:=h5 i j hi1 DS hlt; omega
 ·subst heq; rfl
 ·have:=h5 j i DS hi1 hgt; omega
theorem ym {l:List aD} {k:Int} {f:aD→aD} {x:aD} (h:l[n]? =some x) (hne: ¬ x.id=k):(ce k f l)[n]? =some x:=by
 unfold ce;rw [Kk,h];simp [hne]
theorem qp {q2:af} {m:Nat} {x v:ao} {f:aD→aD} (hr:aQ q.pure) (hx:q.L8[n]? =some x) (hs:x.Md=1) (hv:q.L8[m]? =some v) (h1: ¬ v.Md=1) (h0: ¬ v.Md=0) (hf:f=(fun y=>y)∨ ∃ t,bw t=true∧f=lG t) (hn:q.next+1≤1000000000) (hp:q2.pure=gF f q.pure v.toaD):
  aQ q2.pure∧ ∃ x2,q2.L8[n]? =some x2∧x2.toaD=x.toaD:=by
 refine ⟨by rw [hp]; exact i9 hr (iu hv) h0 hf hn,tQ ?_⟩;rw [hp];refine ym (mj hx) fun e=>h1 ?_
 have:=Gc hr (iu hv) (iu hx) e
 have h2:x.toaD.Md=1:=hs;rw [this] at h2;exact h2
end
end
section
open Go.RowKit Go.Maps
attribute [local go_sem ↓] Kc Kd
theorem oR (q:af) (n base:Nat) (x:ao) (st now:Int) (o:dN) (w:World) (h:ap w base q) (hb:base≤w.heap.size) (hr:aQ q.pure) (hx:q.L8[n]? =some x) (h0: ¬ x.Md=0) (hn:q.next≤1000000000) (eu:0≤now∧now≤1000000000) (hw: -1≤o.2.2.1∧o.2.2.1≤1000):
  Calls J3 247 #[.agg q.cells,.int .i64 n,.int .i64 st,.agg (j9 o),.int .i64 now] w (jH w base q (mX st o now x.id q.pure)):=by
 have S:=aA (FO.start (o:=o) h hb);clear h hb
 go_enter Tryz.func247,Tryz.ntmps247
 go_upto_region 1 with fail;generalize ((w.alloc (.cells q.cells 32)).alloc (.cells (j9 o) 134)).alloc (.cells ar 32)=A at *;obtain ⟨-,o1,o2,o3⟩:=S.I.op.cells;by_cases hz:o.2.2.1=0
 ·have HE:Hid (mX st o now x.id q.pure=bu 1 x.id q.pure):=if_pos hz
  have e2:(o.2.2.1 == 0)=true:=by simp [hz]
  have Mb:=bB (n:=n) 1 S.I.fr.own S.I.low hr hx h0;clear hz hr hx h0 hn eu hw;go_wp2_with (refine eT 5 S.I.fr.box ?_);refine Mb.mono ?_;clear Mb;rintro e A2 ⟨q2,rfl,hp,ht⟩;replace S:=aA (S.I.call ht);have HP:Hid (q2.pure=_):=hp;clear hp ht;go_wp2_with (refine ec 10 16 q2.cells S.I.an ?_);refine gZ Tryz.results247 S.I.an ?_;exact ⟨q2,rfl,HP.I.trans HE.I.symm,S.I.done _⟩
 ·have HE:Hid (mX st o now x.id q.pure=kC st o.2.1 o.2.2.2 (kZ now o.2.2.1) x.id q.pure):=if_neg hz
  have e2:(o.2.2.1 == 0)=false:=by simp [hz]
  have Mb:=sT q n base x st o.2.1 o.2.2.1 now o.2.2.2 A S.I.fr.own S.I.low hr hx hn eu hw;clear hz hr hx h0 hn eu hw;go_wp2_with (refine eT 5 S.I.fr.box ?_);refine Mb.mono ?_;clear Mb;rintro e A2 ⟨q2,rfl,hp,ht⟩;replace S:=aA (S.I.call ht);have HP:Hid (q2.pure=_):=hp;clear hp ht;go_wp2_with (refine ec 10 27 q2.cells S.I.an ?_);refine gZ Tryz.results247 S.I.an ?_;exact ⟨q2,rfl,HP.I.trans HE.I.symm,S.I.done _⟩
end
section
open Go.RowKit
theorem DL {g:aD→Bool} {f:aD→aD} {x:aD} (hf:g (f x)=false) (hx:g x=true): ∀ {l:List aD},l.Pairwise (fun x y=>x.id < y.id)→x∈l→((ce x.id f l).filter g).length+1=(l.filter g).length
 | [],_,h=>by cases h
 | y :: r,hr,h=>by
  rw [List.pairwise_cons] at hr;by_cases e:y=x
  ·subst e
   have h2:ce y.id f (y :: r)=f y :: r:=by
    have h3:ce y.id f r=r:=qB fun z hz e=>by have:=hr.1 z hz; omega
    simp only [ce,Lt,if_true] at h3 ⊢;rw [h3]
   rw [h2];simp [hf,hx]
  ·have hm:x∈r:=by
    rcases Kt.1 h with h1 | h1
    ·exact absurd h1.symm e
    ·exact h1
   have h4:=DL hf hx hr.2 hm;have h5: ¬ y.id=x.id:=by have:=hr.1 x hm; omega
   have h6:ce x.id f (y :: r)=y :: ce x.id f r:=by simp [ce,h5]
   rw [h6];by_cases hy:g y=true
   ·simp only [LN,hy,if_true,List.length_cons]; omega
   ·simp only [LN,hy,Bool.false_eq_true,if_false]; exact h4
section
variable {p:aE} {f:aD→aD} {st on:Int} {v:aD}
theorem qO (h:jl st on p.L8=none):ff f st on p=p:=by
 unfold ff;rw [Dt h];rfl
theorem zC (hr:aQ p) (hst: ¬ st=0∧ ¬ st=1) (h:jl st on p.L8=some v):ff f st on p=ff f st on (gF f p v)∧((gF f p v).L8.filter (ie st on)).length+1=(p.L8.filter (ie st on)).length:=by
 obtain ⟨m1,m2,m3⟩:=ft h;have h1:((gF f p v).L8.filter (ie st on)).length+1=(p.L8.filter (ie st on)).length:=by
  refine DL (f:=fun y=>iY p.next 0 (f y)) ?_ ?_ hr.kW m1
  ·unfold ie iY
   split
   ·show (decide ((0:Int)=st) && _)=false
    rw [decide_eq_false (by omega)]; rfl
   ·show (decide ((1:Int)=st) && _)=false
    rw [decide_eq_false (by omega)]; rfl
  ·unfold ie; simp [m2,m3]
 refine ⟨?_,h1⟩;unfold ff;rw [← h1];simp only [gW,h]
end
structure If (f:aD→aD) (st on:Int) (tgt:aE) (n:Nat) (x:aD) (k:Nat) (q:af) (z:Int):Prop where
 r:aQ q.pure
 pos:q.pure.L8[n]? =some x
 nx:q.next+k≤1000000000
 cnt:(q.pure.L8.filter (ie st on)).length=k
 same:ff f st on q.pure=tgt
 best:dO (fun x:aD=>decide (x.Md=st) && decide (x.on=on)) q.pure.L8 q.L8.length z
section
variable {f:aD→aD} {st on z z2:Int} {tgt:aE} {n k i:Nat} {x:aD} {v:ao} {q q2:af}
theorem If.start (hr:aQ q.pure) (hp:q.pure.L8[n]? =some x) (hn:q.next≤999999990) (hb:dO (fun x:aD=>decide (x.Md=st) && decide (x.on=on)) q.pure.L8 q.L8.length z):If f st on (ff f st on q.pure) n x (q.pure.L8.filter (ie st on)).length q z:=by
 have h1:(q.pure.L8.filter (ie st on)).length≤q.pure.L8.length:=List.length_filter_le _ _;have h2:=hr.dl;exact ⟨hr,hp,by omega,rfl,rfl,hb⟩
theorem If.step (h:If f st on tgt n x k q z) (hx:x.Md=1) (hst: ¬ st=0∧ ¬ st=1) (hf:f=(fun y=>y)∨ ∃ t,bw t=true∧f=lG t) (hw:jl st on q.pure.L8=some v.toaD) (hp:q2.pure=gF f q.pure v.toaD):
  1≤k∧q.next+1≤1000000000∧aQ q2.pure∧ ∀ z2,dO (fun x:aD=>decide (x.Md=st) && decide (x.on=on)) q2.pure.L8 q2.L8.length z2→If f st on tgt n x (k - 1) q2 z2:=by
 obtain ⟨m1,m2,m3⟩:=ft hw;obtain ⟨h1,h2⟩:=zC (f:=f) h.r hst hw;have h3:=h.cnt;have h4:=h.nx;have h5:=mU q.next v.toaD;have h6:q2.next=gf q.next v.toaD:=congrArg aE.next hp;have hr2:aQ q2.pure:=by rw [hp]; exact i9 h.r m1 (by rw [m2]; exact hst.1) hf (by have:q.pure.next=q.next:=rfl; omega)
 refine ⟨by omega,by omega,hr2,fun z2 hb=>⟨hr2,?_,by omega,by rw [hp]; omega,by rw [hp,← h1]; exact h.same,hb⟩⟩;rw [hp];refine ym h.pos fun e=>hst.2 ?_
 have:=Gc h.r m1 (KA h.pos) e
 rw [this,m2] at hx;exact hx
end
end
section
open Go.RowKit Go.Maps
attribute [local go_sem ↓] Kc Kd
theorem dW {q:af} (h:aQ q.pure):q.L8.length≤6∧q.aj.length≤5∧q.L9.length≤5∧q.ag.length≤5∧q.ae.length≤5∧q.ai.length≤5:=by
 have h1:=h.dl;have h2:=h.cb;have h3:=h.dH;simp only [af.pure,List.length_map] at h1 h2 h3;exact ⟨h1,h.fx,h.cD,h.cC,h2,h3⟩
theorem DP {p:aE} {y:bD} (h:aQ p) (hy:y∈p.aj):y.max≤1000:=by
 have h1:=(cK h.aj y hy).2;unfold gw at h1;simp only [Bool.and_eq_true] at h1;exact (bz.1 h1.1).2
theorem CR (q:af) (n base:Nat) (x:ao) (now:Int) (o:dN) (w:World) (h:ap w base q) (hb:base≤w.heap.size) (hr:aQ q.pure) (hx:q.L8[n]? =some x) (hs:x.Md=1) (hn:q.next≤999999990) (eu:0≤now∧now≤1000000000) (ho:kc o=true) (hk:o.1=3):
  Calls J3 234 #[.agg q.cells,.int .i64 n,.agg (j9 o),.int .i64 now] w (jH w base q (mh o now x.id q.pure)):=by
 obtain ⟨-,f1,f2,f3,f4⟩:=dv ho;have hM:=bz.1 f2;obtain ⟨k,N,M,s⟩:=o;simp only at hk hM f1 f3 f4;subst hk;have HR:=aA (SD hr hx hs hn eu hM);have HF:=aA (dW hr);clear f2 hr hx hs hn eu hM ho;have S:=aA (FO.start (o:=(3,N,M,s)) h hb);clear h hb
 go_enter P5,P6
 go_upto_region 1 with fail;generalize ((w.alloc (.cells q.cells 32)).alloc (.cells (j9 (3,N,M,s)) 134)).alloc (.cells ar 32)=A at *;obtain ⟨-,o1,-,-⟩:=S.I.op.cells;simp only at o1;have hpf:=ef (num:=fun x:bD=>x.id) N q.aj 0;have Mb:=lw q N A (by have:=HF.I; omega) S.I.fr.own.at;generalize place (q.aj.map (fun x=>x.id)) N 0=z at *;go_wp2_with (refine eT 4 S.I.fr.box ?_);refine Mb.mono ?_;clear Mb;rintro e A2 ⟨rfl,hb2⟩;replace S:=aA (S.I.reads hb2);clear hb2;clear o1;obtain ⟨o0,-,-,-⟩:=S.I.op.cells;simp only at o0;rcases hpf with ⟨hz,hf⟩ | ⟨m,y,hz,hm,hid,hf⟩
 ·subst hz
  have HE:Hid (mh (3,N,M,s) now x.id q.pure=bu 3 x.id q.pure):=by show mh (3,N,M,s) now x.id q.pure=_; unfold mh; rw [show cg (fun x:bD=>x.id) N q.pure.aj=none from hf]
  clear hf;have Mb:=bB (n:=n) 3 S.I.fr.own S.I.low HR.I.1 HR.I.2.1 (by rw [HR.I.2.2.1]; decide);go_wp2_with (refine eT 4 S.I.fr.box ?_);refine Mb.mono ?_;clear Mb;rintro e A2 ⟨q2,rfl,hp,ht⟩;replace S:=aA (S.I.call ht);have HP:Hid (q2.pure=_):=hp;clear hp ht;go_wp2_with (refine ec 8 32 q2.cells S.I.an ?_);refine gZ LZ S.I.an ?_;exact ⟨q2,rfl,HP.I.trans HE.I.symm,S.I.done _⟩
 rw [Li] at hz;subst hz;have dz:decide ((m:Int) < 0)=false:=decide_eq_false (by omega);have HM:Hid (q.aj[m]? =some y∧y.id=N∧cg (fun x:bD=>x.id) N q.aj=some y):=⟨hm,hid,hf⟩
 have hml:=(Lj.1 hm).1;have j0:(0:Int)≤(m:Int):=by omega
 have j1:(m:Int) < (q.aj.length:Int):=by omega
 obtain ⟨ga,iE,hat⟩:=lQ S.I.fr.own.at.2.1 hm;have m3:=S.I.fr.box.cells.2.2.2.1;rw [iE] at m3;have d1:=hat.2.1;have HG:Hid (q.bc=some ⟨ga,0,none⟩):=iE;clear hm hid hf hml hat iE;by_cases hn0:y.n=0
 ·have HE:Hid (mh (3,N,M,s) now x.id q.pure=mX 3 (3,N,M,s) now x.id q.pure):=by show mh (3,N,M,s) now x.id q.pure=_; unfold mh; rw [show cg (fun x:bD=>x.id) N q.pure.aj=some y from HM.I.2.2]; exact if_pos hn0
  have e1:(y.n == 0)=true:=by simp [hn0]
  have Mb:=oR q n base x 3 now (3,N,M,s) A2 S.I.fr.own S.I.low HR.I.1 HR.I.2.1 (by rw [HR.I.2.2.1]; decide) (by have:=HR.I.2.2.2.1; omega) HR.I.2.2.2.2.1 HR.I.2.2.2.2.2;clear hn0;go_wp2_with (first | (refine eT 4 S.I.fr.box ?_) | (refine wpList_load_row rfl 134 (.tmp 6) rfl (w.heap.size+1) (by rfl) 134 (j9 (3,N,M,s)) (0,0) _ S.I.op Tryz.underlying134 rfl (by kernel_rfl) ?_));refine Mb.mono ?_;clear Mb;rintro e A2 ⟨q2,rfl,hp,ht⟩;replace S:=aA (S.I.call ht);have HP:Hid (q2.pure=_):=hp;clear hp ht;go_wp2_with (refine ec 8 48 q2.cells S.I.an ?_);refine gZ LZ S.I.an ?_;exact ⟨q2,rfl,HP.I.trans HE.I.symm,S.I.done _⟩
 have HE:Hid (mh (3,N,M,s) now x.id q.pure=bu 0 x.id (nZ N (-1) q.pure)):=by show mh (3,N,M,s) now x.id q.pure=_; unfold mh; rw [show cg (fun x:bD=>x.id) N q.pure.aj=some y from HM.I.2.2]; exact if_neg hn0
 have e1:(y.n == 0)=false:=by simp [hn0]
 have HN:Hid (¬ y.n=0):=hn0;clear hn0;go_upto_region 10 with fail;replace S:=aA (S.I.reads (Kp _ _).drew);refine eD (fun w1=>w1=A2.drew) 12 (by kernel_rfl) rfl ?_;generalize A2.drew=B at *;clear m3 d1;have m3:=S.I.fr.box.cells.2.2.2.1;rw [HG.I] at m3;obtain ⟨ga2,iE,hat⟩:=lQ S.I.fr.own.at.2.1 HM.I.1;rw [HG.I] at iE;cases iE;have d1:=hat.2.1;clear hat;obtain ⟨s1,⟨u,c⟩,f⟩:=uR (n:=m) (j:=1) (v:= .int .i64 (y.n - 1)) (y:= { y with n:=y.n - 1 }) S.I.fr.own HM.I.1 HG.I (by decide) rfl;have hk:=pw (o:=(3,N,M,s)) HR.I.1 HM.I.2.2;have n0:=hk.2.1;have n1:=hk.2.2;have n2:y.max≤1000:=DP HR.I.1 (KA HM.I.1);clear hk;have hw:IntKind.wrap .i64 (y.n - 1)=y.n - 1:=by rw [K8]; have:=HN.I; omega
 replace S:=aA (S.I.call s1);clear s1
 iterate 12 (refine ly 13 (v:= ?_) (some _) rfl rfl (by kernel_rfl) (fun _ _ _ h=>h) (bV (by kernel_rfl) ?_) ?_; rotate_left; (intro w0 hS0; subst hS0; go_simp; try with_reducible rfl); simp only [pt,sb,s0,s1])
 refine fL rfl (by kernel_rfl) (by kernel_rfl) (by kernel_rfl) ?_;intro w1 cm;rw [cm];clear cm w1
 go_simp
 generalize B.setCell ⟨ga,m * 3+1,none⟩ (.int .i64 (y.n - 1))=C at *;clear m3 d1 c f u;have hq:({ q with aj:=q.aj.set m { y with n:=y.n - 1 } } :af).pure=nZ N (-1) q.pure:=by show ({ q.pure with aj:=q.aj.set m { y with n:=y.n - 1 } } :aE)=_; unfold nZ; rw [jF (num:=fun x:bD=>x.id) (db HR.I.1.aj).2 HM.I.1 HM.I.2.1]; rfl
 have hr2:aQ (nZ N (-1) q.pure):=mx HR.I.1 fun z hz hk=>by rw [only HR.I.1.aj HM.I.2.2 hz hk]; have:=HN.I; omega
 rw [← hq] at hr2;have Mb:=bB (n:=n) 0 S.I.fr.own S.I.low hr2 HR.I.2.1 (by rw [HR.I.2.2.1]; decide);rw [hq,show af.cells ({ q with aj:=q.aj.set m { y with n:=y.n - 1 } } :af)=q.cells by unfold af.cells; simp] at Mb;clear hq hr2 n0 n1 n2 hw;go_wp2_with (refine eT 4 S.I.fr.box ?_);refine Mb.mono ?_;clear Mb;rintro e A2 ⟨q2,rfl,hp,ht⟩;replace S:=aA (S.I.call ht);have HP:Hid (q2.pure=_):=hp;clear hp ht;go_wp2_with (refine ec 8 145 q2.cells S.I.an ?_);refine gZ LZ S.I.an ?_;exact ⟨q2,rfl,HP.I.trans HE.I.symm,S.I.done _⟩
theorem zE (q:af) (n base:Nat) (x:ao) (now:Int) (o:dN) (w:World) (h:ap w base q) (hb:base≤w.heap.size) (hr:aQ q.pure) (hx:q.L8[n]? =some x) (hs:x.Md=1) (hn:q.next≤999999990) (eu:0≤now∧now≤1000000000) (ho:kc o=true) (hk:o.1=4):
  Calls J3 234 #[.agg q.cells,.int .i64 n,.agg (j9 o),.int .i64 now] w (jH w base q (gJ o x.id q.pure)):=by
 obtain ⟨-,f1,f2,f3,f4⟩:=dv ho;have hM:=bz.1 f2;obtain ⟨k,N,M,s⟩:=o;simp only at hk hM f1 f3 f4;subst hk;have HR:=aA (SD hr hx hs hn eu hM);have HF:=aA (dW hr);clear f2 hr hx hs hn eu hM ho;have S:=aA (FO.start (o:=(4,N,M,s)) h hb);clear h hb
 go_enter P5,P6
 go_upto_region 1 with fail;generalize ((w.alloc (.cells q.cells 32)).alloc (.cells (j9 (4,N,M,s)) 134)).alloc (.cells ar 32)=A at *;obtain ⟨-,o1,-,-⟩:=S.I.op.cells;simp only at o1;have hpf:=ef (num:=fun x:bD=>x.id) N q.aj 0;have Mb:=lw q N A (by have:=HF.I; omega) S.I.fr.own.at;generalize place (q.aj.map (fun x=>x.id)) N 0=z at *;go_wp2_with (refine eT 4 S.I.fr.box ?_);refine Mb.mono ?_;clear Mb;rintro e A2 ⟨rfl,hb2⟩;replace S:=aA (S.I.reads hb2);clear hb2;clear o1;obtain ⟨o0,o1,-,-⟩:=S.I.op.cells;simp only at o0 o1;rcases hpf with ⟨hz,hf⟩ | ⟨m,y,hz,hm,hid,hf⟩
 ·subst hz
  have HE:Hid (gJ (4,N,M,s) x.id q.pure=bu 3 x.id q.pure):=by show gJ (4,N,M,s) x.id q.pure=_; unfold gJ; rw [show cg (fun x:bD=>x.id) N q.pure.aj=none from hf]
  clear hf;have Mb:=bB (n:=n) 3 S.I.fr.own S.I.low HR.I.1 HR.I.2.1 (by rw [HR.I.2.2.1]; decide);go_wp2_with (refine eT 4 S.I.fr.box ?_);refine Mb.mono ?_;clear Mb;rintro e A2 ⟨q2,rfl,hp,ht⟩;replace S:=aA (S.I.call ht);have HP:Hid (q2.pure=_):=hp;clear hp ht;go_wp2_with (refine ec 8 32 q2.cells S.I.an ?_);refine gZ LZ S.I.an ?_;exact ⟨q2,rfl,HP.I.trans HE.I.symm,S.I.done _⟩
 rw [Li] at hz;subst hz;have dz:decide ((m:Int) < 0)=false:=decide_eq_false (by omega);have HM:Hid (q.aj[m]? =some y∧y.id=N∧cg (fun x:bD=>x.id) N q.aj=some y):=⟨hm,hid,hf⟩
 have hml:=(Lj.1 hm).1;have j0:(0:Int)≤(m:Int):=by omega
 have j1:(m:Int) < (q.aj.length:Int):=by omega
 clear hm hid hf hml;have Mb:=ij q 3 N A2 (by have:=HF.I; omega) S.I.fr.own.at;go_wp2_with (refine eT 4 S.I.fr.box ?_);refine Mb.mono ?_;clear Mb o0 o1 dz;rintro e A3 ⟨⟨z,rfl,gV⟩,hb2⟩;replace S:=aA (S.I.reads hb2);clear hb2;rcases pp gV with ⟨hz,hw⟩ | ⟨i,v,hz,hi,hw⟩
 ·have HW:Hid (jl 3 N q.pure.L8=none):=hw
  have dz:decide (z≥0)=false:=decide_eq_false (by omega);clear gV hz hw;obtain ⟨ga,iE,hat⟩:=lQ S.I.fr.own.at.2.1 HM.I.1;have m3:=S.I.fr.box.cells.2.2.2.1;rw [iE] at m3;have d1:=hat.2.1;have d2:=hat.2.2;have HG:Hid (q.bc=some ⟨ga,0,none⟩):=iE;clear hat iE;go_upto_region 15 with fail;clear dz;replace S:=aA (S.I.reads (Kp _ _).drew);refine aT (fun w1=>w1=A3.drew) (by kernel_rfl) rfl ?_;generalize A3.drew=B at *;clear m3 d1 d2;have m3:=S.I.fr.box.cells.2.2.2.1;rw [HG.I] at m3;obtain ⟨ga2,iE,hat⟩:=lQ S.I.fr.own.at.2.1 HM.I.1;rw [HG.I] at iE;cases iE;have d1:=hat.2.1;have d2:=hat.2.2;clear hat
  iterate 13 (refine PI ?_ (hy:=fun w0 hS0=>by subst hS0; go_simp; try with_reducible rfl))
  refine bk (by kernel_rfl) ?_ _;intro w1 cm;rw [cm];clear cm w1;have HU:Hid (gJ (4,N,M,s) x.id q.pure=if y.n=y.max then bu 1 x.id q.pure else bu 0 x.id (nZ N 1 q.pure)):=by show gJ (4,N,M,s) x.id q.pure=_; unfold gJ; rw [show cg (fun x:bD=>x.id) N q.pure.aj=some y from HM.I.2.2]; dsimp only; rw [HW.I]
  by_cases hx0:y.n=y.max
  ·have HE:Hid (gJ (4,N,M,s) x.id q.pure=bu 1 x.id q.pure):=HU.I.trans (if_pos hx0)
   have e1:(y.n == y.max)=true:=by simp [hx0]
   have Mb:=bB (n:=n) 1 S.I.fr.own S.I.low HR.I.1 HR.I.2.1 (by rw [HR.I.2.2.1]; decide);clear hx0 m3 d1 d2;go_wp2_with (refine eT 4 S.I.fr.box ?_);refine Mb.mono ?_;clear Mb;rintro e A2 ⟨q2,rfl,hp,ht⟩;replace S:=aA (S.I.call ht);have HP:Hid (q2.pure=_):=hp;clear hp ht;go_wp2_with (refine ec 8 89 q2.cells S.I.an ?_);refine gZ LZ S.I.an ?_;exact ⟨q2,rfl,HP.I.trans HE.I.symm,S.I.done _⟩
  have HE:Hid (gJ (4,N,M,s) x.id q.pure=bu 0 x.id (nZ N 1 q.pure)):=HU.I.trans (if_neg hx0);have e1:(y.n == y.max)=false:=by simp [hx0]
  have HN:Hid (¬ y.n=y.max):=hx0;clear hx0 d2;go_upto_region 17 with fail;clear e1;replace S:=aA (S.I.reads (Kp _ _).drew);refine eD (fun w1=>w1=B.drew) 12 (by kernel_rfl) rfl ?_;generalize B.drew=B2 at *;clear m3 d1;have m3:=S.I.fr.box.cells.2.2.2.1;rw [HG.I] at m3;obtain ⟨ga2,iE,hat⟩:=lQ S.I.fr.own.at.2.1 HM.I.1;rw [HG.I] at iE;cases iE;have d1:=hat.2.1;clear hat;obtain ⟨s1,⟨u,c⟩,f⟩:=uR (n:=m) (j:=1) (v:= .int .i64 (y.n+1)) (y:= { y with n:=y.n+1 }) S.I.fr.own HM.I.1 HG.I (by decide) rfl;have hk:=pw (o:=(4,N,M,s)) HR.I.1 HM.I.2.2;have n0:=hk.2.1;have n1:=hk.2.2;have n2:y.max≤1000:=DP HR.I.1 (KA HM.I.1);clear hk;have hw:IntKind.wrap .i64 (y.n+1)=y.n+1:=by rw [K8]; have:=HN.I; omega
  replace S:=aA (S.I.call s1);clear s1
  iterate 12 (refine ly 13 (v:= ?_) (some _) rfl rfl (by kernel_rfl) (fun _ _ _ h=>h) (bV (by kernel_rfl) ?_) ?_; rotate_left; (intro w0 hS0; subst hS0; go_simp; try with_reducible rfl); simp only [pt,sb,s0,s1])
  refine fL rfl (by kernel_rfl) (by kernel_rfl) (by kernel_rfl) ?_;intro w1 cm;rw [cm];clear cm w1
  go_simp
  generalize B2.setCell ⟨ga,m * 3+1,none⟩ (.int .i64 (y.n+1))=C at *;clear m3 d1 c f u;have hq:({ q with aj:=q.aj.set m { y with n:=y.n+1 } } :af).pure=nZ N (1) q.pure:=by show ({ q.pure with aj:=q.aj.set m { y with n:=y.n+1 } } :aE)=_; unfold nZ; rw [jF (num:=fun x:bD=>x.id) (db HR.I.1.aj).2 HM.I.1 HM.I.2.1]; rfl
  have hr2:aQ (nZ N (1) q.pure):=mx HR.I.1 fun z hz hk=>by rw [only HR.I.1.aj HM.I.2.2 hz hk]; have:=HN.I; omega
  rw [← hq] at hr2;have Mb:=bB (n:=n) 0 S.I.fr.own S.I.low hr2 HR.I.2.1 (by rw [HR.I.2.2.1]; decide);rw [hq,show af.cells ({ q with aj:=q.aj.set m { y with n:=y.n+1 } } :af)=q.cells by unfold af.cells; simp] at Mb;clear hq hr2 n0 n1 n2 hw;go_wp2_with (refine eT 4 S.I.fr.box ?_);refine Mb.mono ?_;clear Mb;rintro e A2 ⟨q2,rfl,hp,ht⟩;replace S:=aA (S.I.call ht);have HP:Hid (q2.pure=_):=hp;clear hp ht;go_wp2_with (refine ec 8 145 q2.cells S.I.an ?_);refine gZ LZ S.I.an ?_;exact ⟨q2,rfl,HP.I.trans HE.I.symm,S.I.done _⟩
 have HW:Hid (jl 3 N q.pure.L8=some v.toaD∧q.L8[i]? =some v∧v.Md=3):=⟨hw,hi,(ft hw).2.1⟩
 subst hz;have dz:decide ((i:Int)≥0)=true:=decide_eq_true (by omega);have hnx:=HR.I.2.2.2.1;clear gV hw hi;have HE:Hid (gJ (4,N,M,s) x.id q.pure=bu 0 x.id (gF (fun y=>y) q.pure v.toaD)):=by show gJ (4,N,M,s) x.id q.pure=_; unfold gJ; rw [show cg (fun x:bD=>x.id) N q.pure.aj=some y from HM.I.2.2]; dsimp only; rw [HW.I.1]
 have Mb:=lP (n:=i) S.I.fr.own S.I.low HR.I.1 HW.I.2.1 (by rw [HW.I.2.2]; decide) (by omega);go_wp2_with (refine eT 4 S.I.fr.box ?_);refine Mb.mono ?_;clear Mb;rintro e A4 ⟨q2,rfl,hp,ht⟩;replace S:=aA (S.I.call ht);obtain ⟨hr2,x2,hx2,sw⟩:=qp HR.I.1 HR.I.2.1 HR.I.2.2.1 HW.I.2.1 (by rw [HW.I.2.2]; decide) (by rw [HW.I.2.2]; decide) (.inl rfl) (by omega) hp;have Mb:=bB (n:=n) 0 S.I.fr.own S.I.low hr2 hx2 (by rw [show x2.Md=x.Md from congrArg aD.Md sw,HR.I.2.2.1]; decide);rw [show x2.id=x.id from congrArg aD.id sw,hp,← HE.I] at Mb;clear hp ht hr2 hx2 sw dz hnx;go_wp2_with fail;refine Mb.mono ?_;clear Mb;rintro e A42 ⟨q3,rfl,hp,ht⟩;replace S:=aA (S.I.call ht);have HP:Hid (q3.pure=_):=hp;clear hp ht;go_wp2_with (refine ec 8 73 q3.cells S.I.an ?_);refine gZ LZ S.I.an ?_;exact ⟨q3,rfl,HP.I,S.I.done _⟩
end
section
open Go.RowKit Go.Maps
theorem uX {P1 P2:List Nat} {a b:Option Nat} (h:(P1 ++ (a.toList ++ P2)).Nodup) (hb: ∀ g,b=some g→g∉P1∧g∉P2):(P1 ++ (b.toList ++ P2)).Nodup:=by
 obtain ⟨h1,h2,h3⟩:=Kf.1 h;obtain ⟨-,h5,-⟩:=Kf.1 h2;refine Kf.2 ⟨h1,Kf.2 ⟨by cases b <;> simp,h5,fun x hx y hy e=> ?_⟩,fun x hx y hy e=> ?_⟩
 ·cases b with
  | none=>simp at hx
  | some g=>simp at hx; subst hx; exact (hb x rfl).2 (e ▸ hy)
 ·rcases Kg.1 hy with hy | hy
  ·cases b with
   | none=>simp at hy
   | some g=>simp at hy; subst hy; exact (hb y rfl).1 (e ▸ hx)
  ·exact h3 x hx y (Ly _ hy) e
theorem ou (w:World) (base:Nat) (a0:Option Addr) (c0:Nat) (l0:List ByteArray) (ho:w.ownsRow base 9 1 (.slice a0 l0.length c0) l0.length (bT.flat l0)) (a:Option Addr) (l:List ByteArray) (cap:Nat) (h:ld w a (bT.flat l)) (hl:l0.length+l.length≤4000000) (lY:base≤w.heap.size):
  ∃ a' cap' w',(Builtin.append_ #[59,59] 59 #[.slice a0 l0.length c0,.slice a l.length cap]).run J3 w= .ok (.slice a' (l0.length+l.length) cap') w'∧w'.ownsRow base 9 1 (.slice a' (l0.length+l.length) cap') (l0.length+l.length) (bT.flat (l0 ++ l))∧w.grownBy w' (Value.slice a0 l0.length c0).ownBlock∧ ∀ g∈blk a',g∈blk a0∨g=w.heap.size:=by
 obtain ⟨i,hi,e⟩:=Kw.1 zD;simp only [Prod.mk.injEq] at e;rw [bT.dc];exact jD w base _ _ 9 i _ 1 16 Tryz.underlying59 hi e.1 e.2.1 e.2.2 rfl (by decide) a0 l0.length c0 _ ho a l.length cap _ h (bT.dM l) yK hl (by decide) lY
theorem IN (w:World) (s:ByteArray):(w.alloc (.cells #[.string s] 9)).ownsRow w.heap.size 9 1 (.slice (some ⟨w.heap.size,0,none⟩) [s].length 1) [s].length (bT.flat [s]):=
 ⟨rfl,.inr ⟨w.heap.size,1,#[.string s],rfl,Ki _,heap_alloc_new _ _,Ki _,by decide,rfl,rfl⟩⟩
theorem vg {w:World} {a:Option Addr} {l:List ByteArray} {c:Nat} (hk:l.length≤c) (h:Row w a (bT.flat l)):ld w (if c=1 then a else Option.map (fun x:Addr=>⟨x.block,x.off+1,none⟩) a) (bT.flat (l.drop 1)):=by
 have h1:=qK (K:=bT) (k:=1) hk h;have e:(fun x:Addr=>x.add (1 * bT.n))=(fun x:Addr=>⟨x.block,x.off+1,none⟩):=by funext x; rfl
 rw [e] at h1;exact h1
theorem aI.grown {w w5 w7:World} {a:Option Addr} {n c:Nat} (hb:Below w.heap.size w w5) (hg:w5.grownBy w7 (Value.slice a n c).ownBlock):aI w w7 (blk a):=
 ⟨hg.os.trans hb.os,hg.tape.trans hb.tape,hg.output.trans hb.output,Nat.le_trans hb.size hg.size,fun g h1 h2=>(hg.block g (Nat.lt_of_lt_of_le h1 hb.size) fun e=>h2 (di e.symm)).trans (hb.block g h1)⟩
section
variable {w W:World} {base n gs:Nat} {q:af}
theorem mB {x:au} {l:List ByteArray} {a:Option Addr} {c:Nat} (h:ap w base q) (hb:aI w W (blk x.ak)) (hx:q.ae[n]? =some x) (ha:q.am=some ⟨gs,0,none⟩) (ho:W.ownsRow base 9 1 (.slice a l.length c) l.length (bT.flat l)) (hf: ∀ g∈blk a,g∈blk x.ak∨w.heap.size≤g):
  yr w base q ({ q with ae:=q.ae.set n { x with Ma:=l,ak:=a,aq:=c } } :af) (W.setCell ⟨gs,n * 3+2,none⟩ (.slice a l.length c))∧(∃ u,W.cell? ⟨gs,n * 3+2,none⟩=some u)∧W.frozen? ⟨gs,n * 3+2,none⟩=false:=by
 have hn:n < q.ae.length:=(Lj.1 hx).1;have hset:q.ae.set n { x with Ma:=l,ak:=a,aq:=c } =q.ae.take n ++ { x with Ma:=l,ak:=a,aq:=c } :: q.ae.drop (n+1):=by rw [RJ,if_pos hn]
 have hk: ∀ (z:au) (A B:List au),(A ++ z :: B).filterMap aC.bt=A.filterMap aC.bt ++ ((aC.bt z).toList ++ B.filterMap aC.bt):=fun z A B=>by
  rw [LW,LH];cases aC.bt z <;> simp
 have h6:q.ae.filterMap aC.bt=(q.ae.take n).filterMap aC.bt ++ ((aC.bt x).toList ++ (q.ae.drop (n+1)).filterMap aC.bt):=(congrArg (List.filterMap aC.bt) (kL hx)).trans (hk _ _ _);obtain ⟨P1,uZ⟩: ∃ P1,P1=blk q.aN ++ (q.L8.filterMap aR.bt ++ (blk q.bc ++ (blk q.ay ++ (blk q.ax ++ blk q.am)))) ++ (q.ae.take n).filterMap aC.bt:=⟨_,rfl⟩
 obtain ⟨P2,IQ⟩: ∃ P2,P2=(q.ae.drop (n+1)).filterMap aC.bt ++ (blk q.aK ++ q.ai.filterMap aU.bt):=⟨_,rfl⟩
 have e1:q.Mc=P1 ++ ((aC.bt x).toList ++ P2):=by rw [uZ,IQ]; simp only [af.Mc,h6,Lm]
 have e2:({ q with ae:=q.ae.set n { x with Ma:=l,ak:=a,aq:=c } } :af).Mc=P1 ++ ((a.map (·.block)).toList ++ P2):=by
  rw [uZ,IQ];simp only [af.Mc,hset,hk,Lm];rfl
 have hkx: ∀ g,g∈blk x.ak↔g∈(aC.bt x).toList:=fun g=>Iff.rfl
 have Dl:=h.nodup;rw [e1] at Dl;have hP: ∀ g,g∈P1∨g∈P2→g∉blk x.ak:=fun g hg hm=>by
  obtain ⟨-,k2,k3⟩:=Kf.1 Dl;obtain ⟨-,-,k6⟩:=Kf.1 k2;rcases hg with hg | hg
  ·exact k3 g hg g (Lz _ ((hkx g).1 hm)) rfl
  ·exact k6 g ((hkx g).1 hm) g hg rfl
 have hin: ∀ g,g∈P1∨g∈P2→g∈q.Mc:=fun g hg=>by
  rw [e1];rcases hg with hg | hg
  ·exact Lz _ hg
  ·exact Ly _ (Ly _ hg)
 have hgl:gs∈blk q.am:=by rw [ha]; simp [blk]
 have hgP:gs∈P1:=by rw [uZ]; simp [hgl]
 have hsW: ∀ g,g∈P1∨g∈P2→W.heap[g]? =w.heap[g]? :=fun g hg=>hb.same g (h.lt g (hin g hg)).2 (hP g hg)
 have hrow:=aL h.ae fun g hg=>hsW g (.inl (by rw [uZ]; simp [hg]))
 obtain ⟨h1,h2,h3⟩:=rn (K:=bm) (y:= { x with Ma:=l,ak:=a,aq:=c }) (v:= .slice a l.length c) hrow hx ha (show 2 < 3 by decide) rfl;refine ⟨?_,h3⟩;have hnd:({ q with ae:=q.ae.set n { x with Ma:=l,ak:=a,aq:=c } } :af).Mc.Nodup:=by
  rw [e2];refine uX Dl fun g hg=> ?_
  rcases hf g (fZ.2 hg) with hm | hm
  ·exact ⟨fun hq=>hP g (.inl hq) hm,fun hq=>hP g (.inr hq) hm⟩
  ·exact ⟨fun hq=>by have:=(h.lt g (hin g (.inl hq))).2; omega,fun hq=>by have:=(h.lt g (hin g (.inr hq))).2; omega⟩
 have hs: ∀ g,g≠gs→(W.setCell ⟨gs,n * 3+2,none⟩ (.slice a l.length c)).heap[g]? =W.heap[g]? :=fun g hg=>aH hg
 have hsp:q.Mc=(blk q.aN ++ (q.L8.filterMap aR.bt ++ (blk q.bc ++ (blk q.ay ++ blk q.ax)))) ++ (blk q.am ++ (q.ae.filterMap aC.bt ++ (blk q.aK ++ q.ai.filterMap aU.bt))):=by simp [af.Mc,Lm]
 have nw: ∀ g,(g∈(blk q.aN ++ (q.L8.filterMap aR.bt ++ (blk q.bc ++ (blk q.ay ++ blk q.ax))))∨g∈(q.ae.filterMap aC.bt ++ (blk q.aK ++ q.ai.filterMap aU.bt)))→g≠gs:=fun g hg he=>by
  have h5:=h.nodup;rw [hsp] at h5;obtain ⟨-,k2,k3⟩:=Kf.1 h5;obtain ⟨-,-,k6⟩:=Kf.1 k2;rcases hg with hg | hg
  ·exact k3 g hg gs (Lz _ hgl) he
  ·exact k6 gs hgl g hg he.symm
 have hall: ∀ g,g∈P1∨g∈P2→g≠gs→(W.setCell ⟨gs,n * 3+2,none⟩ (.slice a l.length c)).heap[g]? =w.heap[g]? :=fun g hg hne=>(hs g hne).trans (hsW g hg)
 refine ⟨⟨aL h.L8 fun g hg=>hall g (.inl (by rw [uZ]; simp [hg])) (nw g (.inl (by simp [hg]))),aL h.aj fun g hg=>hall g (.inl (by rw [uZ]; simp [hg])) (nw g (.inl (by simp [hg]))),aL h.L9 fun g hg=>hall g (.inl (by rw [uZ]; simp [hg])) (nw g (.inl (by simp [hg]))),aL h.ag fun g hg=>hall g (.inl (by rw [uZ]; simp [hg])) (nw g (.inl (by simp [hg]))),(by show (W.setCell _ _).ownsRow _ _ _ (.slice _ (List.set _ _ _).length _) (List.set _ _ _).length _; rw [LI]; exact h1),aL h.ai fun g hg=>hall g (.inr (by rw [IQ]; simp [hg])) (nw g (.inr (by simp [hg]))),fun z hz=>(h.eI z hz).same fun g hg=>hall g (.inl (by rw [uZ]; simp only [Kg]; exact .inl (.inr (.inl (dP.2 ⟨z,hz,hg⟩))))) (nw g (.inl (by simp only [Kg]; exact .inr (.inl (dP.2 ⟨z,hz,hg⟩))))),?_,?_,hnd⟩,⟨hb.os,hb.tape,hb.output,by rw [ja]; exact hb.size,fun g hg hm=>(hs g fun e=>hm (e ▸ hin gs (.inl hgP))).trans (hb.same g hg fun hx=>hm (by rw [e1]; simp only [Kg]; exact .inr (.inl ((hkx g).1 hx))))⟩,fun g hg=> ?_⟩
 ·intro z hz
  rw [hset] at hz;rcases Kg.1 hz with hz | hz
  ·exact (h.eE z (RK hz)).same fun g hg=>hall g (.inl (by rw [uZ]; exact Ly _ (dP.2 ⟨z,hz,hg⟩))) (nw g (.inr (by simp only [Kg]; exact .inl (dP.2 ⟨z,RK hz,hg⟩))))
  ·rcases Kt.1 hz with rfl | hz
   ·show (W.setCell _ _).ownsRow base _ 1 (.slice a l.length c) l.length (bT.flat l)
    exact aL ho fun g hg=>hs g fun e=>by
     rcases hf g hg with h7 | h7
     ·exact hP gs (.inl hgP) (e ▸ h7)
     ·have:=(h.lt gs (hin gs (.inl hgP))).2; omega
   ·exact (h.eE z (RL hz)).same fun g hg=>hall g (.inr (by rw [IQ]; exact Lz _ (dP.2 ⟨z,hz,hg⟩))) (nw g (.inr (by simp only [Kg]; exact .inl (dP.2 ⟨z,RL hz,hg⟩))))
 ·intro z hz
  exact (h.eR z hz).same fun g hg=>hall g (.inr (by rw [IQ]; simp only [Kg]; exact .inr (.inr (dP.2 ⟨z,hz,hg⟩)))) (nw g (.inr (by simp only [Kg]; exact .inr (.inr (dP.2 ⟨z,hz,hg⟩)))))
 ·rw [e2] at hg
  rcases Kg.1 hg with hg | hg
  ·exact .inl (hin g (.inl hg))
  ·rcases Kg.1 hg with hg | hg
   ·exact (hf g hg).imp_left fun h7=>by rw [e1]; simp only [Kg]; exact .inr (.inl ((hkx g).1 h7))
   ·exact .inl (hin g (.inr hg))
theorem pg {x:aM} {l:List ByteArray} {a:Option Addr} {c:Nat} (h:ap w base q) (hb:aI w W (blk x.ak)) (hx:q.ai[n]? =some x) (ha:q.aK=some ⟨gs,0,none⟩) (ho:W.ownsRow base 9 1 (.slice a l.length c) l.length (bT.flat l)) (hf: ∀ g∈blk a,g∈blk x.ak∨w.heap.size≤g):
  yr w base q ({ q with ai:=q.ai.set n { x with Ma:=l,ak:=a,aq:=c } } :af) (W.setCell ⟨gs,n * 5+4,none⟩ (.slice a l.length c))∧(∃ u,W.cell? ⟨gs,n * 5+4,none⟩=some u)∧W.frozen? ⟨gs,n * 5+4,none⟩=false:=by
 have hn:n < q.ai.length:=(Lj.1 hx).1;have hset:q.ai.set n { x with Ma:=l,ak:=a,aq:=c } =q.ai.take n ++ { x with Ma:=l,ak:=a,aq:=c } :: q.ai.drop (n+1):=by rw [RJ,if_pos hn]
 have hk: ∀ (z:aM) (A B:List aM),(A ++ z :: B).filterMap aU.bt=A.filterMap aU.bt ++ ((aU.bt z).toList ++ B.filterMap aU.bt):=fun z A B=>by
  rw [LW,LH];cases aU.bt z <;> simp
 have h6:q.ai.filterMap aU.bt=(q.ai.take n).filterMap aU.bt ++ ((aU.bt x).toList ++ (q.ai.drop (n+1)).filterMap aU.bt):=(congrArg (List.filterMap aU.bt) (kL hx)).trans (hk _ _ _);obtain ⟨P1,uZ⟩: ∃ P1,P1=blk q.aN ++ (q.L8.filterMap aR.bt ++ (blk q.bc ++ (blk q.ay ++ (blk q.ax ++ (blk q.am ++ (q.ae.filterMap aC.bt ++ blk q.aK)))))) ++ (q.ai.take n).filterMap aU.bt:=⟨_,rfl⟩
 obtain ⟨P2,IQ⟩: ∃ P2,P2=(q.ai.drop (n+1)).filterMap aU.bt:=⟨_,rfl⟩
 have e1:q.Mc=P1 ++ ((aU.bt x).toList ++ P2):=by rw [uZ,IQ]; simp only [af.Mc,h6,Lm]
 have e2:({ q with ai:=q.ai.set n { x with Ma:=l,ak:=a,aq:=c } } :af).Mc=P1 ++ ((a.map (·.block)).toList ++ P2):=by
  rw [uZ,IQ];simp only [af.Mc,hset,hk,Lm];rfl
 have hkx: ∀ g,g∈blk x.ak↔g∈(aU.bt x).toList:=fun g=>Iff.rfl
 have Dl:=h.nodup;rw [e1] at Dl;have hP: ∀ g,g∈P1∨g∈P2→g∉blk x.ak:=fun g hg hm=>by
  obtain ⟨-,k2,k3⟩:=Kf.1 Dl;obtain ⟨-,-,k6⟩:=Kf.1 k2;rcases hg with hg | hg
  ·exact k3 g hg g (Lz _ ((hkx g).1 hm)) rfl
  ·exact k6 g ((hkx g).1 hm) g hg rfl
 have hin: ∀ g,g∈P1∨g∈P2→g∈q.Mc:=fun g hg=>by
  rw [e1];rcases hg with hg | hg
  ·exact Lz _ hg
  ·exact Ly _ (Ly _ hg)
 have hgl:gs∈blk q.aK:=by rw [ha]; simp [blk]
 have hgP:gs∈P1:=by rw [uZ]; simp [hgl]
 have hsW: ∀ g,g∈P1∨g∈P2→W.heap[g]? =w.heap[g]? :=fun g hg=>hb.same g (h.lt g (hin g hg)).2 (hP g hg)
 have hrow:=aL h.ai fun g hg=>hsW g (.inl (by rw [uZ]; simp [hg]))
 obtain ⟨h1,h2,h3⟩:=rn (K:=bX) (y:= { x with Ma:=l,ak:=a,aq:=c }) (v:= .slice a l.length c) hrow hx ha (show 4 < 5 by decide) rfl;refine ⟨?_,h3⟩;have hnd:({ q with ai:=q.ai.set n { x with Ma:=l,ak:=a,aq:=c } } :af).Mc.Nodup:=by
  rw [e2];refine uX Dl fun g hg=> ?_
  rcases hf g (fZ.2 hg) with hm | hm
  ·exact ⟨fun hq=>hP g (.inl hq) hm,fun hq=>hP g (.inr hq) hm⟩
  ·exact ⟨fun hq=>by have:=(h.lt g (hin g (.inl hq))).2; omega,fun hq=>by have:=(h.lt g (hin g (.inr hq))).2; omega⟩
 have hs: ∀ g,g≠gs→(W.setCell ⟨gs,n * 5+4,none⟩ (.slice a l.length c)).heap[g]? =W.heap[g]? :=fun g hg=>aH hg
 have hsp:q.Mc=(blk q.aN ++ (q.L8.filterMap aR.bt ++ (blk q.bc ++ (blk q.ay ++ (blk q.ax ++ (blk q.am ++ q.ae.filterMap aC.bt)))))) ++ (blk q.aK ++ (q.ai.filterMap aU.bt)):=by simp [af.Mc,Lm]
 have nw: ∀ g,(g∈(blk q.aN ++ (q.L8.filterMap aR.bt ++ (blk q.bc ++ (blk q.ay ++ (blk q.ax ++ (blk q.am ++ q.ae.filterMap aC.bt))))))∨g∈(q.ai.filterMap aU.bt))→g≠gs:=fun g hg he=>by
  have h5:=h.nodup;rw [hsp] at h5;obtain ⟨-,k2,k3⟩:=Kf.1 h5;obtain ⟨-,-,k6⟩:=Kf.1 k2;rcases hg with hg | hg
  ·exact k3 g hg gs (Lz _ hgl) he
  ·exact k6 gs hgl g hg he.symm
 have hall: ∀ g,g∈P1∨g∈P2→g≠gs→(W.setCell ⟨gs,n * 5+4,none⟩ (.slice a l.length c)).heap[g]? =w.heap[g]? :=fun g hg hne=>(hs g hne).trans (hsW g hg)
 refine ⟨⟨aL h.L8 fun g hg=>hall g (.inl (by rw [uZ]; simp [hg])) (nw g (.inl (by simp [hg]))),aL h.aj fun g hg=>hall g (.inl (by rw [uZ]; simp [hg])) (nw g (.inl (by simp [hg]))),aL h.L9 fun g hg=>hall g (.inl (by rw [uZ]; simp [hg])) (nw g (.inl (by simp [hg]))),aL h.ag fun g hg=>hall g (.inl (by rw [uZ]; simp [hg])) (nw g (.inl (by simp [hg]))),aL h.ae fun g hg=>hall g (.inl (by rw [uZ]; simp [hg])) (nw g (.inl (by simp [hg]))),(by show (W.setCell _ _).ownsRow _ _ _ (.slice _ (List.set _ _ _).length _) (List.set _ _ _).length _; rw [LI]; exact h1),fun z hz=>(h.eI z hz).same fun g hg=>hall g (.inl (by rw [uZ]; simp only [Kg]; exact .inl (.inr (.inl (dP.2 ⟨z,hz,hg⟩))))) (nw g (.inl (by simp only [Kg]; exact .inr (.inl (dP.2 ⟨z,hz,hg⟩))))),?_,?_,hnd⟩,⟨hb.os,hb.tape,hb.output,by rw [ja]; exact hb.size,fun g hg hm=>(hs g fun e=>hm (e ▸ hin gs (.inl hgP))).trans (hb.same g hg fun hx=>hm (by rw [e1]; simp only [Kg]; exact .inr (.inl ((hkx g).1 hx))))⟩,fun g hg=> ?_⟩
 ·intro z hz
  exact (h.eE z hz).same fun g hg=>hall g (.inl (by rw [uZ]; simp only [Kg]; exact .inl (.inr (.inr (.inr (.inr (.inr (.inr (.inl (dP.2 ⟨z,hz,hg⟩)))))))))) (nw g (.inl (by simp only [Kg]; exact .inr (.inr (.inr (.inr (.inr (.inr (dP.2 ⟨z,hz,hg⟩)))))))))
 ·intro z hz
  rw [hset] at hz;rcases Kg.1 hz with hz | hz
  ·exact (h.eR z (RK hz)).same fun g hg=>hall g (.inl (by rw [uZ]; exact Ly _ (dP.2 ⟨z,hz,hg⟩))) (nw g (.inr (by exact dP.2 ⟨z,RK hz,hg⟩)))
  ·rcases Kt.1 hz with rfl | hz
   ·show (W.setCell _ _).ownsRow base _ 1 (.slice a l.length c) l.length (bT.flat l)
    exact aL ho fun g hg=>hs g fun e=>by
     rcases hf g hg with h7 | h7
     ·exact hP gs (.inl hgP) (e ▸ h7)
     ·have:=(h.lt gs (hin gs (.inl hgP))).2; omega
   ·exact (h.eR z (RL hz)).same fun g hg=>hall g (.inr (by rw [IQ]; exact dP.2 ⟨z,hz,hg⟩)) (nw g (.inr (by exact dP.2 ⟨z,RL hz,hg⟩)))
 ·rw [e2] at hg
  rcases Kg.1 hg with hg | hg
  ·exact .inl (hin g (.inl hg))
  ·rcases Kg.1 hg with hg | hg
   ·exact (hf g hg).imp_left fun h7=>by rw [e1]; simp only [Kg]; exact .inr (.inl ((hkx g).1 h7))
   ·exact .inl (hin g (.inr hg))
theorem IY {m ga gp g:Nat} {y:au} (h:ap W base q) (hy:q.ae[m]? =some y) (iE:q.am=some ⟨ga,0,none⟩) (l9:q.aN=some ⟨gp,0,none⟩) (hg:g∈blk y.ak):g∈q.Mc∧g≠ga∧g≠gp∧ga≠gp:=by
 have hk:g∈q.ae.filterMap aC.bt:=dP.2 ⟨y,KA hy,fZ.1 hg⟩;have h1:=h.nodup;have e:q.Mc=blk q.aN ++ ((q.L8.filterMap aR.bt ++ (blk q.bc ++ (blk q.ay ++ blk q.ax))) ++ (blk q.am ++ (q.ae.filterMap aC.bt ++ (blk q.aK ++ q.ai.filterMap aU.bt)))):=by simp [af.Mc,Lm]
 rw [e] at h1;obtain ⟨-,h2,h3⟩:=Kf.1 h1;obtain ⟨-,h4,-⟩:=Kf.1 h2;obtain ⟨-,-,h5⟩:=Kf.1 h4;have ma:ga∈blk q.am:=by rw [iE]; simp [blk]
 have mp:gp∈blk q.aN:=by rw [l9]; simp [blk]
 exact ⟨by rw [e]; simp only [Kg]; exact .inr (.inr (.inr (.inl hk))),fun e=>h5 ga ma g (Lz _ hk) e.symm,fun e=>h3 gp mp g (by simp only [Kg]; exact .inr (.inr (.inl hk))) e.symm,fun e=>h3 gp mp ga (by simp only [Kg]; exact .inr (.inl ma)) e.symm⟩
theorem oN {x:au} {l:List ByteArray} {a:Option Addr} {c:Nat} {N:Int} {ok:ci→Bool} {last:Int} (hr:aw (·.id) ok last q.pure.ae=true) (hx:q.ae[n]? =some x) (hN:x.id=N):({ q with ae:=q.ae.set n { x with Ma:=l,ak:=a,aq:=c } } :af).pure=cV N l q.pure:=by
 have hx':q.pure.ae[n]? =some x.toci:=by show (q.ae.map (·.toci))[n]? =_; rw [Kk,hx]; rfl
 unfold cV;rw [jF (num:=fun x:ci=>x.id) (db hr).2 hx' hN]
 show ({ q.pure with ae:=(q.ae.set n { x with Ma:=l,ak:=a,aq:=c }).map (·.toci) } :aE)=_
 rw [PN];rfl
theorem sq {x:aM} {l:List ByteArray} {a:Option Addr} {c:Nat} {N:Int} {ok:dS→Bool} {last:Int} (hr:aw (·.id) ok last q.pure.ai=true) (hx:q.ai[n]? =some x) (hN:x.id=N):({ q with ai:=q.ai.set n { x with Ma:=l,ak:=a,aq:=c } } :af).pure=gU N l q.pure:=by
 have hx':q.pure.ai[n]? =some x.todS:=by show (q.ai.map (·.todS))[n]? =_; rw [Kk,hx]; rfl
 unfold gU;rw [jF (num:=fun x:dS=>x.id) (db hr).2 hx' hN]
 show ({ q.pure with ai:=(q.ai.set n { x with Ma:=l,ak:=a,aq:=c }).map (·.todS) } :aE)=_
 rw [PN];rfl
end
end
end Go.Proofs.YtkbcplnlehdjfaaGreat
