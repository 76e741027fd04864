/- What the proof leans on, part 36: TkAll, TkSem, TkMem5. -/
import Derived.Test.YtkbcplnlehdjfaaGreatOwnCh1
import Derived.Test.YtkbcplnlehdjfaaGreatOwnCh20
import Derived.Test.YtkbcplnlehdjfaaGreatOwnCh26
import Derived.Test.YtkbcplnlehdjfaaGreatOwnCh32
import Derived.Test.YtkbcplnlehdjfaaGreatOwnCh35
import Derived.Laws.Rows
import Derived.Deep.Cut
set_option maxRecDepth 100000
set_option maxHeartbeats 8000000

namespace Go.Proofs.YtkbcplnlehdjfaaGreat
open Go.RowKit
theorem less_of {g:ProcP→Bool} {f:ProcP→ProcP} {x:ProcP} (hf:g(f x)=false)(hx:g x=true): ∀ {l:List ProcP},l.Pairwise(fun x y=>x.id < y.id)→x∈l→((turnP x.id f l).filter g).length+1=(l.filter g).length
 | [],_,h=>by cases h
 | y :: r,hr,h=>by
  rw [List.pairwise_cons] at hr
  by_cases e:y=x
  ·subst e
   have h2:turnP y.id f(y :: r)=f y :: r:=by
    have h3:turnP y.id f r=r:=turn_other fun z hz e=>by have:=hr.1 z hz; omega
    simp only [turnP,List.map_cons,if_true] at h3 ⊢
    rw [h3]
   rw [h2]
   simp [hf,hx]
  ·have hm:x∈r:=by
    rcases List.mem_cons.1 h with h1 | h1
    ·exact absurd h1.symm e
    ·exact h1
   have h4:=less_of hf hx hr.2 hm
   have h5: ¬ y.id=x.id:=by have:=hr.1 x hm; omega
   have h6:turnP x.id f(y :: r)=y :: turnP x.id f r:=by simp [turnP,h5]
   rw [h6]
   by_cases hy:g y=true
   ·simp only [List.filter_cons,hy,if_true,List.length_cons]; omega
   ·simp only [List.filter_cons,hy,Bool.false_eq_true,if_false]; exact h4
section
variable {p:PartP} {f:ProcP→ProcP} {st on:Int} {v:ProcP}
theorem wakeAll_none(h:bestW st on p.procs=none):wakeAll f st on p=p:=by
 unfold wakeAll
 rw [bestW_none h]
 rfl
theorem wakeAll_some(hr:PartR p)(hst: ¬ st=0∧ ¬ st=1)(h:bestW st on p.procs=some v):wakeAll f st on p=wakeAll f st on(wakeAt f p v)∧((wakeAt f p v).procs.filter(waitsB st on)).length+1=(p.procs.filter(waitsB st on)).length:=by
 obtain⟨m1,m2,m3⟩:=bestW_mem h
 have h1:((wakeAt f p v).procs.filter(waitsB st on)).length+1=(p.procs.filter(waitsB st on)).length:=by
  refine less_of(f:=fun y=>wakeF p.next 0(f y)) ?_ ?_ hr.rise m1
  ·unfold waitsB wakeF
   split
   ·show (decide((0:Int)=st) && _)=false
    rw [decide_eq_false(by omega)]; rfl
   ·show (decide((1:Int)=st) && _)=false
    rw [decide_eq_false(by omega)]; rfl
  ·unfold waitsB; simp [m2,m3]
 refine⟨?_,h1⟩
 unfold wakeAll
 rw [← h1]
 simp only [wakeAllN,h]
end
structure EvI(f:ProcP→ProcP)(st on:Int)(tgt:PartP)(n:Nat)(x:ProcP)(k:Nat)(q:PartD)(z:Int):Prop where
 r:PartR q.pure
 pos:q.pure.procs[n]? =some x
 nx:q.next+k≤1000000000
 cnt:(q.pure.procs.filter(waitsB st on)).length=k
 same:wakeAll f st on q.pure=tgt
 best:BestIs(fun x:ProcP=>decide(x.state=st) && decide(x.on=on))q.pure.procs q.procs.length z
section
variable {f:ProcP→ProcP} {st on z z2:Int} {tgt:PartP} {n k i:Nat} {x:ProcP} {v:ProcD} {q q2:PartD}
theorem EvI.start(hr:PartR q.pure)(hp:q.pure.procs[n]? =some x)(hn:q.next≤999999990)(hb:BestIs(fun x:ProcP=>decide(x.state=st) && decide(x.on=on))q.pure.procs q.procs.length z):EvI f st on(wakeAll f st on q.pure)n x(q.pure.procs.filter(waitsB st on)).length q z:=by
 have h1:(q.pure.procs.filter(waitsB st on)).length≤q.pure.procs.length:=List.length_filter_le _ _
 have h2:=hr.nProc
 exact⟨hr,hp,by omega,rfl,rfl,hb⟩
theorem EvI.step(h:EvI f st on tgt n x k q z)(hx:x.state=1)(hst: ¬ st=0∧ ¬ st=1)(hf:f=(fun y=>y)∨ ∃ t,plainB t=true∧f=gotP t)(hw:bestW st on q.pure.procs=some v.toProcP)(hp:q2.pure=wakeAt f q.pure v.toProcP):
  1≤k∧q.next+1≤1000000000∧PartR q2.pure∧ ∀ z2,BestIs(fun x:ProcP=>decide(x.state=st) && decide(x.on=on))q2.pure.procs q2.procs.length z2→EvI f st on tgt n x(k - 1)q2 z2:=by
 obtain⟨m1,m2,m3⟩:=bestW_mem hw
 obtain⟨h1,h2⟩:=wakeAll_some(f:=f)h.r hst hw
 have h3:=h.cnt
 have h4:=h.nx
 have h5:=wakeN_le q.next v.toProcP
 have h6:q2.next=wakeN q.next v.toProcP:=congrArg PartP.next hp
 have hr2:PartR q2.pure:=by rw [hp]; exact wakeAt_right h.r m1(by rw [m2]; exact hst.1)hf(by have:q.pure.next=q.next:=rfl; omega)
 refine⟨by omega,by omega,hr2,fun z2 hb=>⟨hr2,?_,by omega,by rw [hp]; omega,by rw [hp,← h1]; exact h.same,hb⟩⟩
 rw [hp]
 refine turn_at h.pos fun e=>hst.2 ?_
 have:=one_of h.r m1(List.mem_of_getElem? h.pos)e
 rw [this,m2] at hx
 exact hx
end
end Go.Proofs.YtkbcplnlehdjfaaGreat

namespace Go.Proofs.YtkbcplnlehdjfaaGreat
open Go.RowKit Go.Maps
attribute [local go_sem ↓] Go.wp_at_zero Go.wp_at_succ
theorem part_lens {q:PartD} (h:PartR q.pure):q.procs.length≤6∧q.sems.length≤5∧q.events.length≤5∧q.boards.length≤5∧q.buffers.length≤5∧q.ports.length≤5:=by
 have h1:=h.nProc
 have h2:=h.nBuffer
 have h3:=h.nPort
 simp only [PartD.pure,List.length_map] at h1 h2 h3
 exact⟨h1,h.nSem,h.nEvent,h.nBoard,h2,h3⟩
theorem sem_max {p:PartP} {y:SemD} (h:PartR p)(hy:y∈p.sems):y.max≤1000:=by
 have h1:=(things_all h.sems y hy).2
 unfold semB at h1
 simp only [Bool.and_eq_true] at h1
 exact(inB_iff.1 h1.1).2
theorem l5Wait_any(q:PartD)(n base:Nat)(x:ProcD)(now:Int)(o:OpD)(w:World)(h:PartOwn w base q)(hb:base≤w.heap.size)(hr:PartR q.pure)(hx:q.procs[n]? =some x)(hs:x.state=1)(hn:q.next≤999999990)(hnow:0≤now∧now≤1000000000)(ho:opOk o=true)(hk:o.1=3):
  Calls Tryz.prog 234 #[.agg q.cells,.int .i64 n,.agg(opC o),.int .i64 now] w(Gives w base q(waitP o now x.id q.pure)):=by
 obtain⟨-,f1,f2,f3,f4⟩:=op_fields ho
 have hM:=inB_iff.1 f2
 obtain⟨k,N,M,s⟩:=o
 simp only at hk hM f1 f3 f4
 subst hk
 have HR:Hid(PartR q.pure∧q.procs[n]? =some x∧x.state=1∧q.next≤999999990∧(0≤now∧now≤1000000000)∧(-1≤M∧M≤1000)):=⟨hr,hx,hs,hn,hnow,hM⟩
 have HF:Hid(q.procs.length≤6∧q.sems.length≤5∧q.events.length≤5∧q.boards.length≤5∧q.buffers.length≤5∧q.ports.length≤5):=part_lens hr
 clear f2 hr hx hs hn hnow hM ho
 have S:=hided(FO.start(o:=(3,N,M,s))h hb)
 clear h hb
 go_enter Tryz.func234,Tryz.ntmps234
 go_upto_region 1 with fail
 generalize ((w.alloc(.cells q.cells 32)).alloc(.cells(opC(3,N,M,s))134)).alloc(.cells zero8 32)=A at *
 obtain⟨-,o1,-,-⟩:=S.out.op.cells
 simp only at o1
 have hpf:=place_findA(num:=fun x:SemD=>x.id)N q.sems 0
 have hcall:=l3Sem_any q N A(by have:=HF.out; omega)S.out.fr.own.at
 generalize place(q.sems.map(fun x=>x.id))N 0=z at *
 go_wp2_with (refine ldP 4 w.heap.size q.cells S.out.fr.box ?_)
 refine hcall.mono ?_
 clear hcall
 rintro e A2⟨rfl,hb2⟩
 replace S:=hided(S.out.reads hb2)
 clear hb2
 clear o1
 obtain⟨o0,-,-,-⟩:=S.out.op.cells
 simp only at o0
 rcases hpf with ⟨hz,hf⟩ | ⟨m,y,hz,hm,hid,hf⟩
 ·subst hz
  have HE:Hid(waitP(3,N,M,s)now x.id q.pure=pastAt 3 x.id q.pure):=by show waitP(3,N,M,s)now x.id q.pure=_; unfold waitP; rw [show findA(fun x:SemD=>x.id)N q.pure.sems=none from hf]
  clear hf
  have hcall:=past_gives(n:=n)3 S.out.fr.own S.out.low HR.out.1 HR.out.2.1(by rw [HR.out.2.2.1]; decide)
  go_wp2_with (refine ldP 4 w.heap.size q.cells S.out.fr.box ?_)
  refine hcall.mono ?_
  clear hcall
  rintro e A2⟨q2,rfl,hp,ht⟩
  replace S:=hided(S.out.call ht)
  have HP:Hid(q2.pure=_):=hp
  clear hp ht
  go_wp2_with (refine stP 8 32(w.heap.size+2)q2.cells S.out.an ?_)
  refine rtP Tryz.results234(w.heap.size+2)q2.cells S.out.an ?_
  exact⟨q2,rfl,HP.out.trans HE.out.symm,S.out.done _⟩
 rw [Nat.zero_add] at hz
 subst hz
 have dz:decide((m:Int) < 0)=false:=decide_eq_false(by omega)
 have HM:Hid(q.sems[m]? =some y∧y.id=N∧findA(fun x:SemD=>x.id)N q.sems=some y):=⟨hm,hid,hf⟩
 have hml:=(List.getElem?_eq_some_iff.1 hm).1
 have j0:(0:Int)≤(m:Int):=by omega
 have j1:(m:Int) < (q.sems.length:Int):=by omega
 obtain⟨ga,hga,hat⟩:=sem_at S.out.fr.own.at.2.1 hm
 have m3:=S.out.fr.box.cells.2.2.2.1
 rw [hga] at m3
 have d1:=hat.2.1
 have HG:Hid(q.semA=some⟨ga,0,none⟩):=hga
 clear hm hid hf hml hat hga
 by_cases hn0:y.n=0
 ·have HE:Hid(waitP(3,N,M,s)now x.id q.pure=orAt 3(3,N,M,s)now x.id q.pure):=by show waitP(3,N,M,s)now x.id q.pure=_; unfold waitP; rw [show findA(fun x:SemD=>x.id)N q.pure.sems=some y from HM.out.2.2]; exact if_pos hn0
  have e1:(y.n == 0)=true:=by simp [hn0]
  have hcall:=l5Or_any q n base x 3 now(3,N,M,s)A2 S.out.fr.own S.out.low HR.out.1 HR.out.2.1(by rw [HR.out.2.2.1]; decide)(by have:=HR.out.2.2.2.1; omega)HR.out.2.2.2.2.1 HR.out.2.2.2.2.2
  clear hn0
  go_wp2_with (first | (refine ldP 4 w.heap.size q.cells S.out.fr.box ?_) | (refine wpList_load_row rfl 134(.tmp 6)rfl(w.heap.size+1)(by rfl)134(opC(3,N,M,s))(0,0)_ S.out.op Tryz.underlying134 rfl(by kernel_rfl) ?_))
  refine hcall.mono ?_
  clear hcall
  rintro e A2⟨q2,rfl,hp,ht⟩
  replace S:=hided(S.out.call ht)
  have HP:Hid(q2.pure=_):=hp
  clear hp ht
  go_wp2_with (refine stP 8 48(w.heap.size+2)q2.cells S.out.an ?_)
  refine rtP Tryz.results234(w.heap.size+2)q2.cells S.out.an ?_
  exact⟨q2,rfl,HP.out.trans HE.out.symm,S.out.done _⟩
 have HE:Hid(waitP(3,N,M,s)now x.id q.pure=pastAt 0 x.id(semUp N(-1)q.pure)):=by show waitP(3,N,M,s)now x.id q.pure=_; unfold waitP; rw [show findA(fun x:SemD=>x.id)N q.pure.sems=some y from HM.out.2.2]; exact if_neg hn0
 have e1:(y.n == 0)=false:=by simp [hn0]
 have HN:Hid(¬ y.n=0):=hn0
 clear hn0
 go_upto_region 10 with fail
 replace S:=hided(S.out.reads(Below.refl _ _).drew)
 refine last_region(fun w1=>w1=A2.drew)12(by kernel_rfl)rfl ?_
 generalize A2.drew=B at *
 clear m3 d1
 have m3:=S.out.fr.box.cells.2.2.2.1
 rw [HG.out] at m3
 obtain⟨ga2,hga,hat⟩:=sem_at S.out.fr.own.at.2.1 HM.out.1
 rw [HG.out] at hga
 cases hga
 have d1:=hat.2.1
 clear hat
 obtain⟨s1,⟨u,c⟩,f⟩:=own_setSem(n:=m)(j:=1)(v:= .int .i64(y.n - 1))(y:= { y with n:=y.n - 1 })S.out.fr.own HM.out.1 HG.out(by decide)rfl
 have hk:=found_sem(o:=(3,N,M,s))HR.out.1 HM.out.2.2
 have n0:=hk.2.1
 have n1:=hk.2.2
 have n2:y.max≤1000:=sem_max HR.out.1(List.mem_of_getElem? HM.out.1)
 clear hk
 have hw:IntKind.wrap .i64(y.n - 1)=y.n - 1:=by rw [IntKind.wrap_i64]; have:=HN.out; omega
 replace S:=hided(S.out.call s1)
 clear s1
 iterate 12(refine ly 13(v:= ?_)(some _)rfl rfl(by kernel_rfl)(fun _ _ _ h=>h)(does_yield(by kernel_rfl) ?_) ?_; rotate_left; (intro w0 hS0; subst hS0; go_simp; try with_reducible rfl); simp only [pt,sb,s0,s1])
 refine last_done rfl(by kernel_rfl)(by kernel_rfl)(by kernel_rfl) ?_
 intro w1 hS1
 rw [hS1]
 clear hS1 w1
 go_simp
 generalize B.setCell⟨ga,m * 3+1,none⟩(.int .i64(y.n - 1))=C at *
 clear m3 d1 c f u
 have hq:({ q with sems:=q.sems.set m { y with n:=y.n - 1 } } :PartD).pure=semUp N(-1)q.pure:=by show ({ q.pure with sems:=q.sems.set m { y with n:=y.n - 1 } } :PartP)=_; unfold semUp; rw [turnA_set(num:=fun x:SemD=>x.id)(things_rise HR.out.1.sems).2 HM.out.1 HM.out.2.1]; rfl
 have hr2:PartR(semUp N(-1)q.pure):=semUp_right HR.out.1 fun z hz hk=>by rw [only HR.out.1.sems HM.out.2.2 hz hk]; have:=HN.out; omega
 rw [← hq] at hr2
 have hcall:=past_gives(n:=n)0 S.out.fr.own S.out.low hr2 HR.out.2.1(by rw [HR.out.2.2.1]; decide)
 rw [hq,show PartD.cells({ q with sems:=q.sems.set m { y with n:=y.n - 1 } } :PartD)=q.cells by unfold PartD.cells; simp] at hcall
 clear hq hr2 n0 n1 n2 hw
 go_wp2_with (refine ldP 4 w.heap.size q.cells S.out.fr.box ?_)
 refine hcall.mono ?_
 clear hcall
 rintro e A2⟨q2,rfl,hp,ht⟩
 replace S:=hided(S.out.call ht)
 have HP:Hid(q2.pure=_):=hp
 clear hp ht
 go_wp2_with (refine stP 8 145(w.heap.size+2)q2.cells S.out.an ?_)
 refine rtP Tryz.results234(w.heap.size+2)q2.cells S.out.an ?_
 exact⟨q2,rfl,HP.out.trans HE.out.symm,S.out.done _⟩
theorem l5Signal_any(q:PartD)(n base:Nat)(x:ProcD)(now:Int)(o:OpD)(w:World)(h:PartOwn w base q)(hb:base≤w.heap.size)(hr:PartR q.pure)(hx:q.procs[n]? =some x)(hs:x.state=1)(hn:q.next≤999999990)(hnow:0≤now∧now≤1000000000)(ho:opOk o=true)(hk:o.1=4):
  Calls Tryz.prog 234 #[.agg q.cells,.int .i64 n,.agg(opC o),.int .i64 now] w(Gives w base q(signalP o x.id q.pure)):=by
 obtain⟨-,f1,f2,f3,f4⟩:=op_fields ho
 have hM:=inB_iff.1 f2
 obtain⟨k,N,M,s⟩:=o
 simp only at hk hM f1 f3 f4
 subst hk
 have HR:Hid(PartR q.pure∧q.procs[n]? =some x∧x.state=1∧q.next≤999999990∧(0≤now∧now≤1000000000)∧(-1≤M∧M≤1000)):=⟨hr,hx,hs,hn,hnow,hM⟩
 have HF:Hid(q.procs.length≤6∧q.sems.length≤5∧q.events.length≤5∧q.boards.length≤5∧q.buffers.length≤5∧q.ports.length≤5):=part_lens hr
 clear f2 hr hx hs hn hnow hM ho
 have S:=hided(FO.start(o:=(4,N,M,s))h hb)
 clear h hb
 go_enter Tryz.func234,Tryz.ntmps234
 go_upto_region 1 with fail
 generalize ((w.alloc(.cells q.cells 32)).alloc(.cells(opC(4,N,M,s))134)).alloc(.cells zero8 32)=A at *
 obtain⟨-,o1,-,-⟩:=S.out.op.cells
 simp only at o1
 have hpf:=place_findA(num:=fun x:SemD=>x.id)N q.sems 0
 have hcall:=l3Sem_any q N A(by have:=HF.out; omega)S.out.fr.own.at
 generalize place(q.sems.map(fun x=>x.id))N 0=z at *
 go_wp2_with (refine ldP 4 w.heap.size q.cells S.out.fr.box ?_)
 refine hcall.mono ?_
 clear hcall
 rintro e A2⟨rfl,hb2⟩
 replace S:=hided(S.out.reads hb2)
 clear hb2
 clear o1
 obtain⟨o0,o1,-,-⟩:=S.out.op.cells
 simp only at o0 o1
 rcases hpf with ⟨hz,hf⟩ | ⟨m,y,hz,hm,hid,hf⟩
 ·subst hz
  have HE:Hid(signalP(4,N,M,s)x.id q.pure=pastAt 3 x.id q.pure):=by show signalP(4,N,M,s)x.id q.pure=_; unfold signalP; rw [show findA(fun x:SemD=>x.id)N q.pure.sems=none from hf]
  clear hf
  have hcall:=past_gives(n:=n)3 S.out.fr.own S.out.low HR.out.1 HR.out.2.1(by rw [HR.out.2.2.1]; decide)
  go_wp2_with (refine ldP 4 w.heap.size q.cells S.out.fr.box ?_)
  refine hcall.mono ?_
  clear hcall
  rintro e A2⟨q2,rfl,hp,ht⟩
  replace S:=hided(S.out.call ht)
  have HP:Hid(q2.pure=_):=hp
  clear hp ht
  go_wp2_with (refine stP 8 32(w.heap.size+2)q2.cells S.out.an ?_)
  refine rtP Tryz.results234(w.heap.size+2)q2.cells S.out.an ?_
  exact⟨q2,rfl,HP.out.trans HE.out.symm,S.out.done _⟩
 rw [Nat.zero_add] at hz
 subst hz
 have dz:decide((m:Int) < 0)=false:=decide_eq_false(by omega)
 have HM:Hid(q.sems[m]? =some y∧y.id=N∧findA(fun x:SemD=>x.id)N q.sems=some y):=⟨hm,hid,hf⟩
 have hml:=(List.getElem?_eq_some_iff.1 hm).1
 have j0:(0:Int)≤(m:Int):=by omega
 have j1:(m:Int) < (q.sems.length:Int):=by omega
 clear hm hid hf hml
 have hcall:=l4Best_any q 3 N A2(by have:=HF.out; omega)S.out.fr.own.at
 go_wp2_with (refine ldP 4 w.heap.size q.cells S.out.fr.box ?_)
 refine hcall.mono ?_
 clear hcall o0 o1 dz
 rintro e A3⟨⟨z,rfl,hbest⟩,hb2⟩
 replace S:=hided(S.out.reads hb2)
 clear hb2
 rcases best_is hbest with ⟨hz,hw⟩ | ⟨i,v,hz,hi,hw⟩
 ·have HW:Hid(bestW 3 N q.pure.procs=none):=hw
  have dz:decide(z≥0)=false:=decide_eq_false(by omega)
  clear hbest hz hw
  obtain⟨ga,hga,hat⟩:=sem_at S.out.fr.own.at.2.1 HM.out.1
  have m3:=S.out.fr.box.cells.2.2.2.1
  rw [hga] at m3
  have d1:=hat.2.1
  have d2:=hat.2.2
  have HG:Hid(q.semA=some⟨ga,0,none⟩):=hga
  clear hat hga
  go_upto_region 15 with fail
  clear dz
  replace S:=hided(S.out.reads(Below.refl _ _).drew)
  refine tame_region(fun w1=>w1=A3.drew)(by kernel_rfl)rfl ?_
  generalize A3.drew=B at *
  clear m3 d1 d2
  have m3:=S.out.fr.box.cells.2.2.2.1
  rw [HG.out] at m3
  obtain⟨ga2,hga,hat⟩:=sem_at S.out.fr.own.at.2.1 HM.out.1
  rw [HG.out] at hga
  cases hga
  have d1:=hat.2.1
  have d2:=hat.2.2
  clear hat
  iterate 13(refine yl(v:= ?_) ?_ ?_; rotate_left; (intro w0 hS0; subst hS0; go_simp; try with_reducible rfl); simp only [pt,sb,s0,s1])
  refine tame_done(by kernel_rfl) ?_ _
  intro w1 hS1
  rw [hS1]
  clear hS1 w1
  have HU:Hid(signalP(4,N,M,s)x.id q.pure=if y.n=y.max then pastAt 1 x.id q.pure else pastAt 0 x.id(semUp N 1 q.pure)):=by show signalP(4,N,M,s)x.id q.pure=_; unfold signalP; rw [show findA(fun x:SemD=>x.id)N q.pure.sems=some y from HM.out.2.2]; dsimp only; rw [HW.out]
  by_cases hx0:y.n=y.max
  ·have HE:Hid(signalP(4,N,M,s)x.id q.pure=pastAt 1 x.id q.pure):=HU.out.trans(if_pos hx0)
   have e1:(y.n == y.max)=true:=by simp [hx0]
   have hcall:=past_gives(n:=n)1 S.out.fr.own S.out.low HR.out.1 HR.out.2.1(by rw [HR.out.2.2.1]; decide)
   clear hx0 m3 d1 d2
   go_wp2_with (refine ldP 4 w.heap.size q.cells S.out.fr.box ?_)
   refine hcall.mono ?_
   clear hcall
   rintro e A2⟨q2,rfl,hp,ht⟩
   replace S:=hided(S.out.call ht)
   have HP:Hid(q2.pure=_):=hp
   clear hp ht
   go_wp2_with (refine stP 8 89(w.heap.size+2)q2.cells S.out.an ?_)
   refine rtP Tryz.results234(w.heap.size+2)q2.cells S.out.an ?_
   exact⟨q2,rfl,HP.out.trans HE.out.symm,S.out.done _⟩
  have HE:Hid(signalP(4,N,M,s)x.id q.pure=pastAt 0 x.id(semUp N 1 q.pure)):=HU.out.trans(if_neg hx0)
  have e1:(y.n == y.max)=false:=by simp [hx0]
  have HN:Hid(¬ y.n=y.max):=hx0
  clear hx0 d2
  go_upto_region 17 with fail
  clear e1
  replace S:=hided(S.out.reads(Below.refl _ _).drew)
  refine last_region(fun w1=>w1=B.drew)12(by kernel_rfl)rfl ?_
  generalize B.drew=B2 at *
  clear m3 d1
  have m3:=S.out.fr.box.cells.2.2.2.1
  rw [HG.out] at m3
  obtain⟨ga2,hga,hat⟩:=sem_at S.out.fr.own.at.2.1 HM.out.1
  rw [HG.out] at hga
  cases hga
  have d1:=hat.2.1
  clear hat
  obtain⟨s1,⟨u,c⟩,f⟩:=own_setSem(n:=m)(j:=1)(v:= .int .i64(y.n+1))(y:= { y with n:=y.n+1 })S.out.fr.own HM.out.1 HG.out(by decide)rfl
  have hk:=found_sem(o:=(4,N,M,s))HR.out.1 HM.out.2.2
  have n0:=hk.2.1
  have n1:=hk.2.2
  have n2:y.max≤1000:=sem_max HR.out.1(List.mem_of_getElem? HM.out.1)
  clear hk
  have hw:IntKind.wrap .i64(y.n+1)=y.n+1:=by rw [IntKind.wrap_i64]; have:=HN.out; omega
  replace S:=hided(S.out.call s1)
  clear s1
  iterate 12(refine ly 13(v:= ?_)(some _)rfl rfl(by kernel_rfl)(fun _ _ _ h=>h)(does_yield(by kernel_rfl) ?_) ?_; rotate_left; (intro w0 hS0; subst hS0; go_simp; try with_reducible rfl); simp only [pt,sb,s0,s1])
  refine last_done rfl(by kernel_rfl)(by kernel_rfl)(by kernel_rfl) ?_
  intro w1 hS1
  rw [hS1]
  clear hS1 w1
  go_simp
  generalize B2.setCell⟨ga,m * 3+1,none⟩(.int .i64(y.n+1))=C at *
  clear m3 d1 c f u
  have hq:({ q with sems:=q.sems.set m { y with n:=y.n+1 } } :PartD).pure=semUp N(1)q.pure:=by show ({ q.pure with sems:=q.sems.set m { y with n:=y.n+1 } } :PartP)=_; unfold semUp; rw [turnA_set(num:=fun x:SemD=>x.id)(things_rise HR.out.1.sems).2 HM.out.1 HM.out.2.1]; rfl
  have hr2:PartR(semUp N(1)q.pure):=semUp_right HR.out.1 fun z hz hk=>by rw [only HR.out.1.sems HM.out.2.2 hz hk]; have:=HN.out; omega
  rw [← hq] at hr2
  have hcall:=past_gives(n:=n)0 S.out.fr.own S.out.low hr2 HR.out.2.1(by rw [HR.out.2.2.1]; decide)
  rw [hq,show PartD.cells({ q with sems:=q.sems.set m { y with n:=y.n+1 } } :PartD)=q.cells by unfold PartD.cells; simp] at hcall
  clear hq hr2 n0 n1 n2 hw
  go_wp2_with (refine ldP 4 w.heap.size q.cells S.out.fr.box ?_)
  refine hcall.mono ?_
  clear hcall
  rintro e A2⟨q2,rfl,hp,ht⟩
  replace S:=hided(S.out.call ht)
  have HP:Hid(q2.pure=_):=hp
  clear hp ht
  go_wp2_with (refine stP 8 145(w.heap.size+2)q2.cells S.out.an ?_)
  refine rtP Tryz.results234(w.heap.size+2)q2.cells S.out.an ?_
  exact⟨q2,rfl,HP.out.trans HE.out.symm,S.out.done _⟩
 have HW:Hid(bestW 3 N q.pure.procs=some v.toProcP∧q.procs[i]? =some v∧v.state=3):=⟨hw,hi,(bestW_mem hw).2.1⟩
 subst hz
 have dz:decide((i:Int)≥0)=true:=decide_eq_true(by omega)
 have hnx:=HR.out.2.2.2.1
 clear hbest hw hi
 have HE:Hid(signalP(4,N,M,s)x.id q.pure=pastAt 0 x.id(wakeAt(fun y=>y)q.pure v.toProcP)):=by show signalP(4,N,M,s)x.id q.pure=_; unfold signalP; rw [show findA(fun x:SemD=>x.id)N q.pure.sems=some y from HM.out.2.2]; dsimp only; rw [HW.out.1]
 have hcall:=wake_gives(n:=i)S.out.fr.own S.out.low HR.out.1 HW.out.2.1(by rw [HW.out.2.2]; decide)(by omega)
 go_wp2_with (refine ldP 4 w.heap.size q.cells S.out.fr.box ?_)
 refine hcall.mono ?_
 clear hcall
 rintro e A4⟨q2,rfl,hp,ht⟩
 replace S:=hided(S.out.call ht)
 obtain⟨hr2,x2,hx2,hxe⟩:=after_wake HR.out.1 HR.out.2.1 HR.out.2.2.1 HW.out.2.1(by rw [HW.out.2.2]; decide)(by rw [HW.out.2.2]; decide)(.inl rfl)(by omega)hp
 have hcall:=past_gives(n:=n)0 S.out.fr.own S.out.low hr2 hx2(by rw [show x2.state=x.state from congrArg ProcP.state hxe,HR.out.2.2.1]; decide)
 rw [show x2.id=x.id from congrArg ProcP.id hxe,hp,← HE.out] at hcall
 clear hp ht hr2 hx2 hxe dz hnx
 go_wp2_with fail
 refine hcall.mono ?_
 clear hcall
 rintro e A42⟨q3,rfl,hp,ht⟩
 replace S:=hided(S.out.call ht)
 have HP:Hid(q3.pure=_):=hp
 clear hp ht
 go_wp2_with (refine stP 8 73(w.heap.size+2)q3.cells S.out.an ?_)
 refine rtP Tryz.results234(w.heap.size+2)q3.cells S.out.an ?_
 exact⟨q3,rfl,HP.out,S.out.done _⟩
end Go.Proofs.YtkbcplnlehdjfaaGreat

namespace Go.Proofs.YtkbcplnlehdjfaaGreat
open Go.RowKit Go.Maps
theorem nodup_turn {P1 P2:List Nat} {a b:Option Nat} (h:(P1 ++ (a.toList ++ P2)).Nodup)(hb: ∀ g,b=some g→g∉P1∧g∉P2):(P1 ++ (b.toList ++ P2)).Nodup:=by
 obtain⟨h1,h2,h3⟩:=List.nodup_append.1 h
 obtain⟨-,h5,-⟩:=List.nodup_append.1 h2
 refine List.nodup_append.2⟨h1,List.nodup_append.2⟨by cases b <;> simp,h5,fun x hx y hy e=> ?_⟩,fun x hx y hy e=> ?_⟩
 ·cases b with
  | none=>simp at hx
  | some g=>simp at hx; subst hx; exact(hb x rfl).2(e ▸ hy)
 ·rcases List.mem_append.1 hy with hy | hy
  ·cases b with
   | none=>simp at hy
   | some g=>simp at hy; subst hy; exact(hb y rfl).1(e ▸ hx)
  ·exact h3 x hx y(List.mem_append_right _ hy)e
theorem more_str(w:World)(base:Nat)(a0:Option Addr)(c0:Nat)(l0:List ByteArray)(ho:w.ownsRow base 9 1(.slice a0 l0.length c0)l0.length(strK.flat l0))(a:Option Addr)(l:List ByteArray)(cap:Nat)(h:SrcAt w a(strK.flat l))(hl:l0.length+l.length≤4000000)(hbw:base≤w.heap.size):
  ∃ a' cap' w',(Builtin.append_ #[59,59] 59 #[.slice a0 l0.length c0,.slice a l.length cap]).run Tryz.prog w= .ok(.slice a'(l0.length+l.length)cap')w'∧w'.ownsRow base 9 1(.slice a'(l0.length+l.length)cap')(l0.length+l.length)(strK.flat(l0 ++ l))∧w.grownBy w'(Value.slice a0 l0.length c0).ownBlock∧ ∀ g∈blk a',g∈blk a0∨g=w.heap.size:=by
 obtain⟨i,hi,e⟩:=Option.map_eq_some_iff.1 strInfo
 simp only [Prod.mk.injEq] at e
 rw [strK.flat_append]
 exact append_more w base _ _ 9 i _ 1 16 Tryz.underlying59 hi e.1 e.2.1 e.2.2 rfl(by decide)a0 l0.length c0 _ ho a l.length cap _ h(strK.flat_length l)one_str hl(by decide)hbw
theorem own_one(w:World)(s:ByteArray):(w.alloc(.cells #[.string s] 9)).ownsRow w.heap.size 9 1(.slice(some⟨w.heap.size,0,none⟩) [s].length 1) [s].length(strK.flat [s]):=
 ⟨rfl,.inr⟨w.heap.size,1,#[.string s],rfl,Nat.le_refl _,heap_alloc_new _ _,Nat.le_refl _,by decide,rfl,rfl⟩⟩
theorem tail_items {w:World} {a:Option Addr} {l:List ByteArray} {c:Nat} (hk:l.length≤c)(h:Row w a(strK.flat l)):SrcAt w(if c=1 then a else Option.map(fun x:Addr=>⟨x.block,x.off+1,none⟩)a)(strK.flat(l.drop 1)):=by
 have h1:=tail_src(K:=strK)(k:=1)hk h
 have e:(fun x:Addr=>x.add(1 * strK.n))=(fun x:Addr=>⟨x.block,x.off+1,none⟩):=by funext x; rfl
 rw [e] at h1
 exact h1
theorem KeptBut.grown {w w5 w7:World} {a:Option Addr} {n c:Nat} (hb:Below w.heap.size w w5)(hg:w5.grownBy w7(Value.slice a n c).ownBlock):KeptBut w w7(blk a):=
 ⟨hg.os.trans hb.os,hg.tape.trans hb.tape,hg.output.trans hb.output,Nat.le_trans hb.size hg.size,fun g h1 h2=>(hg.block g(Nat.lt_of_lt_of_le h1 hb.size)fun e=>h2(own_block e.symm)).trans(hb.block g h1)⟩
section
variable {w W:World} {base n gs:Nat} {q:PartD}
theorem own_setBuffer {x:BufferD} {l:List ByteArray} {a:Option Addr} {c:Nat} (h:PartOwn w base q)(hb:KeptBut w W(blk x.itemsA))(hx:q.buffers[n]? =some x)(ha:q.bufferA=some⟨gs,0,none⟩)(ho:W.ownsRow base 9 1(.slice a l.length c)l.length(strK.flat l))(hf: ∀ g∈blk a,g∈blk x.itemsA∨w.heap.size≤g):
  TkS w base q({ q with buffers:=q.buffers.set n { x with items:=l,itemsA:=a,itemsC:=c } } :PartD)(W.setCell⟨gs,n * 3+2,none⟩(.slice a l.length c))∧(∃ u,W.cell? ⟨gs,n * 3+2,none⟩=some u)∧W.frozen? ⟨gs,n * 3+2,none⟩=false:=by
 have hn:n < q.buffers.length:=(List.getElem?_eq_some_iff.1 hx).1
 have hset:q.buffers.set n { x with items:=l,itemsA:=a,itemsC:=c } =q.buffers.take n ++ { x with items:=l,itemsA:=a,itemsC:=c } :: q.buffers.drop(n+1):=by rw [List.set_eq_take_append_cons_drop,if_pos hn]
 have hk: ∀ (z:BufferD)(A B:List BufferD),(A ++ z :: B).filterMap bufferN.kid=A.filterMap bufferN.kid ++ ((bufferN.kid z).toList ++ B.filterMap bufferN.kid):=fun z A B=>by
  rw [List.filterMap_append,List.filterMap_cons]
  cases bufferN.kid z <;> simp
 have h6:q.buffers.filterMap bufferN.kid=(q.buffers.take n).filterMap bufferN.kid ++ ((bufferN.kid x).toList ++ (q.buffers.drop(n+1)).filterMap bufferN.kid):=(congrArg(List.filterMap bufferN.kid)(split_at hx)).trans(hk _ _ _)
 obtain⟨P1,hP1⟩: ∃ P1,P1=blk q.procA ++ (q.procs.filterMap procN.kid ++ (blk q.semA ++ (blk q.eventA ++ (blk q.boardA ++ blk q.bufferA)))) ++ (q.buffers.take n).filterMap bufferN.kid:=⟨_,rfl⟩
 obtain⟨P2,hP2⟩: ∃ P2,P2=(q.buffers.drop(n+1)).filterMap bufferN.kid ++ (blk q.portA ++ q.ports.filterMap portN.kid):=⟨_,rfl⟩
 have e1:q.blocks=P1 ++ ((bufferN.kid x).toList ++ P2):=by rw [hP1,hP2]; simp only [PartD.blocks,h6,List.append_assoc]
 have e2:({ q with buffers:=q.buffers.set n { x with items:=l,itemsA:=a,itemsC:=c } } :PartD).blocks=P1 ++ ((a.map(·.block)).toList ++ P2):=by
  rw [hP1,hP2]
  simp only [PartD.blocks,hset,hk,List.append_assoc]
  rfl
 have hkx: ∀ g,g∈blk x.itemsA↔g∈(bufferN.kid x).toList:=fun g=>Iff.rfl
 have hnd0:=h.nodup
 rw [e1] at hnd0
 have hP: ∀ g,g∈P1∨g∈P2→g∉blk x.itemsA:=fun g hg hm=>by
  obtain⟨-,k2,k3⟩:=List.nodup_append.1 hnd0
  obtain⟨-,-,k6⟩:=List.nodup_append.1 k2
  rcases hg with hg | hg
  ·exact k3 g hg g(List.mem_append_left _((hkx g).1 hm))rfl
  ·exact k6 g((hkx g).1 hm)g hg rfl
 have hin: ∀ g,g∈P1∨g∈P2→g∈q.blocks:=fun g hg=>by
  rw [e1]
  rcases hg with hg | hg
  ·exact List.mem_append_left _ hg
  ·exact List.mem_append_right _(List.mem_append_right _ hg)
 have hgl:gs∈blk q.bufferA:=by rw [ha]; simp [blk]
 have hgP:gs∈P1:=by rw [hP1]; simp [hgl]
 have hsW: ∀ g,g∈P1∨g∈P2→W.heap[g]? =w.heap[g]? :=fun g hg=>hb.same g(h.lt g(hin g hg)).2(hP g hg)
 have hrow:=own_same h.buffers fun g hg=>hsW g(.inl(by rw [hP1]; simp [hg]))
 obtain⟨h1,h2,h3⟩:=row_set(K:=bufferK)(y:= { x with items:=l,itemsA:=a,itemsC:=c })(v:= .slice a l.length c)hrow hx ha(show 2 < 3 by decide)rfl
 refine⟨?_,h3⟩
 have hnd:({ q with buffers:=q.buffers.set n { x with items:=l,itemsA:=a,itemsC:=c } } :PartD).blocks.Nodup:=by
  rw [e2]
  refine nodup_turn hnd0 fun g hg=> ?_
  rcases hf g(mem_blk.2 hg)with hm | hm
  ·exact⟨fun hq=>hP g(.inl hq)hm,fun hq=>hP g(.inr hq)hm⟩
  ·exact⟨fun hq=>by have:=(h.lt g(hin g(.inl hq))).2; omega,fun hq=>by have:=(h.lt g(hin g(.inr hq))).2; omega⟩
 have hs: ∀ g,g≠gs→(W.setCell⟨gs,n * 3+2,none⟩(.slice a l.length c)).heap[g]? =W.heap[g]? :=fun g hg=>setCell_other hg
 have hsp:q.blocks=(blk q.procA ++ (q.procs.filterMap procN.kid ++ (blk q.semA ++ (blk q.eventA ++ blk q.boardA)))) ++ (blk q.bufferA ++ (q.buffers.filterMap bufferN.kid ++ (blk q.portA ++ q.ports.filterMap portN.kid))):=by simp [PartD.blocks,List.append_assoc]
 have hgne: ∀ g,(g∈(blk q.procA ++ (q.procs.filterMap procN.kid ++ (blk q.semA ++ (blk q.eventA ++ blk q.boardA))))∨g∈(q.buffers.filterMap bufferN.kid ++ (blk q.portA ++ q.ports.filterMap portN.kid)))→g≠gs:=fun g hg he=>by
  have h5:=h.nodup
  rw [hsp] at h5
  obtain⟨-,k2,k3⟩:=List.nodup_append.1 h5
  obtain⟨-,-,k6⟩:=List.nodup_append.1 k2
  rcases hg with hg | hg
  ·exact k3 g hg gs(List.mem_append_left _ hgl)he
  ·exact k6 gs hgl g hg he.symm
 have hall: ∀ g,g∈P1∨g∈P2→g≠gs→(W.setCell⟨gs,n * 3+2,none⟩(.slice a l.length c)).heap[g]? =w.heap[g]? :=fun g hg hne=>(hs g hne).trans(hsW g hg)
 refine⟨⟨own_same h.procs fun g hg=>hall g(.inl(by rw [hP1]; simp [hg]))(hgne g(.inl(by simp [hg]))),own_same h.sems fun g hg=>hall g(.inl(by rw [hP1]; simp [hg]))(hgne g(.inl(by simp [hg]))),own_same h.events fun g hg=>hall g(.inl(by rw [hP1]; simp [hg]))(hgne g(.inl(by simp [hg]))),own_same h.boards fun g hg=>hall g(.inl(by rw [hP1]; simp [hg]))(hgne g(.inl(by simp [hg]))),(by show (W.setCell _ _).ownsRow _ _ _(.slice _(List.set _ _ _).length _)(List.set _ _ _).length _; rw [List.length_set]; exact h1),own_same h.ports fun g hg=>hall g(.inr(by rw [hP2]; simp [hg]))(hgne g(.inr(by simp [hg]))),fun z hz=>(h.mineP z hz).same fun g hg=>hall g(.inl(by rw [hP1]; simp only [List.mem_append]; exact .inl(.inr(.inl(mem_kids.2⟨z,hz,hg⟩)))))(hgne g(.inl(by simp only [List.mem_append]; exact .inr(.inl(mem_kids.2⟨z,hz,hg⟩))))),?_,?_,hnd⟩,⟨hb.os,hb.tape,hb.output,by rw [setCell_size]; exact hb.size,fun g hg hm=>(hs g fun e=>hm(e ▸ hin gs(.inl hgP))).trans(hb.same g hg fun hx=>hm(by rw [e1]; simp only [List.mem_append]; exact .inr(.inl((hkx g).1 hx))))⟩,fun g hg=> ?_⟩
 ·intro z hz
  rw [hset] at hz
  rcases List.mem_append.1 hz with hz | hz
  ·exact(h.mineF z(List.mem_of_mem_take hz)).same fun g hg=>hall g(.inl(by rw [hP1]; exact List.mem_append_right _(mem_kids.2⟨z,hz,hg⟩)))(hgne g(.inr(by simp only [List.mem_append]; exact .inl(mem_kids.2⟨z,List.mem_of_mem_take hz,hg⟩))))
  ·rcases List.mem_cons.1 hz with rfl | hz
   ·show (W.setCell _ _).ownsRow base _ 1(.slice a l.length c)l.length(strK.flat l)
    exact own_same ho fun g hg=>hs g fun e=>by
     rcases hf g hg with h7 | h7
     ·exact hP gs(.inl hgP)(e ▸ h7)
     ·have:=(h.lt gs(hin gs(.inl hgP))).2; omega
   ·exact(h.mineF z(List.mem_of_mem_drop hz)).same fun g hg=>hall g(.inr(by rw [hP2]; exact List.mem_append_left _(mem_kids.2⟨z,hz,hg⟩)))(hgne g(.inr(by simp only [List.mem_append]; exact .inl(mem_kids.2⟨z,List.mem_of_mem_drop hz,hg⟩))))
 ·intro z hz
  exact(h.mineQ z hz).same fun g hg=>hall g(.inr(by rw [hP2]; simp only [List.mem_append]; exact .inr(.inr(mem_kids.2⟨z,hz,hg⟩))))(hgne g(.inr(by simp only [List.mem_append]; exact .inr(.inr(mem_kids.2⟨z,hz,hg⟩)))))
 ·rw [e2] at hg
  rcases List.mem_append.1 hg with hg | hg
  ·exact .inl(hin g(.inl hg))
  ·rcases List.mem_append.1 hg with hg | hg
   ·exact(hf g hg).imp_left fun h7=>by rw [e1]; simp only [List.mem_append]; exact .inr(.inl((hkx g).1 h7))
   ·exact .inl(hin g(.inr hg))
theorem own_setPort {x:PortD} {l:List ByteArray} {a:Option Addr} {c:Nat} (h:PartOwn w base q)(hb:KeptBut w W(blk x.itemsA))(hx:q.ports[n]? =some x)(ha:q.portA=some⟨gs,0,none⟩)(ho:W.ownsRow base 9 1(.slice a l.length c)l.length(strK.flat l))(hf: ∀ g∈blk a,g∈blk x.itemsA∨w.heap.size≤g):
  TkS w base q({ q with ports:=q.ports.set n { x with items:=l,itemsA:=a,itemsC:=c } } :PartD)(W.setCell⟨gs,n * 5+4,none⟩(.slice a l.length c))∧(∃ u,W.cell? ⟨gs,n * 5+4,none⟩=some u)∧W.frozen? ⟨gs,n * 5+4,none⟩=false:=by
 have hn:n < q.ports.length:=(List.getElem?_eq_some_iff.1 hx).1
 have hset:q.ports.set n { x with items:=l,itemsA:=a,itemsC:=c } =q.ports.take n ++ { x with items:=l,itemsA:=a,itemsC:=c } :: q.ports.drop(n+1):=by rw [List.set_eq_take_append_cons_drop,if_pos hn]
 have hk: ∀ (z:PortD)(A B:List PortD),(A ++ z :: B).filterMap portN.kid=A.filterMap portN.kid ++ ((portN.kid z).toList ++ B.filterMap portN.kid):=fun z A B=>by
  rw [List.filterMap_append,List.filterMap_cons]
  cases portN.kid z <;> simp
 have h6:q.ports.filterMap portN.kid=(q.ports.take n).filterMap portN.kid ++ ((portN.kid x).toList ++ (q.ports.drop(n+1)).filterMap portN.kid):=(congrArg(List.filterMap portN.kid)(split_at hx)).trans(hk _ _ _)
 obtain⟨P1,hP1⟩: ∃ P1,P1=blk q.procA ++ (q.procs.filterMap procN.kid ++ (blk q.semA ++ (blk q.eventA ++ (blk q.boardA ++ (blk q.bufferA ++ (q.buffers.filterMap bufferN.kid ++ blk q.portA)))))) ++ (q.ports.take n).filterMap portN.kid:=⟨_,rfl⟩
 obtain⟨P2,hP2⟩: ∃ P2,P2=(q.ports.drop(n+1)).filterMap portN.kid:=⟨_,rfl⟩
 have e1:q.blocks=P1 ++ ((portN.kid x).toList ++ P2):=by rw [hP1,hP2]; simp only [PartD.blocks,h6,List.append_assoc]
 have e2:({ q with ports:=q.ports.set n { x with items:=l,itemsA:=a,itemsC:=c } } :PartD).blocks=P1 ++ ((a.map(·.block)).toList ++ P2):=by
  rw [hP1,hP2]
  simp only [PartD.blocks,hset,hk,List.append_assoc]
  rfl
 have hkx: ∀ g,g∈blk x.itemsA↔g∈(portN.kid x).toList:=fun g=>Iff.rfl
 have hnd0:=h.nodup
 rw [e1] at hnd0
 have hP: ∀ g,g∈P1∨g∈P2→g∉blk x.itemsA:=fun g hg hm=>by
  obtain⟨-,k2,k3⟩:=List.nodup_append.1 hnd0
  obtain⟨-,-,k6⟩:=List.nodup_append.1 k2
  rcases hg with hg | hg
  ·exact k3 g hg g(List.mem_append_left _((hkx g).1 hm))rfl
  ·exact k6 g((hkx g).1 hm)g hg rfl
 have hin: ∀ g,g∈P1∨g∈P2→g∈q.blocks:=fun g hg=>by
  rw [e1]
  rcases hg with hg | hg
  ·exact List.mem_append_left _ hg
  ·exact List.mem_append_right _(List.mem_append_right _ hg)
 have hgl:gs∈blk q.portA:=by rw [ha]; simp [blk]
 have hgP:gs∈P1:=by rw [hP1]; simp [hgl]
 have hsW: ∀ g,g∈P1∨g∈P2→W.heap[g]? =w.heap[g]? :=fun g hg=>hb.same g(h.lt g(hin g hg)).2(hP g hg)
 have hrow:=own_same h.ports fun g hg=>hsW g(.inl(by rw [hP1]; simp [hg]))
 obtain⟨h1,h2,h3⟩:=row_set(K:=portK)(y:= { x with items:=l,itemsA:=a,itemsC:=c })(v:= .slice a l.length c)hrow hx ha(show 4 < 5 by decide)rfl
 refine⟨?_,h3⟩
 have hnd:({ q with ports:=q.ports.set n { x with items:=l,itemsA:=a,itemsC:=c } } :PartD).blocks.Nodup:=by
  rw [e2]
  refine nodup_turn hnd0 fun g hg=> ?_
  rcases hf g(mem_blk.2 hg)with hm | hm
  ·exact⟨fun hq=>hP g(.inl hq)hm,fun hq=>hP g(.inr hq)hm⟩
  ·exact⟨fun hq=>by have:=(h.lt g(hin g(.inl hq))).2; omega,fun hq=>by have:=(h.lt g(hin g(.inr hq))).2; omega⟩
 have hs: ∀ g,g≠gs→(W.setCell⟨gs,n * 5+4,none⟩(.slice a l.length c)).heap[g]? =W.heap[g]? :=fun g hg=>setCell_other hg
 have hsp:q.blocks=(blk q.procA ++ (q.procs.filterMap procN.kid ++ (blk q.semA ++ (blk q.eventA ++ (blk q.boardA ++ (blk q.bufferA ++ q.buffers.filterMap bufferN.kid)))))) ++ (blk q.portA ++ (q.ports.filterMap portN.kid)):=by simp [PartD.blocks,List.append_assoc]
 have hgne: ∀ g,(g∈(blk q.procA ++ (q.procs.filterMap procN.kid ++ (blk q.semA ++ (blk q.eventA ++ (blk q.boardA ++ (blk q.bufferA ++ q.buffers.filterMap bufferN.kid))))))∨g∈(q.ports.filterMap portN.kid))→g≠gs:=fun g hg he=>by
  have h5:=h.nodup
  rw [hsp] at h5
  obtain⟨-,k2,k3⟩:=List.nodup_append.1 h5
  obtain⟨-,-,k6⟩:=List.nodup_append.1 k2
  rcases hg with hg | hg
  ·exact k3 g hg gs(List.mem_append_left _ hgl)he
  ·exact k6 gs hgl g hg he.symm
 have hall: ∀ g,g∈P1∨g∈P2→g≠gs→(W.setCell⟨gs,n * 5+4,none⟩(.slice a l.length c)).heap[g]? =w.heap[g]? :=fun g hg hne=>(hs g hne).trans(hsW g hg)
 refine⟨⟨own_same h.procs fun g hg=>hall g(.inl(by rw [hP1]; simp [hg]))(hgne g(.inl(by simp [hg]))),own_same h.sems fun g hg=>hall g(.inl(by rw [hP1]; simp [hg]))(hgne g(.inl(by simp [hg]))),own_same h.events fun g hg=>hall g(.inl(by rw [hP1]; simp [hg]))(hgne g(.inl(by simp [hg]))),own_same h.boards fun g hg=>hall g(.inl(by rw [hP1]; simp [hg]))(hgne g(.inl(by simp [hg]))),own_same h.buffers fun g hg=>hall g(.inl(by rw [hP1]; simp [hg]))(hgne g(.inl(by simp [hg]))),(by show (W.setCell _ _).ownsRow _ _ _(.slice _(List.set _ _ _).length _)(List.set _ _ _).length _; rw [List.length_set]; exact h1),fun z hz=>(h.mineP z hz).same fun g hg=>hall g(.inl(by rw [hP1]; simp only [List.mem_append]; exact .inl(.inr(.inl(mem_kids.2⟨z,hz,hg⟩)))))(hgne g(.inl(by simp only [List.mem_append]; exact .inr(.inl(mem_kids.2⟨z,hz,hg⟩))))),?_,?_,hnd⟩,⟨hb.os,hb.tape,hb.output,by rw [setCell_size]; exact hb.size,fun g hg hm=>(hs g fun e=>hm(e ▸ hin gs(.inl hgP))).trans(hb.same g hg fun hx=>hm(by rw [e1]; simp only [List.mem_append]; exact .inr(.inl((hkx g).1 hx))))⟩,fun g hg=> ?_⟩
 ·intro z hz
  exact(h.mineF z hz).same fun g hg=>hall g(.inl(by rw [hP1]; simp only [List.mem_append]; exact .inl(.inr(.inr(.inr(.inr(.inr(.inr(.inl(mem_kids.2⟨z,hz,hg⟩))))))))))(hgne g(.inl(by simp only [List.mem_append]; exact .inr(.inr(.inr(.inr(.inr(.inr(mem_kids.2⟨z,hz,hg⟩)))))))))
 ·intro z hz
  rw [hset] at hz
  rcases List.mem_append.1 hz with hz | hz
  ·exact(h.mineQ z(List.mem_of_mem_take hz)).same fun g hg=>hall g(.inl(by rw [hP1]; exact List.mem_append_right _(mem_kids.2⟨z,hz,hg⟩)))(hgne g(.inr(by exact mem_kids.2⟨z,List.mem_of_mem_take hz,hg⟩)))
  ·rcases List.mem_cons.1 hz with rfl | hz
   ·show (W.setCell _ _).ownsRow base _ 1(.slice a l.length c)l.length(strK.flat l)
    exact own_same ho fun g hg=>hs g fun e=>by
     rcases hf g hg with h7 | h7
     ·exact hP gs(.inl hgP)(e ▸ h7)
     ·have:=(h.lt gs(hin gs(.inl hgP))).2; omega
   ·exact(h.mineQ z(List.mem_of_mem_drop hz)).same fun g hg=>hall g(.inr(by rw [hP2]; exact mem_kids.2⟨z,hz,hg⟩))(hgne g(.inr(by exact mem_kids.2⟨z,List.mem_of_mem_drop hz,hg⟩)))
 ·rw [e2] at hg
  rcases List.mem_append.1 hg with hg | hg
  ·exact .inl(hin g(.inl hg))
  ·rcases List.mem_append.1 hg with hg | hg
   ·exact(hf g hg).imp_left fun h7=>by rw [e1]; simp only [List.mem_append]; exact .inr(.inl((hkx g).1 h7))
   ·exact .inl(hin g(.inr hg))
theorem own_kid {m ga gp g:Nat} {y:BufferD} (h:PartOwn W base q)(hy:q.buffers[m]? =some y)(hga:q.bufferA=some⟨ga,0,none⟩)(hgp:q.procA=some⟨gp,0,none⟩)(hg:g∈blk y.itemsA):g∈q.blocks∧g≠ga∧g≠gp∧ga≠gp:=by
 have hk:g∈q.buffers.filterMap bufferN.kid:=mem_kids.2⟨y,List.mem_of_getElem? hy,mem_blk.1 hg⟩
 have h1:=h.nodup
 have e:q.blocks=blk q.procA ++ ((q.procs.filterMap procN.kid ++ (blk q.semA ++ (blk q.eventA ++ blk q.boardA))) ++ (blk q.bufferA ++ (q.buffers.filterMap bufferN.kid ++ (blk q.portA ++ q.ports.filterMap portN.kid)))):=by simp [PartD.blocks,List.append_assoc]
 rw [e] at h1
 obtain⟨-,h2,h3⟩:=List.nodup_append.1 h1
 obtain⟨-,h4,-⟩:=List.nodup_append.1 h2
 obtain⟨-,-,h5⟩:=List.nodup_append.1 h4
 have ma:ga∈blk q.bufferA:=by rw [hga]; simp [blk]
 have mp:gp∈blk q.procA:=by rw [hgp]; simp [blk]
 exact⟨by rw [e]; simp only [List.mem_append]; exact .inr(.inr(.inr(.inl hk))),fun e=>h5 ga ma g(List.mem_append_left _ hk)e.symm,fun e=>h3 gp mp g(by simp only [List.mem_append]; exact .inr(.inr(.inl hk)))e.symm,fun e=>h3 gp mp ga(by simp only [List.mem_append]; exact .inr(.inl ma))e.symm⟩
theorem itemsBuffer {x:BufferD} {l:List ByteArray} {a:Option Addr} {c:Nat} {N:Int} {ok:BufferP→Bool} {last:Int} (hr:thingsB(·.id)ok last q.pure.buffers=true)(hx:q.buffers[n]? =some x)(hN:x.id=N):({ q with buffers:=q.buffers.set n { x with items:=l,itemsA:=a,itemsC:=c } } :PartD).pure=bufferUp N l q.pure:=by
 have hx':q.pure.buffers[n]? =some x.toBufferP:=by show (q.buffers.map(·.toBufferP))[n]? =_; rw [List.getElem?_map,hx]; rfl
 unfold bufferUp
 rw [turnA_set(num:=fun x:BufferP=>x.id)(things_rise hr).2 hx' hN]
 show ({ q.pure with buffers:=(q.buffers.set n { x with items:=l,itemsA:=a,itemsC:=c }).map(·.toBufferP) } :PartP)=_
 rw [List.map_set]
 rfl
theorem itemsPort {x:PortD} {l:List ByteArray} {a:Option Addr} {c:Nat} {N:Int} {ok:PortP→Bool} {last:Int} (hr:thingsB(·.id)ok last q.pure.ports=true)(hx:q.ports[n]? =some x)(hN:x.id=N):({ q with ports:=q.ports.set n { x with items:=l,itemsA:=a,itemsC:=c } } :PartD).pure=portUp N l q.pure:=by
 have hx':q.pure.ports[n]? =some x.toPortP:=by show (q.ports.map(·.toPortP))[n]? =_; rw [List.getElem?_map,hx]; rfl
 unfold portUp
 rw [turnA_set(num:=fun x:PortP=>x.id)(things_rise hr).2 hx' hN]
 show ({ q.pure with ports:=(q.ports.set n { x with items:=l,itemsA:=a,itemsC:=c }).map(·.toPortP) } :PartP)=_
 rw [List.map_set]
 rfl
end
end Go.Proofs.YtkbcplnlehdjfaaGreat
