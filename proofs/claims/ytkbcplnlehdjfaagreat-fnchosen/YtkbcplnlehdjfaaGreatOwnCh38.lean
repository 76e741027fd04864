/- What the proof leans on, part 38: TkEvent, TkProc. -/
import Derived.Test.YtkbcplnlehdjfaaGreatOwnCh20
import Derived.Test.YtkbcplnlehdjfaaGreatOwnCh36
import Derived.Deep.LoopGhost
import Derived.Laws.Rows
import Derived.Deep.Cut
set_option maxRecDepth 100000
set_option maxHeartbeats 8000000

namespace Go.Proofs.YtkbcplnlehdjfaaGreat
open Go.RowKit Go.Maps
attribute [local go_sem ↓] Go.wp_at_zero Go.wp_at_succ
theorem l5Await_any(q:PartD)(n base:Nat)(x:ProcD)(now:Int)(o:OpD)(w:World)(h:PartOwn w base q)(hb:base≤w.heap.size)(hr:PartR q.pure)(hx:q.procs[n]? =some x)(hs:x.state=1)(hn:q.next≤999999990)(hnow:0≤now∧now≤1000000000)(ho:opOk o=true)(hk:o.1=7):
  Calls Tryz.prog 234 #[.agg q.cells,.int .i64 n,.agg(opC o),.int .i64 now] w(Gives w base q(eventsP o now x.id q.pure)):=by
 obtain⟨-,f1,f2,f3,f4⟩:=op_fields ho
 have hM:=inB_iff.1 f2
 obtain⟨k,N,M,s⟩:=o
 simp only at hk hM f1 f3 f4
 subst hk
 have HR:Hid(PartR q.pure∧q.procs[n]? =some x∧x.state=1∧q.next≤999999990∧(0≤now∧now≤1000000000)∧(-1≤M∧M≤1000)):=⟨hr,hx,hs,hn,hnow,hM⟩
 have HF:Hid(q.procs.length≤6∧q.sems.length≤5∧q.events.length≤5∧q.boards.length≤5∧q.buffers.length≤5∧q.ports.length≤5):=part_lens hr
 clear f2 hr hx hs hn hnow hM ho
 have S:=hided(FO.start(o:=(7,N,M,s))h hb)
 clear h hb
 go_enter Tryz.func234,Tryz.ntmps234
 go_upto_region 1 with fail
 generalize ((w.alloc(.cells q.cells 32)).alloc(.cells(opC(7,N,M,s))134)).alloc(.cells zero8 32)=A at *
 obtain⟨-,o1,-,-⟩:=S.out.op.cells
 simp only at o1
 have hcall:=l3Sem_any q N A(by have:=HF.out; omega)S.out.fr.own.at
 go_wp2_with (refine ldP 4 w.heap.size q.cells S.out.fr.box ?_)
 refine hcall.mono ?_
 clear hcall
 rintro e A2⟨rfl,hb2⟩
 replace S:=hided(S.out.reads hb2)
 clear hb2 o1
 generalize place(q.sems.map(fun x=>x.id))N 0=z0 at *
 obtain⟨o0,o1,-,-⟩:=S.out.op.cells
 simp only at o0 o1
 have hpf:=place_findA(num:=fun x:EventD=>x.id)N q.events 0
 have hcall:=l3Event_any q N A2(by have:=HF.out; omega)S.out.fr.own.at
 generalize place(q.events.map(fun x=>x.id))N 0=z at *
 go_wp2_with (refine ldP 4 w.heap.size q.cells S.out.fr.box ?_)
 refine hcall.mono ?_
 clear hcall
 rintro e A3⟨rfl,hb2⟩
 replace S:=hided(S.out.reads hb2)
 clear hb2 o0 o1
 obtain⟨o0,-,-,-⟩:=S.out.op.cells
 simp only at o0
 rcases hpf with ⟨hz,hf⟩ | ⟨m,y,hz,hm,hid,hf⟩
 ·subst hz
  have HE:Hid(eventsP(7,N,M,s)now x.id q.pure=pastAt 3 x.id q.pure):=by show eventsP(7,N,M,s)now x.id q.pure=_; unfold eventsP; rw [show findA(fun x:EventD=>x.id)N q.pure.events=none from hf]
  clear hf
  have hcall:=past_gives(n:=n)3 S.out.fr.own S.out.low HR.out.1 HR.out.2.1(by rw [HR.out.2.2.1]; decide)
  go_wp2_with (refine ldP 4 w.heap.size q.cells S.out.fr.box ?_)
  refine hcall.mono ?_
  clear hcall
  rintro e A2⟨q2,rfl,hp,ht⟩
  replace S:=hided(S.out.call ht)
  have HP:Hid(q2.pure=_):=hp
  clear hp ht
  go_wp2_with (refine stP 8 32(w.heap.size+2)q2.cells S.out.an ?_)
  refine rtP Tryz.results234(w.heap.size+2)q2.cells S.out.an ?_
  exact⟨q2,rfl,HP.out.trans HE.out.symm,S.out.done _⟩
 rw [Nat.zero_add] at hz
 subst hz
 have dz:decide((m:Int) < 0)=false:=decide_eq_false(by omega)
 have HM:Hid(q.events[m]? =some y∧y.id=N∧findA(fun x:EventD=>x.id)N q.events=some y):=⟨hm,hid,hf⟩
 have hml:=(List.getElem?_eq_some_iff.1 hm).1
 have j0:(0:Int)≤(m:Int):=by omega
 have j1:(m:Int) < (q.events.length:Int):=by omega
 obtain⟨ga,hga,hat⟩:=event_at S.out.fr.own.at.2.2.1 hm
 have m4:=S.out.fr.box.cells.2.2.2.2.1
 rw [hga] at m4
 have HG:Hid(q.eventA=some⟨ga,0,none⟩):=hga
 have d1:=hat.2
 clear hm hid hf hml hat hga
 cases hu:y.up
 ·rw [hu] at d1
  have HE:Hid(eventsP(7,N,M,s)now x.id q.pure=orAt 4(7,N,M,s)now x.id q.pure):=by show eventsP(7,N,M,s)now x.id q.pure=_; unfold eventsP; rw [show findA(fun x:EventD=>x.id)N q.pure.events=some y from HM.out.2.2]; simp [hu]
  clear hu
  have hcall:=l5Or_any q n base x 4 now(7,N,M,s)A3 S.out.fr.own S.out.low HR.out.1 HR.out.2.1(by rw [HR.out.2.2.1]; decide)(by have:=HR.out.2.2.2.1; omega)HR.out.2.2.2.2.1 HR.out.2.2.2.2.2
  go_wp2_with (first | (refine ldP 4 w.heap.size q.cells S.out.fr.box ?_) | (refine wpList_load_row rfl 134(.tmp 6)rfl(w.heap.size+1)(by rfl)134(opC(7,N,M,s))(0,0)_ S.out.op Tryz.underlying134 rfl(by kernel_rfl) ?_))
  refine hcall.mono ?_
  clear hcall
  rintro e A2⟨q2,rfl,hp,ht⟩
  replace S:=hided(S.out.call ht)
  have HP:Hid(q2.pure=_):=hp
  clear hp ht
  go_wp2_with (refine stP 8 142(w.heap.size+2)q2.cells S.out.an ?_)
  refine rtP Tryz.results234(w.heap.size+2)q2.cells S.out.an ?_
  exact⟨q2,rfl,HP.out.trans HE.out.symm,S.out.done _⟩
 ·rw [hu] at d1
  have HE:Hid(eventsP(7,N,M,s)now x.id q.pure=pastAt 0 x.id q.pure):=by show eventsP(7,N,M,s)now x.id q.pure=_; unfold eventsP; rw [show findA(fun x:EventD=>x.id)N q.pure.events=some y from HM.out.2.2]; simp [hu]
  clear hu
  have hcall:=past_gives(n:=n)0 S.out.fr.own S.out.low HR.out.1 HR.out.2.1(by rw [HR.out.2.2.1]; decide)
  go_wp2_with (refine ldP 4 w.heap.size q.cells S.out.fr.box ?_)
  refine hcall.mono ?_
  clear hcall
  rintro e A2⟨q2,rfl,hp,ht⟩
  replace S:=hided(S.out.call ht)
  have HP:Hid(q2.pure=_):=hp
  clear hp ht
  go_wp2_with (refine stP 8 145(w.heap.size+2)q2.cells S.out.an ?_)
  refine rtP Tryz.results234(w.heap.size+2)q2.cells S.out.an ?_
  exact⟨q2,rfl,HP.out.trans HE.out.symm,S.out.done _⟩
theorem l5Reset_any(q:PartD)(n base:Nat)(x:ProcD)(now:Int)(o:OpD)(w:World)(h:PartOwn w base q)(hb:base≤w.heap.size)(hr:PartR q.pure)(hx:q.procs[n]? =some x)(hs:x.state=1)(hn:q.next≤999999990)(hnow:0≤now∧now≤1000000000)(ho:opOk o=true)(hk:o.1=6):
  Calls Tryz.prog 234 #[.agg q.cells,.int .i64 n,.agg(opC o),.int .i64 now] w(Gives w base q(eventsP o now x.id q.pure)):=by
 obtain⟨-,f1,f2,f3,f4⟩:=op_fields ho
 have hM:=inB_iff.1 f2
 obtain⟨k,N,M,s⟩:=o
 simp only at hk hM f1 f3 f4
 subst hk
 have HR:Hid(PartR q.pure∧q.procs[n]? =some x∧x.state=1∧q.next≤999999990∧(0≤now∧now≤1000000000)∧(-1≤M∧M≤1000)):=⟨hr,hx,hs,hn,hnow,hM⟩
 have HF:Hid(q.procs.length≤6∧q.sems.length≤5∧q.events.length≤5∧q.boards.length≤5∧q.buffers.length≤5∧q.ports.length≤5):=part_lens hr
 clear f2 hr hx hs hn hnow hM ho
 have S:=hided(FO.start(o:=(6,N,M,s))h hb)
 clear h hb
 go_enter Tryz.func234,Tryz.ntmps234
 go_upto_region 1 with fail
 generalize ((w.alloc(.cells q.cells 32)).alloc(.cells(opC(6,N,M,s))134)).alloc(.cells zero8 32)=A at *
 obtain⟨-,o1,-,-⟩:=S.out.op.cells
 simp only at o1
 have hcall:=l3Sem_any q N A(by have:=HF.out; omega)S.out.fr.own.at
 go_wp2_with (refine ldP 4 w.heap.size q.cells S.out.fr.box ?_)
 refine hcall.mono ?_
 clear hcall
 rintro e A2⟨rfl,hb2⟩
 replace S:=hided(S.out.reads hb2)
 clear hb2 o1
 generalize place(q.sems.map(fun x=>x.id))N 0=z0 at *
 obtain⟨o0,o1,-,-⟩:=S.out.op.cells
 simp only at o0 o1
 have hpf:=place_findA(num:=fun x:EventD=>x.id)N q.events 0
 have hcall:=l3Event_any q N A2(by have:=HF.out; omega)S.out.fr.own.at
 generalize place(q.events.map(fun x=>x.id))N 0=z at *
 go_wp2_with (refine ldP 4 w.heap.size q.cells S.out.fr.box ?_)
 refine hcall.mono ?_
 clear hcall
 rintro e A3⟨rfl,hb2⟩
 replace S:=hided(S.out.reads hb2)
 clear hb2 o0 o1
 obtain⟨o0,-,-,-⟩:=S.out.op.cells
 simp only at o0
 rcases hpf with ⟨hz,hf⟩ | ⟨m,y,hz,hm,hid,hf⟩
 ·subst hz
  have HE:Hid(eventsP(6,N,M,s)now x.id q.pure=pastAt 3 x.id q.pure):=by show eventsP(6,N,M,s)now x.id q.pure=_; unfold eventsP; rw [show findA(fun x:EventD=>x.id)N q.pure.events=none from hf]
  clear hf
  have hcall:=past_gives(n:=n)3 S.out.fr.own S.out.low HR.out.1 HR.out.2.1(by rw [HR.out.2.2.1]; decide)
  go_wp2_with (refine ldP 4 w.heap.size q.cells S.out.fr.box ?_)
  refine hcall.mono ?_
  clear hcall
  rintro e A2⟨q2,rfl,hp,ht⟩
  replace S:=hided(S.out.call ht)
  have HP:Hid(q2.pure=_):=hp
  clear hp ht
  go_wp2_with (refine stP 8 32(w.heap.size+2)q2.cells S.out.an ?_)
  refine rtP Tryz.results234(w.heap.size+2)q2.cells S.out.an ?_
  exact⟨q2,rfl,HP.out.trans HE.out.symm,S.out.done _⟩
 rw [Nat.zero_add] at hz
 subst hz
 have dz:decide((m:Int) < 0)=false:=decide_eq_false(by omega)
 have HM:Hid(q.events[m]? =some y∧y.id=N∧findA(fun x:EventD=>x.id)N q.events=some y):=⟨hm,hid,hf⟩
 have hml:=(List.getElem?_eq_some_iff.1 hm).1
 have j0:(0:Int)≤(m:Int):=by omega
 have j1:(m:Int) < (q.events.length:Int):=by omega
 obtain⟨ga,hga,hat⟩:=event_at S.out.fr.own.at.2.2.1 hm
 have m4:=S.out.fr.box.cells.2.2.2.2.1
 rw [hga] at m4
 have HG:Hid(q.eventA=some⟨ga,0,none⟩):=hga
 have HE:Hid(eventsP(6,N,M,s)now x.id q.pure=pastAt 0 x.id(eventUp N false q.pure)):=by show eventsP(6,N,M,s)now x.id q.pure=_; unfold eventsP; rw [show findA(fun x:EventD=>x.id)N q.pure.events=some y from HM.out.2.2]; rfl
 clear hm hid hf hml hat hga
 obtain⟨s1,⟨u,c⟩,f⟩:=own_setEvent(n:=m)(j:=1)(v:= .bool false)(y:= { y with up:=false })S.out.fr.own HM.out.1 HG.out(by decide)rfl
 replace S:=hided(S.out.call s1)
 clear s1
 go_upto_region 29 with fail
 generalize A3.setCell⟨ga,m * 2+1,none⟩(.bool false)=C at *
 clear m4 c f u dz j0 j1 o0
 have hq:({ q with events:=q.events.set m { y with up:=false } } :PartD).pure=eventUp N false q.pure:=by show ({ q.pure with events:=q.events.set m { y with up:=false } } :PartP)=_; unfold eventUp; rw [turnA_set(num:=fun x:EventD=>x.id)(things_rise HR.out.1.events).2 HM.out.1 HM.out.2.1]; rfl
 have hqc:PartD.cells({ q with events:=q.events.set m { y with up:=false } } :PartD)=q.cells:=by unfold PartD.cells; simp
 have hr2:PartR(eventUp N false q.pure):=eventUp_right HR.out.1
 rw [← hq] at hr2
 have hcall:=past_gives(n:=n)0 S.out.fr.own S.out.low hr2 HR.out.2.1(by rw [HR.out.2.2.1]; decide)
 rw [hq,hqc] at hcall
 clear hq hqc hr2
 go_wp2_with (refine ldP 4 w.heap.size q.cells S.out.fr.box ?_)
 refine hcall.mono ?_
 clear hcall
 rintro e A2⟨q2,rfl,hp,ht⟩
 replace S:=hided(S.out.call ht)
 have HP:Hid(q2.pure=_):=hp
 clear hp ht
 go_wp2_with (refine stP 8 145(w.heap.size+2)q2.cells S.out.an ?_)
 refine rtP Tryz.results234(w.heap.size+2)q2.cells S.out.an ?_
 exact⟨q2,rfl,HP.out.trans HE.out.symm,S.out.done _⟩
theorem l5Set_any(q:PartD)(n base:Nat)(x:ProcD)(now:Int)(o:OpD)(w:World)(h:PartOwn w base q)(hb:base≤w.heap.size)(hr:PartR q.pure)(hx:q.procs[n]? =some x)(hs:x.state=1)(hn:q.next≤999999990)(hnow:0≤now∧now≤1000000000)(ho:opOk o=true)(hk:o.1=5):
  Calls Tryz.prog 234 #[.agg q.cells,.int .i64 n,.agg(opC o),.int .i64 now] w(Gives w base q(eventsP o now x.id q.pure)):=by
 obtain⟨-,f1,f2,f3,f4⟩:=op_fields ho
 have hM:=inB_iff.1 f2
 obtain⟨k,N,M,s⟩:=o
 simp only at hk hM f1 f3 f4
 subst hk
 have HR:Hid(PartR q.pure∧q.procs[n]? =some x∧x.state=1∧q.next≤999999990∧(0≤now∧now≤1000000000)∧(-1≤M∧M≤1000)):=⟨hr,hx,hs,hn,hnow,hM⟩
 have HF:Hid(q.procs.length≤6∧q.sems.length≤5∧q.events.length≤5∧q.boards.length≤5∧q.buffers.length≤5∧q.ports.length≤5):=part_lens hr
 clear f2 hr hx hs hn hnow hM ho
 have S:=hided(FO.start(o:=(5,N,M,s))h hb)
 clear h hb
 go_enter Tryz.func234,Tryz.ntmps234
 go_upto_region 1 with fail
 generalize ((w.alloc(.cells q.cells 32)).alloc(.cells(opC(5,N,M,s))134)).alloc(.cells zero8 32)=A at *
 obtain⟨-,o1,-,-⟩:=S.out.op.cells
 simp only at o1
 have hcall:=l3Sem_any q N A(by have:=HF.out; omega)S.out.fr.own.at
 go_wp2_with (refine ldP 4 w.heap.size q.cells S.out.fr.box ?_)
 refine hcall.mono ?_
 clear hcall
 rintro e A2⟨rfl,hb2⟩
 replace S:=hided(S.out.reads hb2)
 clear hb2 o1
 generalize place(q.sems.map(fun x=>x.id))N 0=z0 at *
 obtain⟨o0,o1,-,-⟩:=S.out.op.cells
 simp only at o0 o1
 have hpf:=place_findA(num:=fun x:EventD=>x.id)N q.events 0
 have hcall:=l3Event_any q N A2(by have:=HF.out; omega)S.out.fr.own.at
 generalize place(q.events.map(fun x=>x.id))N 0=z at *
 go_wp2_with (refine ldP 4 w.heap.size q.cells S.out.fr.box ?_)
 refine hcall.mono ?_
 clear hcall
 rintro e A3⟨rfl,hb2⟩
 replace S:=hided(S.out.reads hb2)
 clear hb2 o0 o1
 obtain⟨o0,o1,-,-⟩:=S.out.op.cells
 simp only at o0 o1
 rcases hpf with ⟨hz,hf⟩ | ⟨m,y,hz,hm,hid,hf⟩
 ·subst hz
  have HE:Hid(eventsP(5,N,M,s)now x.id q.pure=pastAt 3 x.id q.pure):=by show eventsP(5,N,M,s)now x.id q.pure=_; unfold eventsP; rw [show findA(fun x:EventD=>x.id)N q.pure.events=none from hf]
  clear hf
  have hcall:=past_gives(n:=n)3 S.out.fr.own S.out.low HR.out.1 HR.out.2.1(by rw [HR.out.2.2.1]; decide)
  go_wp2_with (refine ldP 4 w.heap.size q.cells S.out.fr.box ?_)
  refine hcall.mono ?_
  clear hcall
  rintro e A2⟨q2,rfl,hp,ht⟩
  replace S:=hided(S.out.call ht)
  have HP:Hid(q2.pure=_):=hp
  clear hp ht
  go_wp2_with (refine stP 8 32(w.heap.size+2)q2.cells S.out.an ?_)
  refine rtP Tryz.results234(w.heap.size+2)q2.cells S.out.an ?_
  exact⟨q2,rfl,HP.out.trans HE.out.symm,S.out.done _⟩
 rw [Nat.zero_add] at hz
 subst hz
 have dz:decide((m:Int) < 0)=false:=decide_eq_false(by omega)
 have HM:Hid(q.events[m]? =some y∧y.id=N∧findA(fun x:EventD=>x.id)N q.events=some y):=⟨hm,hid,hf⟩
 have hml:=(List.getElem?_eq_some_iff.1 hm).1
 have j0:(0:Int)≤(m:Int):=by omega
 have j1:(m:Int) < (q.events.length:Int):=by omega
 obtain⟨ga,hga,hat⟩:=event_at S.out.fr.own.at.2.2.1 hm
 have m4:=S.out.fr.box.cells.2.2.2.2.1
 rw [hga] at m4
 have HG:Hid(q.eventA=some⟨ga,0,none⟩):=hga
 have HE:Hid(eventsP(5,N,M,s)now x.id q.pure=pastAt 0 x.id(wakeAll(fun y=>y)4 N(eventUp N true q.pure))):=by show eventsP(5,N,M,s)now x.id q.pure=_; unfold eventsP; rw [show findA(fun x:EventD=>x.id)N q.pure.events=some y from HM.out.2.2]; rfl
 clear o1
 clear hm hid hf hml hat hga
 obtain⟨s1,⟨u,c⟩,f⟩:=own_setEvent(n:=m)(j:=1)(v:= .bool true)(y:= { y with up:=true })S.out.fr.own HM.out.1 HG.out(by decide)rfl
 replace S:=hided(S.out.call s1)
 clear s1
 go_upto_region 20 with fail
 generalize A3.setCell⟨ga,m * 2+1,none⟩(.bool true)=C at *
 clear m4 c f u dz j0 j1 o0
 have hq:({ q with events:=q.events.set m { y with up:=true } } :PartD).pure=eventUp N true q.pure:=by show ({ q.pure with events:=q.events.set m { y with up:=true } } :PartP)=_; unfold eventUp; rw [turnA_set(num:=fun x:EventD=>x.id)(things_rise HR.out.1.events).2 HM.out.1 HM.out.2.1]; rfl
 have hqc:PartD.cells({ q with events:=q.events.set m { y with up:=true } } :PartD)=q.cells:=by unfold PartD.cells; simp
 have hr2:PartR(eventUp N true q.pure):=eventUp_right HR.out.1
 obtain⟨q1,hq1⟩: ∃ q1:PartD,q1= { q with events:=q.events.set m { y with up:=true } } :=⟨_,rfl⟩
 rw [← hq1] at hq hqc S
 rw [← hq] at hr2
 have HQ:Hid(q1.pure=eventUp N true q.pure∧q1.cells=q.cells∧PartR q1.pure∧q1.procs[n]? =some x∧q1.next≤999999990):=⟨hq,hqc,hr2,by rw [hq1]; exact HR.out.2.1,by rw [hq1]; exact HR.out.2.2.2.1⟩
 have hcall:=l4Best_any q1 4 N C(by have:=(part_lens HQ.out.2.2.1).1; omega)S.out.fr.own.at
 rw [hqc] at hcall
 clear hq hqc hr2 hq1
 obtain⟨-,o1,-,-⟩:=S.out.op.cells
 simp only at o1
 go_wp2_with (refine ldP 4 w.heap.size q.cells S.out.fr.box ?_)
 refine hcall.mono ?_
 clear hcall o1
 rintro e C2⟨⟨z,rfl,hbest⟩,hb2⟩
 replace S:=hided(S.out.reads hb2)
 clear hb2
 have SB:Hid(FO w base q q1 q1(5,N,M,s)C2):=⟨⟨by have h5:=S.out.fr.box; unfold PartBox at h5 ⊢; exact h5.trans(congrArg(fun c=>some(Obj.cells c 32(0,0)))HQ.out.2.1.symm),S.out.fr.own,S.out.fr.kept,S.out.fr.far,S.out.fr.lo,S.out.fr.sz⟩,S.out.op,S.out.an⟩
 have HI:=hided(EvI.start(f:=fun y=>y)(n:=n)(x:=x.toProcP)HQ.out.2.2.1(pure_at HQ.out.2.2.2.1)HQ.out.2.2.2.2 hbest)
 rw [HQ.out.1] at HI
 clear hbest S
 go_wp2_with fail
 go_loopg [11] ((eventUp N true q.pure).procs.filter(waitsB 4 N)).length(fun k b wr=> ∃ (qk:PartD)(z:Int),b= .int .i64 z∧Hid(EvI(fun y=>y)4 N(wakeAll(fun y=>y)4 N(eventUp N true q.pure))n x.toProcP k qk z∧FO w base q qk qk(5,N,M,s)wr))
 case atStart=>exact⟨q1,z,rfl,HI.out,SB.out⟩
 case round=>
  obtain⟨qk,z,rfl,HK⟩:=hrel
  have S:=hided HK.out.2
  rcases best_is HK.out.1.best with ⟨hz,hw⟩ | ⟨i,v,hz,hi,hw⟩
  ·have dz:decide(z≥0)=false:=decide_eq_false(by omega)
   obtain⟨x2,hx2,hxe⟩:=proc_of HK.out.1.pos
   have HT:Hid(pastAt 0 x2.id qk.pure=eventsP(5,N,M,s)now x.id q.pure):=by show pastAt 0 x2.id qk.pure=_; rw [HE.out,← HK.out.1.same,wakeAll_none hw,show x2.id=x.id from congrArg ProcP.id hxe]
   have hcall:=past_gives(n:=n)0 S.out.fr.own S.out.low HK.out.1.r hx2(by rw [show x2.state=x.state from congrArg ProcP.state hxe,HR.out.2.2.1]; decide)
   clear hz hw hx2 hxe
   go_wp2_with (refine ldP 4 w.heap.size qk.cells S.out.fr.box ?_)
   refine hcall.mono ?_
   clear hcall
   rintro e A2⟨q2,rfl,hp,ht⟩
   replace S:=hided(S.out.call ht)
   have HP:Hid(q2.pure=_):=hp
   clear hp ht
   go_wp2_with (refine stP 8 145(w.heap.size+2)q2.cells S.out.an ?_)
   refine rtP Tryz.results234(w.heap.size+2)q2.cells S.out.an ?_
   exact⟨q2,rfl,HP.out.trans HT.out,S.out.done _⟩
  subst hz
  have dz:decide((i:Int)≥0)=true:=decide_eq_true(by omega)
  have HW:Hid(bestW 4 N qk.pure.procs=some v.toProcP∧qk.procs[i]? =some v∧v.state=4):=⟨hw,hi,(bestW_mem hw).2.1⟩
  clear hw hi
  have hcall:=wake_gives(n:=i)S.out.fr.own S.out.low HK.out.1.r HW.out.2.1(by rw [HW.out.2.2]; decide)(by have:=HK.out.1.nx; omega)
  go_wp2_with (refine ldP 4 w.heap.size qk.cells S.out.fr.box ?_)
  refine hcall.mono ?_
  clear hcall dz
  rintro e D⟨q2,rfl,hp,ht⟩
  replace S:=hided(S.out.call ht)
  have HJ:=hided(HK.out.1.step(q2:=q2)HR.out.2.2.1⟨by decide,by decide⟩(.inl rfl)HW.out.1 hp)
  clear hp ht
  have S2:=hided S.out.put
  go_upto_region 22 with (refine stP 4 121(w.heap.size)q2.cells S.out.fr.box ?_)
  generalize D.setRow w.heap.size q2.cells=D2 at *
  clear S
  have S:=S2
  clear S2
  obtain⟨-,o1,-,-⟩:=S.out.op.cells
  simp only at o1
  have hcall:=l4Best_any q2 4 N D2(by have:=(part_lens HJ.out.2.2.1).1; omega)S.out.fr.own.at
  go_wp2_with (refine ldP 4 w.heap.size q2.cells S.out.fr.box ?_)
  refine hcall.mono ?_
  clear hcall o1
  rintro e D3⟨⟨z2,rfl,hbest⟩,hb2⟩
  replace S:=hided(S.out.reads hb2)
  clear hb2
  have HB:=hided(HJ.out.2.2.2 z2 hbest)
  clear hbest
  go_wp2_with fail
  go_roundg(gk - 1)
  case rel=>exact⟨q2,z2,rfl,HB.out,S.out⟩
  case measure=>have:=HJ.out.1; omega
end Go.Proofs.YtkbcplnlehdjfaaGreat

namespace Go.Proofs.YtkbcplnlehdjfaaGreat
open Go.RowKit Go.Maps
attribute [local go_sem ↓] Go.wp_at_zero Go.wp_at_succ
theorem start_again {p:PartP} {y:ProcP} {N:Int} (h:PartR p)(hf:findA(fun x:ProcP=>x.id)N p.procs=some y)(h0:y.state=0)(hn:p.next≤999999990):PartR(startAt N p):=by
 have hnx:=inB_iff.1 h.next
 refine h.turn(nx:=p.next+1)(f:=fun y=> { y with state:=1,since:=p.next })(fun _=>rfl)⟨by omega,by omega⟩fun z hz hi=> ?_
 have e:=only h.procs hf hz hi
 subst e
 obtain⟨-,q1,q2,q3⟩:=h.proc hz
 have q4:=body_of q1
 rw [procB_is,Bool.and_eq_true] at q1
 have q5:=q1.2
 unfold stateB at q5
 rw [if_pos h0] at q5
 simp only [Bool.and_eq_true,decide_eq_true_eq] at q5
 obtain⟨⟨⟨⟨⟨a1,a2⟩,a3⟩,a4⟩,a5⟩,a6⟩:=q5
 have q6:progL z.prog=true:=by
  unfold bodyB at q4
  simp only [Bool.and_eq_true] at q4
  exact q4.1.1.1.2
 refine⟨?_,?_,rfl,.inr(.inr rfl)⟩
 ·rw [procB_is,Bool.and_eq_true]
  refine⟨q4,ready_state q6 rfl⟨by show 0≤z.pc; omega,?_⟩a2 a3 a4 a6⟩
  have:=prog_len q6
  show z.pc < z.prog.length
  omega
 ·unfold turnB
  rw [Bool.or_eq_true]
  exact .inr(inB_true(by show 1≤p.next; omega)(by show p.next≤p.next+1 - 1; omega))
theorem after_other {q q2:PartD} {n:Nat} {k nx:Int} {x:ProcD} {f:ProcP→ProcP} (hx:q.procs[n]? =some x)(hk: ¬ x.id=k)(hp:q2.pure= { q.pure with next:=nx,procs:=turnP k f q.pure.procs }): ∃ x2,q2.procs[n]? =some x2∧x2.toProcP=x.toProcP:=
 proc_of(by rw [hp]; exact turn_at(pure_at hx)hk)
theorem after_start {q q2:PartD} {n:Nat} {N:Int} {x:ProcD} {y:ProcP} (hr:PartR q.pure)(hx:q.procs[n]? =some x)(hs:x.state=1)(hf:findA(fun x:ProcP=>x.id)N q.pure.procs=some y)(h0:y.state=0)(hn:q.next≤999999990)(hp:q2.pure=startAt N q.pure):
  PartR q2.pure∧ ∃ x2,q2.procs[n]? =some x2∧x2.toProcP=x.toProcP:=by
 refine⟨by rw [hp]; exact start_again hr hf h0 hn,after_other hx(fun e=> ?_)hp⟩
 have:=only hr.procs hf(pure_mem hx)e
 rw [← this] at h0
 have h2:x.toProcP.state=1:=hs
 omega
theorem l5Start_any(q:PartD)(n base:Nat)(x:ProcD)(o:OpD)(w:World)(h:PartOwn w base q)(hb:base≤w.heap.size)(hr:PartR q.pure)(hx:q.procs[n]? =some x)(hs:x.state=1)(hn:q.next≤999999990)(ho:opOk o=true)(hk:o.1=15):
  Calls Tryz.prog 238 #[.agg q.cells,.int .i64 n,.agg(opC o)] w(Gives w base q(startP o x.id q.pure)):=by
 obtain⟨-,f1,f2,f3,f4⟩:=op_fields ho
 have hM:=inB_iff.1 f2
 obtain⟨k,N,M,s⟩:=o
 simp only at hk hM f1 f3 f4
 subst hk
 have HR:Hid(PartR q.pure∧q.procs[n]? =some x∧x.state=1∧q.next≤999999990∧(-1≤M∧M≤1000)):=⟨hr,hx,hs,hn,hM⟩
 have HF:Hid(q.procs.length≤6∧q.sems.length≤5∧q.events.length≤5∧q.boards.length≤5∧q.buffers.length≤5∧q.ports.length≤5):=part_lens hr
 clear f2 hr hx hs hn hM ho
 have S:=hided(FO.start(o:=(15,N,M,s))h hb)
 clear h hb
 go_enter Tryz.func238,Tryz.ntmps238
 go_upto_region 1 with fail
 generalize ((w.alloc(.cells q.cells 32)).alloc(.cells(opC(15,N,M,s))134)).alloc(.cells zero8 32)=A at *
 obtain⟨-,o1,-,-⟩:=S.out.op.cells
 simp only at o1
 have hpf:=place_findA(num:=fun x:ProcD=>x.id)N q.procs 0
 have hcall:=l3Proc_any q N A(by have:=HF.out; omega)S.out.fr.own.at
 generalize place(q.procs.map(fun x=>x.id))N 0=z at *
 go_wp2_with (refine ldP 3 w.heap.size q.cells S.out.fr.box ?_)
 refine hcall.mono ?_
 clear hcall
 rintro e A2⟨rfl,hb2⟩
 replace S:=hided(S.out.reads hb2)
 clear hb2 o1
 have hfm:=find_map(num:=fun x:ProcP=>x.id)(num':=fun x:ProcD=>x.id)(g:=fun x:ProcD=>x.toProcP)(fun _=>rfl)(id:=N)q.procs
 rcases hpf with ⟨hz,hf⟩ | ⟨m,y,hz,hm,hid,hf⟩
 ·subst hz
  rw [hf] at hfm
  have HE:Hid(startP(15,N,M,s)x.id q.pure=pastAt 3 x.id q.pure):=by show startP(15,N,M,s)x.id q.pure=_; unfold startP; rw [show findA(fun x:ProcP=>x.id)N q.pure.procs=none from hfm]
  clear hf hfm
  have hcall:=past_gives(n:=n)3 S.out.fr.own S.out.low HR.out.1 HR.out.2.1(by rw [HR.out.2.2.1]; decide)
  go_wp2_with (refine ldP 3 w.heap.size q.cells S.out.fr.box ?_)
  refine hcall.mono ?_
  clear hcall
  rintro e A2⟨q2,rfl,hp,ht⟩
  replace S:=hided(S.out.call ht)
  have HP:Hid(q2.pure=_):=hp
  clear hp ht
  go_wp2_with (refine stP 6 17(w.heap.size+2)q2.cells S.out.an ?_)
  refine rtP Tryz.results238(w.heap.size+2)q2.cells S.out.an ?_
  exact⟨q2,rfl,HP.out.trans HE.out.symm,S.out.done _⟩
 rw [hf] at hfm
 rw [Nat.zero_add] at hz
 subst hz
 have dz:decide((m:Int) < 0)=false:=decide_eq_false(by omega)
 have HM:Hid(q.procs[m]? =some y∧y.id=N∧findA(fun x:ProcP=>x.id)N q.pure.procs=some y.toProcP):=⟨hm,hid,hfm⟩
 have hml:=(List.getElem?_eq_some_iff.1 hm).1
 have j0:(0:Int)≤(m:Int):=by omega
 have j1:(m:Int) < (q.procs.length:Int):=by omega
 obtain⟨gp,hgp,hat⟩:=proc_at S.out.fr.own.at.1 hm
 have HG:Hid(q.procA=some⟨gp,0,none⟩):=hgp
 obtain⟨o0,-,-,-⟩:=S.out.op.cells
 simp only at o0
 have m2:=S.out.fr.box.cells.2.2.1
 rw [hgp] at m2
 have d3:=hat.2.2.2.1
 clear hm hid hf hfm hml hat hgp
 by_cases h0:y.state=0
 rotate_left
 ·have e1:(y.state == 0)=false:=by simp [h0]
  have HE:Hid(startP(15,N,M,s)x.id q.pure=pastAt 1 x.id q.pure):=by show startP(15,N,M,s)x.id q.pure=_; unfold startP; rw [show findA(fun x:ProcP=>x.id)N q.pure.procs=some y.toProcP from HM.out.2.2]; exact if_neg h0
  clear h0
  have hcall:=past_gives(n:=n)1 S.out.fr.own S.out.low HR.out.1 HR.out.2.1(by rw [HR.out.2.2.1]; decide)
  go_wp2_with (refine ldP 3 w.heap.size q.cells S.out.fr.box ?_)
  refine hcall.mono ?_
  clear hcall
  rintro e A2⟨q2,rfl,hp,ht⟩
  replace S:=hided(S.out.call ht)
  have HP:Hid(q2.pure=_):=hp
  clear hp ht
  go_wp2_with (refine stP 6 32(w.heap.size+2)q2.cells S.out.an ?_)
  refine rtP Tryz.results238(w.heap.size+2)q2.cells S.out.an ?_
  exact⟨q2,rfl,HP.out.trans HE.out.symm,S.out.done _⟩
 have e1:(y.state == 0)=true:=by simp [h0]
 have HE:Hid(startP(15,N,M,s)x.id q.pure=pastAt 0 x.id(startAt N q.pure)):=by show startP(15,N,M,s)x.id q.pure=_; unfold startP; rw [show findA(fun x:ProcP=>x.id)N q.pure.procs=some y.toProcP from HM.out.2.2]; exact if_pos h0
 have HN:Hid(y.state=0):=h0
 clear h0
 obtain⟨s1,⟨u,c⟩,f⟩:=own_setProc(n:=m)(j:=3)(v:= .int .i64 1)(y:= { y with state:=1 })S.out.fr.own HM.out.1 HG.out⟨rfl,rfl,rfl⟩(by decide)rfl
 replace S:=hided(S.out.call s1)
 clear s1
 go_upto_region 9 with fail
 generalize A2.setCell⟨gp,m * 12+3,none⟩(.int .i64 1)=C at *
 clear m2 d3 c f u dz e1 o0 j0 j1
 have hq:({ q with procs:=q.procs.set m { y with state:=1 } } :PartD).pure= { q.pure with next:=q.next,procs:=turnP y.id(fun z=> { z with state:=1 })q.pure.procs } :=set_pure(nx:=q.next)HR.out.1.rise HM.out.1 rfl
 have hcall:=place_gives(n:=m)(x:= { y with state:=1 })S.out.fr.own S.out.low(set_rise HR.out.1.rise HM.out.1 rfl)(by show (q.procs.set m _)[m]? =_; rw [List.getElem?_set_self(List.getElem?_eq_some_iff.1 HM.out.1).1])⟨by have h5:=inB_iff.1 HR.out.1.next; have:q.pure.next=q.next:=rfl; show 0≤q.next; omega,by have:=HR.out.2.2.2.1; show q.next≤_; omega⟩
 rw [set_cells(nx:=q.next),hq] at hcall
 have HS:Hid({ q.pure with next:=q.next+1,procs:=turnP y.id(fun z=> { z with since:=q.next })(turnP y.id(fun z=> { z with state:=1 })q.pure.procs) } =startAt N q.pure):=by show _=startAt N q.pure; rw [turn_turn(by intro _; rfl),HM.out.2.1]; rfl
 clear hq
 go_wp2_with (refine ldP 3 w.heap.size q.cells S.out.fr.box ?_)
 refine hcall.mono ?_
 clear hcall
 rintro e C2⟨q2,rfl,hp,ht⟩
 replace S:=hided(S.out.call ht)
 replace hp:=hp.trans HS.out
 obtain⟨hr2,x2,hx2,hxe⟩:=after_start HR.out.1 HR.out.2.1 HR.out.2.2.1 HM.out.2.2 HN.out HR.out.2.2.2.1 hp
 have hcall:=past_gives(n:=n)0 S.out.fr.own S.out.low hr2 hx2(by rw [show x2.state=x.state from congrArg ProcP.state hxe,HR.out.2.2.1]; decide)
 rw [show x2.id=x.id from congrArg ProcP.id hxe,hp,← HE.out] at hcall
 clear hp ht hr2 hx2 hxe
 go_wp2_with fail
 refine hcall.mono ?_
 clear hcall
 rintro e C22⟨q3,rfl,hp,ht⟩
 replace S:=hided(S.out.call ht)
 have HP:Hid(q3.pure=_):=hp
 clear hp ht
 go_wp2_with (refine stP 6 43(w.heap.size+2)q3.cells S.out.an ?_)
 refine rtP Tryz.results238(w.heap.size+2)q3.cells S.out.an ?_
 exact⟨q3,rfl,HP.out,S.out.done _⟩
theorem l5Stop_any(q:PartD)(n base:Nat)(x:ProcD)(o:OpD)(w:World)(h:PartOwn w base q)(hb:base≤w.heap.size)(hr:PartR q.pure)(hx:q.procs[n]? =some x)(hs:x.state=1)(hn:q.next≤999999990)(ho:opOk o=true)(hk:o.1=16):
  Calls Tryz.prog 238 #[.agg q.cells,.int .i64 n,.agg(opC o)] w(Gives w base q(stopP o x.id q.pure)):=by
 obtain⟨-,f1,f2,f3,f4⟩:=op_fields ho
 have hM:=inB_iff.1 f2
 obtain⟨k,N,M,s⟩:=o
 simp only at hk hM f1 f3 f4
 subst hk
 have HR:Hid(PartR q.pure∧q.procs[n]? =some x∧x.state=1∧q.next≤999999990∧(-1≤M∧M≤1000)):=⟨hr,hx,hs,hn,hM⟩
 have HF:Hid(q.procs.length≤6∧q.sems.length≤5∧q.events.length≤5∧q.boards.length≤5∧q.buffers.length≤5∧q.ports.length≤5):=part_lens hr
 clear f2 hr hx hs hn hM ho
 have S:=hided(FO.start(o:=(16,N,M,s))h hb)
 clear h hb
 go_enter Tryz.func238,Tryz.ntmps238
 go_upto_region 1 with fail
 generalize ((w.alloc(.cells q.cells 32)).alloc(.cells(opC(16,N,M,s))134)).alloc(.cells zero8 32)=A at *
 obtain⟨-,o1,-,-⟩:=S.out.op.cells
 simp only at o1
 have hpf:=place_findA(num:=fun x:ProcD=>x.id)N q.procs 0
 have hcall:=l3Proc_any q N A(by have:=HF.out; omega)S.out.fr.own.at
 generalize place(q.procs.map(fun x=>x.id))N 0=z at *
 go_wp2_with (refine ldP 3 w.heap.size q.cells S.out.fr.box ?_)
 refine hcall.mono ?_
 clear hcall
 rintro e A2⟨rfl,hb2⟩
 replace S:=hided(S.out.reads hb2)
 clear hb2 o1
 have hfm:=find_map(num:=fun x:ProcP=>x.id)(num':=fun x:ProcD=>x.id)(g:=fun x:ProcD=>x.toProcP)(fun _=>rfl)(id:=N)q.procs
 rcases hpf with ⟨hz,hf⟩ | ⟨m,y,hz,hm,hid,hf⟩
 ·subst hz
  rw [hf] at hfm
  have HE:Hid(stopP(16,N,M,s)x.id q.pure=pastAt 3 x.id q.pure):=by show stopP(16,N,M,s)x.id q.pure=_; unfold stopP; rw [show findA(fun x:ProcP=>x.id)N q.pure.procs=none from hfm]
  clear hf hfm
  have hcall:=past_gives(n:=n)3 S.out.fr.own S.out.low HR.out.1 HR.out.2.1(by rw [HR.out.2.2.1]; decide)
  go_wp2_with (refine ldP 3 w.heap.size q.cells S.out.fr.box ?_)
  refine hcall.mono ?_
  clear hcall
  rintro e A2⟨q2,rfl,hp,ht⟩
  replace S:=hided(S.out.call ht)
  have HP:Hid(q2.pure=_):=hp
  clear hp ht
  go_wp2_with (refine stP 6 17(w.heap.size+2)q2.cells S.out.an ?_)
  refine rtP Tryz.results238(w.heap.size+2)q2.cells S.out.an ?_
  exact⟨q2,rfl,HP.out.trans HE.out.symm,S.out.done _⟩
 rw [hf] at hfm
 rw [Nat.zero_add] at hz
 subst hz
 have dz:decide((m:Int) < 0)=false:=decide_eq_false(by omega)
 have HM:Hid(q.procs[m]? =some y∧y.id=N∧findA(fun x:ProcP=>x.id)N q.pure.procs=some y.toProcP):=⟨hm,hid,hfm⟩
 have hml:=(List.getElem?_eq_some_iff.1 hm).1
 have j0:(0:Int)≤(m:Int):=by omega
 have j1:(m:Int) < (q.procs.length:Int):=by omega
 obtain⟨gp,hgp,hat⟩:=proc_at S.out.fr.own.at.1 hm
 have HG:Hid(q.procA=some⟨gp,0,none⟩):=hgp
 obtain⟨o0,-,-,-⟩:=S.out.op.cells
 simp only at o0
 have m2:=S.out.fr.box.cells.2.2.1
 rw [hgp] at m2
 have d3:=hat.2.2.2.1
 clear hm hid hf hfm hml hat hgp
 by_cases h0:y.state=0
 ·have e1:(y.state == 0)=true:=by simp [h0]
  have HE:Hid(stopP(16,N,M,s)x.id q.pure=pastAt 1 x.id q.pure):=by show stopP(16,N,M,s)x.id q.pure=_; unfold stopP; rw [show findA(fun x:ProcP=>x.id)N q.pure.procs=some y.toProcP from HM.out.2.2]; exact if_pos h0
  clear h0
  have hcall:=past_gives(n:=n)1 S.out.fr.own S.out.low HR.out.1 HR.out.2.1(by rw [HR.out.2.2.1]; decide)
  go_wp2_with (refine ldP 3 w.heap.size q.cells S.out.fr.box ?_)
  refine hcall.mono ?_
  clear hcall
  rintro e A2⟨q2,rfl,hp,ht⟩
  replace S:=hided(S.out.call ht)
  have HP:Hid(q2.pure=_):=hp
  clear hp ht
  go_wp2_with (refine stP 6 32(w.heap.size+2)q2.cells S.out.an ?_)
  refine rtP Tryz.results238(w.heap.size+2)q2.cells S.out.an ?_
  exact⟨q2,rfl,HP.out.trans HE.out.symm,S.out.done _⟩
 have e1:(y.state == 0)=false:=by simp [h0]
 have HE:Hid(stopP(16,N,M,s)x.id q.pure=if N=x.id then restAt x.id q.pure else pastAt 0 x.id(restAt N q.pure)):=by show stopP(16,N,M,s)x.id q.pure=_; unfold stopP; rw [show findA(fun x:ProcP=>x.id)N q.pure.procs=some y.toProcP from HM.out.2.2]; exact if_neg h0
 clear h0
 go_upto_region 10 with fail
 clear m2 d3 dz e1 o0
 replace S:=hided(S.out.reads(Below.refl _ _).drew)
 have HT:Hid(∀ w1,FO w base q q q(16,N,M,s)w1→StopS w.heap.size gp m q y w1):=fun w1 h1=>by
  obtain⟨g,hg,hat⟩:=proc_at h1.fr.own.at.1 HM.out.1
  rw [HG.out] at hg
  cases hg
  exact⟨h1.m2 HG.out,hat⟩
 refine last_region(fun w1=>StopS w.heap.size gp m q y w1∧Hid(FO w base q q q(16,N,M,s)w1))10(by kernel_rfl)⟨HT.out _ S.out,S⟩ ?_
 clear S
 iterate 8(refine ly 11(v:= ?_)(some _)rfl rfl(by kernel_rfl)(fun _ _ _ h=>h)(does_yield(by kernel_rfl) ?_) ?_; rotate_left; (intro w0 hS0; obtain⟨⟨o2,d0,d1,d2,d3,d4,d5,d6,d7,d8,d9,d10,d11⟩,hH⟩:=hS0; go_simp; try with_reducible rfl); simp only [pt,sb,s0,s1])
 refine ly 11(v:= .agg(restVs y))(some _)rfl rfl(by kernel_rfl)(fun _ _ _ h=>h)(does_call(f:=100)(args:= #[.agg y.row])(by kernel_rfl) ?_ ?_) ?_
 ·intro w0 hS0
  obtain⟨⟨o2,d0,d1,d2,d3,d4,d5,d6,d7,d8,d9,d10,d11⟩,hH⟩:=hS0
  go_simp
  try with_reducible rfl
 ·intro w0 hS0
  refine(l4Dormant_any y w0).mono ?_
  rintro e w2⟨rfl,hb2⟩
  have h6:=hided(hS0.2.out.reads hb2)
  exact⟨rfl,HT.out _ h6.out,h6⟩
 simp only [pt,sb,s0,s1]
 (refine ly 11(v:= ?_)(some _)rfl rfl(by kernel_rfl)(fun _ _ _ h=>h)(does_yield(by kernel_rfl) ?_) ?_; rotate_left; (intro w0 hS0; obtain⟨⟨o2,d0,d1,d2,d3,d4,d5,d6,d7,d8,d9,d10,d11⟩,hH⟩:=hS0; go_simp; try with_reducible rfl); simp only [pt,sb,s0,s1])
 refine last_done rfl(by kernel_rfl)(by kernel_rfl)(by kernel_rfl) ?_
 intro B hS1
 have S:=hS1.2
 obtain⟨hth,hto⟩:=own_rest S.out.fr.own HM.out.1 HG.out
 clear hS1 HT
 replace S:=hided(S.out.call hto)
 clear hto
 refine wp_store_mid 43 _ _ rfl gp(m * 12)(restVs y)rfl rfl hth(by kernel_rfl)(by kernel_rfl) ?_
 generalize B.setCells gp(m * 12)(restVs y).toList=C at *
 clear hth
 obtain⟨q1,hq1⟩: ∃ q1:PartD,q1= { q with procs:=q.procs.set m(restD y) } :=⟨_,rfl⟩
 have HQ:Hid(q1.pure=restAt N q.pure∧q1.cells=q.cells∧PartR q1.pure):=by
  have hq:q1.pure=restAt N q.pure:=by rw [hq1,← HM.out.2.1]; exact set_pure(nx:=q.next)HR.out.1.rise HM.out.1 rfl
  exact⟨hq,by rw [hq1]; exact set_cells(nx:=q.next),by rw [hq]; exact restAt_right HR.out.1⟩
 rw [← hq1] at S
 clear hq1
 have k1:=(List.getElem?_eq_some_iff.1 HR.out.2.1).1
 by_cases hmn:m=n
 ·have e2:((m:Int) == (n:Int))=true:=by simp [hmn]
  have HT:Hid(q1.pure=stopP(16,N,M,s)x.id q.pure):=by
   have e:y=x:=by have h5:=HM.out.1; rw [hmn,HR.out.2.1] at h5; exact(Option.some.inj h5).symm
   have hN:N=x.id:=by rw [← HM.out.2.1,e]
   show q1.pure=_
   rw [HE.out,if_pos hN,HQ.out.1,hN]
  clear hmn k1
  go_wp2_with (first | (refine ldP 3 w.heap.size q.cells S.out.fr.box ?_) | (refine stP 6 57(w.heap.size+2)q.cells S.out.an ?_))
  refine rtP Tryz.results238(w.heap.size+2)q.cells S.out.an ?_
  exact⟨q1,by rw [HQ.out.2.1],HT.out,S.out.done _⟩
 have e2:((m:Int) == (n:Int))=false:=by simp; omega
 have hne: ¬ x.id=N:=fun e=>by
  have h5:=only HR.out.1.procs HM.out.2.2(pure_mem HR.out.2.1)e
  have h6:=HR.out.1.rise
  rw [List.pairwise_iff_getElem] at h6
  obtain⟨i1,i2⟩:=List.getElem?_eq_some_iff.1(pure_at HR.out.2.1)
  obtain⟨i3,i4⟩:=List.getElem?_eq_some_iff.1(pure_at HM.out.1)
  rcases Nat.lt_trichotomy m n with hlt | heq | hgt
  ·have:=h6 m n i3 i1 hlt; rw [i2,i4,h5] at this; omega
  ·exact hmn heq
  ·have:=h6 n m i1 i3 hgt; rw [i2,i4,h5] at this; omega
 have HT:Hid(stopP(16,N,M,s)x.id q.pure=pastAt 0 x.id(restAt N q.pure)):=HE.out.trans(if_neg fun e=>hne e.symm)
 obtain⟨x2,hx2,hxe⟩:=after_other(nx:=q.pure.next)(f:=restP)HR.out.2.1 hne HQ.out.1
 have hcall:=past_gives(n:=n)0 S.out.fr.own S.out.low HQ.out.2.2 hx2(by rw [show x2.state=x.state from congrArg ProcP.state hxe,HR.out.2.2.1]; decide)
 rw [show x2.id=x.id from congrArg ProcP.id hxe,HQ.out.1,HQ.out.2.1,← HT.out] at hcall
 clear hmn hne hx2 hxe k1
 go_wp2_with (refine ldP 3 w.heap.size q.cells S.out.fr.box ?_)
 refine hcall.mono ?_
 clear hcall
 rintro e A2⟨q2,rfl,hp,ht⟩
 replace S:=hided(S.out.call ht)
 have HP:Hid(q2.pure=_):=hp
 clear hp ht
 go_wp2_with (refine stP 6 60(w.heap.size+2)q2.cells S.out.an ?_)
 refine rtP Tryz.results238(w.heap.size+2)q2.cells S.out.an ?_
 exact⟨q2,rfl,HP.out,S.out.done _⟩
end Go.Proofs.YtkbcplnlehdjfaaGreat
