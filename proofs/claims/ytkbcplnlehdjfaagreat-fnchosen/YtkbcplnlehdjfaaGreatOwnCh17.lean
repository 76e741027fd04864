/- What the proof leans on, part 17: OpenA. -/
import Derived.Test.YtkbcplnlehdjfaaGreatOwnCh11
import Derived.Test.YtkbcplnlehdjfaaGreatOwnCh14
import Derived.Test.YtkbcplnlehdjfaaGreatOwnCh16
set_option maxRecDepth 100000
set_option maxHeartbeats 8000000

namespace Go.Proofs.YtkbcplnlehdjfaaGreat
open Go.RowKit Go.Maps
structure OpenD where
 q:Opn
 lp:List(ProcD × Nat)
 ls:List(SemD × Nat)
 le:List(EventD × Nat)
 lb:List(BoardD × Nat)
 lf:List(BufferD × Nat)
 lq:List(PortD × Nat)
def OpenD.pure(S:OpenD):PartP:=⟨S.q.id,S.q.next,S.lp.map(·.1.toProcP),S.ls.map(·.1),S.le.map(·.1),S.lb.map(·.1),S.lf.map(·.1.toBufferP),S.lq.map(·.1.toPortP)⟩
def OpenD.boxes(S:OpenD):List Nat:=(S.q.bp :: S.lp.map(·.2)) ++ ((S.q.bs :: S.ls.map(·.2)) ++ ((S.q.be :: S.le.map(·.2)) ++ ((S.q.bb :: S.lb.map(·.2)) ++ ((S.q.bf :: S.lf.map(·.2)) ++ (S.q.bq :: S.lq.map(·.2))))))
def OpenD.kids(S:OpenD):List Nat:=YtkbcplnlehdjfaaGreat.kids procN S.lp ++ (YtkbcplnlehdjfaaGreat.kids bufferN S.lf ++ YtkbcplnlehdjfaaGreat.kids portN S.lq)
structure OpenAt(w:World)(base o:Nat)(S:OpenD):Prop where
 opn:OpenBox w o S.q
 procs:Shelf procVs(fun x:ProcD=>x.id)43 w base S.q.bp S.lp
 sems:Shelf semVs(fun x:SemD=>x.id)49 w base S.q.bs S.ls
 events:Shelf eventVs(fun x:EventD=>x.id)138 w base S.q.be S.le
 boards:Shelf boardVs(fun x:BoardD=>x.id)141 w base S.q.bb S.lb
 buffers:Shelf bufferVs(fun x:BufferD=>x.id)144 w base S.q.bf S.lf
 ports:Shelf portVs(fun x:PortD=>x.id)61 w base S.q.bq S.lq
 mineP: ∀ p∈S.lp,procN.Mine w base p.1
 mineF: ∀ p∈S.lf,bufferN.Mine w base p.1
 mineQ: ∀ p∈S.lq,portN.Mine w base p.1
 nodup:(o :: (S.boxes ++ S.kids)).Nodup
 low:base≤o
section
variable {α:Type} {vs:α→Array Value} {num:α→Int} {T:TypeId}
def ShRes(vs:α→Array Value)(num:α→Int)(T:TypeId)(W:World)(lo hi:Nat)(most:Int)(ok:Bool)(list:List α)(m:Int)(mb:Option Nat):Prop:=
 ok=true→m=most∧ ∃ b l,mb=some b∧l.map(·.1)=list∧Shelf vs num T W lo b l∧ ∀ g∈b :: l.map(·.2),g < hi
theorem ShRes.below {W W':World} {lo hi:Nat} {most:Int} {ok:Bool} {list:List α} {m:Int} {mb:Option Nat} (h:ShRes vs num T W lo hi most ok list m mb)(hb:Below W.heap.size W W'):ShRes vs num T W' lo hi most ok list m mb:=fun e=>by
 obtain⟨h1,b,l,h2,h3,h4,h5⟩:=h e
 exact⟨h1,b,l,h2,h3,h4.below hb,h5⟩
theorem ShelfEnds.res {w w':World} {most:Int} {ok:Bool} {list:List α} {e:Ending} (h:ShelfEnds vs num T w most ok list e w'):
  ∃ (okv:Bool)(m:Int)(mb:Option Nat),e= .returned(.tuple #[.agg #[.int .i64 m,.map mb],.bool okv])∧okv=ok∧Below w.heap.size w w'∧ShRes vs num T w' w.heap.size w'.heap.size most okv list m mb:=by
 obtain⟨hb,⟨h1,h2⟩ | ⟨h1,b,l,h2,h3,h4⟩⟩:=h
 ·exact⟨false,0,none,h2,h1.symm,hb,fun e=>by cases e⟩
 ·exact⟨true,most,some b,h2,h1.symm,hb,fun _=>⟨rfl,b,l,rfl,h3,h4,h4.lt⟩⟩
end
structure Opg(w wr:World)(p:PartD)(l:List(Nat × Int × Option Nat)):Prop where
 bel:Below w.heap.size w wr
 part:PartBox wr w.heap.size p
 shs: ∀ q∈l,∃ t,wr.heap[q.1]? =some(.cells #[.int .i64 q.2.1,.map q.2.2] t(0,0))
theorem Opg.start(w:World)(p:PartD):Opg w(w.alloc(.cells p.cells 32))p [] :=
 ⟨(Below.refl _ _).alloc(Nat.le_refl _)_,heap_alloc_new _ _,fun q hq=>absurd hq(by simp)⟩
theorem Opg.below {w wr w':World} {p:PartD} {l:List(Nat × Int × Option Nat)} (h:Opg w wr p l)(hb:Below wr.heap.size wr w'):Opg w w' p l:=
 ⟨h.bel.trans(hb.mono h.bel.size),h.part.below hb,fun q hq=>by
  obtain⟨t,h1⟩:=h.shs q hq
  exact⟨t,(hb.block _(Array.getElem?_eq_some_iff.1 h1).1).trans h1⟩⟩
theorem Opg.push {w wr w1:World} {p:PartD} {m:Int} {mb:Option Nat} {l:List(Nat × Int × Option Nat)} (h:Opg w wr p l)(hb:Below wr.heap.size wr w1)(t:TypeId):
  Opg w(w1.alloc(.cells #[.int .i64 m,.map mb] t))p((w1.heap.size,m,mb) :: l):=by
 have h1:=h.below hb
 have h2:Below w1.heap.size w1(w1.alloc(.cells #[.int .i64 m,.map mb] t)):=(Below.refl _ _).alloc(Nat.le_refl _)_
 have h3:=h1.below h2
 refine⟨h3.bel,h3.part,fun q hq=> ?_⟩
 rcases List.mem_cons.1 hq with rfl | hq
 ·exact⟨t,heap_alloc_new _ _⟩
 ·exact h3.shs q hq
theorem Opg.c0 {w wr:World} {p:PartD} {l:List(Nat × Int × Option Nat)} (h:Opg w wr p l) {B:Nat} {m:Int} {mb:Option Nat} (hq:(B,m,mb)∈l):wr.cell? ⟨B,0,none⟩=some(.int .i64 m):=by
 obtain⟨t,h1⟩:=h.shs _ hq
 simp only at h1
 simp [World.cell?,h1]
theorem Opg.c1 {w wr:World} {p:PartD} {l:List(Nat × Int × Option Nat)} (h:Opg w wr p l) {B:Nat} {m:Int} {mb:Option Nat} (hq:(B,m,mb)∈l):wr.cell? ⟨B,1,none⟩=some(.map mb):=by
 obtain⟨t,h1⟩:=h.shs _ hq
 simp only at h1
 simp [World.cell?,h1]
structure PartD.Good(w:World)(p:PartD):Prop where
 at':PartD.At w p
 short:p.Short
 procs: ∀ x∈p.procs,x.Short∧x.Wf
 sems: ∀ x∈p.sems,(Lit.int .i64 x.id).wf=true
 events: ∀ x∈p.events,(Lit.int .i64 x.id).wf=true
 boards: ∀ x∈p.boards,(Lit.int .i64 x.id).wf=true∧x.text.size≤1048576
 buffers: ∀ x∈p.buffers,(Lit.int .i64 x.id).wf=true∧x.items.length≤1048576∧ ∀ s∈x.items,s.size≤1048576
 ports: ∀ x∈p.ports,(Lit.int .i64 x.id).wf=true∧x.items.length≤1048576∧ ∀ s∈x.items,s.size≤1048576
 lowProc: ∀ x∈p.procs,∀ g,procN.kid x=some g→g < w.heap.size
 lowBuffer: ∀ x∈p.buffers,∀ g,bufferN.kid x=some g→g < w.heap.size
 lowPort: ∀ x∈p.ports,∀ g,portN.kid x=some g→g < w.heap.size
theorem PartD.Good.below {w w':World} {p:PartD} (h:p.Good w)(hb:Below w.heap.size w w'):p.Good w':=⟨h.at'.below hb,h.short,h.procs,h.sems,h.events,h.boards,h.buffers,h.ports,fun x hx g hk=>Nat.lt_of_lt_of_le(h.lowProc x hx g hk)hb.size,fun x hx g hk=>Nat.lt_of_lt_of_le(h.lowBuffer x hx g hk)hb.size,fun x hx g hk=>Nat.lt_of_lt_of_le(h.lowPort x hx g hk)hb.size⟩
theorem PartD.Good.fitProc {w:World} {p:PartD} (h:p.Good w): ∀ x∈p.procs,ProcFit w x:=fun x hx=>⟨(h.procs x hx).1,h.at'.1.2 x hx(x.progA,opK.flat x.prog)(by simp [procK])⟩
theorem PartD.Good.fitSem {w:World} {p:PartD} (_:p.Good w): ∀ x∈p.sems,SemFit w x:=fun _ _=>trivial
theorem PartD.Good.fitEvent {w:World} {p:PartD} (_:p.Good w): ∀ x∈p.events,EventFit w x:=fun _ _=>trivial
theorem PartD.Good.fitBoard {w:World} {p:PartD} (h:p.Good w): ∀ x∈p.boards,BoardFit w x:=fun x hx=>(h.boards x hx).2
theorem PartD.Good.fitBuffer {w:World} {p:PartD} (h:p.Good w): ∀ x∈p.buffers,BufferFit w x:=fun x hx=>⟨(h.buffers x hx).2.1,(h.buffers x hx).2.2,h.at'.2.2.2.2.1.2 x hx(x.itemsA,strK.flat x.items)(by simp [bufferK])⟩
theorem PartD.Good.fitPort {w:World} {p:PartD} (h:p.Good w): ∀ x∈p.ports,PortFit w x:=fun x hx=>⟨(h.ports x hx).2.1,(h.ports x hx).2.2,h.at'.2.2.2.2.2.2 x hx(x.itemsA,strK.flat x.items)(by simp [portK])⟩
theorem PartD.Good.wfProc {w:World} {p:PartD} (h:p.Good w): ∀ x∈p.procs,(Lit.int .i64 x.id).wf=true:=fun x hx=>(h.procs x hx).2.id
theorem PartD.Good.wfSem {w:World} {p:PartD} (h:p.Good w): ∀ x∈p.sems,(Lit.int .i64 x.id).wf=true:=h.sems
theorem PartD.Good.wfEvent {w:World} {p:PartD} (h:p.Good w): ∀ x∈p.events,(Lit.int .i64 x.id).wf=true:=h.events
theorem PartD.Good.wfBoard {w:World} {p:PartD} (h:p.Good w): ∀ x∈p.boards,(Lit.int .i64 x.id).wf=true:=fun x hx=>(h.boards x hx).1
theorem PartD.Good.wfBuffer {w:World} {p:PartD} (h:p.Good w): ∀ x∈p.buffers,(Lit.int .i64 x.id).wf=true:=fun x hx=>(h.buffers x hx).1
theorem PartD.Good.wfPort {w:World} {p:PartD} (h:p.Good w): ∀ x∈p.ports,(Lit.int .i64 x.id).wf=true:=fun x hx=>(h.ports x hx).1
/-! ### What each test says of the partition -/
def okProc(p:PartD):Bool:=thingsB(fun x:ProcD=>x.id)(fun x:ProcD=>procB x.toProcP)0 p.procs && decide((p.procs.length:Int)≤max 6 0)
theorem okProc_iff(p:PartD):okProc p=true↔(thingsB(·.id)procB 0 p.pure.procs=true∧p.pure.procs.length≤6):=by
 have e:thingsB(·.id)procB 0 p.pure.procs=thingsB(fun x:ProcD=>x.id)(fun x:ProcD=>procB x.toProcP)0 p.procs:=thingsB_map _ _ _ _ _
 have e2:p.pure.procs.length=p.procs.length:=by simp [PartD.pure]
 rw [e,e2]
 unfold okProc
 rw [Bool.and_eq_true,decide_eq_true_iff]
 constructor
 ·intro h; exact⟨h.1,by omega⟩
 ·intro h; exact⟨h.1,by omega⟩
def okSem(p:PartD):Bool:=thingsB(fun x:SemD=>x.id)(fun x:SemD=>semB x)0 p.sems && decide((p.sems.length:Int)≤max 5 0)
theorem okSem_iff(p:PartD):okSem p=true↔(thingsB(·.id)semB 0 p.pure.sems=true∧p.pure.sems.length≤5):=by
 have e:p.pure.sems=p.sems:=rfl
 rw [e]
 unfold okSem
 rw [Bool.and_eq_true,decide_eq_true_iff]
 constructor
 ·intro h; exact⟨h.1,by omega⟩
 ·intro h; exact⟨h.1,by omega⟩
def okEvent(p:PartD):Bool:=thingsB(fun x:EventD=>x.id)(fun x:EventD=>eventB x)0 p.events && decide((p.events.length:Int)≤max 5 0)
theorem okEvent_iff(p:PartD):okEvent p=true↔(thingsB(·.id)eventB 0 p.pure.events=true∧p.pure.events.length≤5):=by
 have e:p.pure.events=p.events:=rfl
 rw [e]
 unfold okEvent
 rw [Bool.and_eq_true,decide_eq_true_iff]
 constructor
 ·intro h; exact⟨h.1,by omega⟩
 ·intro h; exact⟨h.1,by omega⟩
def okBoard(p:PartD):Bool:=thingsB(fun x:BoardD=>x.id)(fun x:BoardD=>boardB x)0 p.boards && decide((p.boards.length:Int)≤max 5 0)
theorem okBoard_iff(p:PartD):okBoard p=true↔(thingsB(·.id)boardB 0 p.pure.boards=true∧p.pure.boards.length≤5):=by
 have e:p.pure.boards=p.boards:=rfl
 rw [e]
 unfold okBoard
 rw [Bool.and_eq_true,decide_eq_true_iff]
 constructor
 ·intro h; exact⟨h.1,by omega⟩
 ·intro h; exact⟨h.1,by omega⟩
def okBuffer(p:PartD):Bool:=thingsB(fun x:BufferD=>x.id)(fun x:BufferD=>bufferB x.toBufferP)0 p.buffers && decide((p.buffers.length:Int)≤max 5 0)
theorem okBuffer_iff(p:PartD):okBuffer p=true↔(thingsB(·.id)bufferB 0 p.pure.buffers=true∧p.pure.buffers.length≤5):=by
 have e:thingsB(·.id)bufferB 0 p.pure.buffers=thingsB(fun x:BufferD=>x.id)(fun x:BufferD=>bufferB x.toBufferP)0 p.buffers:=thingsB_map _ _ _ _ _
 have e2:p.pure.buffers.length=p.buffers.length:=by simp [PartD.pure]
 rw [e,e2]
 unfold okBuffer
 rw [Bool.and_eq_true,decide_eq_true_iff]
 constructor
 ·intro h; exact⟨h.1,by omega⟩
 ·intro h; exact⟨h.1,by omega⟩
def okPort(p:PartD):Bool:=thingsB(fun x:PortD=>x.id)(fun x:PortD=>portB x.toPortP)0 p.ports && decide((p.ports.length:Int)≤max 5 0)
theorem okPort_iff(p:PartD):okPort p=true↔(thingsB(·.id)portB 0 p.pure.ports=true∧p.pure.ports.length≤5):=by
 have e:thingsB(·.id)portB 0 p.pure.ports=thingsB(fun x:PortD=>x.id)(fun x:PortD=>portB x.toPortP)0 p.ports:=thingsB_map _ _ _ _ _
 have e2:p.pure.ports.length=p.ports.length:=by simp [PartD.pure]
 rw [e,e2]
 unfold okPort
 rw [Bool.and_eq_true,decide_eq_true_iff]
 constructor
 ·intro h; exact⟨h.1,by omega⟩
 ·intro h; exact⟨h.1,by omega⟩
theorem mem_keys {α:Type} {num:α→Int} {l:List(α × Nat)} (k:Int):(lookM(keysOf num l)k).isSome=decide(k∈(l.map(·.1)).map num):=by
 rw [lookM_isSome]
 simp only [keysOf,List.map_map,Function.comp_def]
theorem waitK_is {p:PartD} {ls:List(SemD × Nat)} {le:List(EventD × Nat)} {lb:List(BoardD × Nat)} {lf:List(BufferD × Nat)} (hs:ls.map(·.1)=p.sems)(he:le.map(·.1)=p.events)(hb:lb.map(·.1)=p.boards)(hf:lf.map(·.1)=p.buffers)(x:ProcD)(hx:procB x.toProcP=true):
  waitK(keysOf(fun x:SemD=>x.id)ls)(keysOf(fun x:EventD=>x.id)le)(keysOf(fun x:BoardD=>x.id)lb)(keysOf(fun x:BufferD=>x.id)lf)x=waitB p.pure x.toProcP:=by
 have hst:0≤x.state∧x.state≤7:=by
  have h1:stateB x.toProcP=true:=by
   simp only [procB,Bool.and_eq_true] at hx
   exact hx.2
  have h2:inB x.state 0 7=true:=by
   cases h:inB x.state 0 7 with
   | true=>rfl
   | false=>rw [stateB_in h] at h1; cases h1
  exact inB_iff.1 h2
 have eF:p.pure.buffers.map(·.id)=p.buffers.map(·.id):=by simp [PartD.pure,Function.comp_def]
 unfold waitK waitB hasB
 simp only [mem_keys,hs,he,hb,hf,eF]
 have e1:p.pure.sems=p.sems:=rfl
 have e2:p.pure.events=p.events:=rfl
 have e3:p.pure.boards=p.boards:=rfl
 rw [e1,e2,e3]
 by_cases h3:x.state=3
 ·simp [h3]
 by_cases h4:x.state=4
 ·simp [h4]
 by_cases h5:x.state=5
 ·simp [h5]
 by_cases h6:x.state=6
 ·simp [h6]
 by_cases h7:x.state=7
 ·simp [h7]
 have h8: ¬ 3≤x.state:=by omega
 simp [h3,h4,h5,h6,h7,h8]
theorem waits_is {p:PartD} {lp:List(ProcD × Nat)} {ls:List(SemD × Nat)} {le:List(EventD × Nat)} {lb:List(BoardD × Nat)} {lf:List(BufferD × Nat)} (hp:lp.map(·.1)=p.procs)(hs:ls.map(·.1)=p.sems)(he:le.map(·.1)=p.events)(hb:lb.map(·.1)=p.boards)(hf:lf.map(·.1)=p.buffers)(hok:okProc p=true):
  (lp.all fun q=>waitK(keysOf(fun x:SemD=>x.id)ls)(keysOf(fun x:EventD=>x.id)le)(keysOf(fun x:BoardD=>x.id)lb)(keysOf(fun x:BufferD=>x.id)lf)q.1)=p.pure.procs.all(waitB p.pure):=by
 have e:p.pure.procs=lp.map fun q=>q.1.toProcP:=by
  show p.procs.map(·.toProcP)=_
  rw [← hp,List.map_map]
  rfl
 rw [e,List.all_map]
 have hall: ∀ q∈lp,procB q.1.toProcP=true:=fun q hq=>by
  have h1:=((okProc_iff p).1 hok).1
  refine(things_all h1 q.1.toProcP ?_).2
  rw [e]
  exact List.mem_map.2⟨q,hq,rfl⟩
 rw [Bool.eq_iff_iff,List.all_eq_true,List.all_eq_true]
 constructor
 ·intro h q hq
  have:=h q hq
  rw [waitK_is hs he hb hf q.1(hall q hq)] at this
  exact this
 ·intro h q hq
  rw [waitK_is hs he hb hf q.1(hall q hq)]
  exact h q hq
theorem turns_is {p:PartD} {lp:List(ProcD × Nat)} {next:Int} (hp:lp.map(·.1)=p.procs):TurnsD next lp↔TurnsR next p.pure.procs:=by
 have e:p.pure.procs=lp.map fun q=>q.1.toProcP:=by
  show p.procs.map(·.toProcP)=_
  rw [← hp,List.map_map]
  rfl
 rw [e]
 rfl
theorem open_yes {p:PartD} (h1:okProc p=true)(h2:okSem p=true)(h3:okEvent p=true)(h4:okBoard p=true)(h5:okBuffer p=true)(h6:okPort p=true)(h7:1≤p.id∧p.id≤6)(h8:1≤p.next∧p.next≤1000000000)(h9:TurnsR p.next p.pure.procs)(h10:p.pure.procs.all(waitB p.pure)=true):PartR p.pure:=by
 rw [okProc_iff] at h1
 rw [okSem_iff] at h2
 rw [okEvent_iff] at h3
 rw [okBoard_iff] at h4
 rw [okBuffer_iff] at h5
 rw [okPort_iff] at h6
 exact(openR_iff _).1⟨inB_iff.2 h7,inB_iff.2 h8,h1.2,h2.2,h3.2,h4.2,h5.2,h6.2,h1.1,h2.1,h3.1,h4.1,h5.1,h6.1,h9,h10⟩
theorem open_noProc {p:PartD} (h:okProc p=false): ¬ PartR p.pure:=fun hr=>by
 have h0:=(openR_iff _).2 hr
 have:=(okProc_iff p).2⟨h0.procs,h0.nProc⟩
 rw [h] at this
 cases this
theorem open_noSem {p:PartD} (h:okSem p=false): ¬ PartR p.pure:=fun hr=>by
 have h0:=(openR_iff _).2 hr
 have:=(okSem_iff p).2⟨h0.sems,h0.nSem⟩
 rw [h] at this
 cases this
theorem open_noEvent {p:PartD} (h:okEvent p=false): ¬ PartR p.pure:=fun hr=>by
 have h0:=(openR_iff _).2 hr
 have:=(okEvent_iff p).2⟨h0.events,h0.nEvent⟩
 rw [h] at this
 cases this
theorem open_noBoard {p:PartD} (h:okBoard p=false): ¬ PartR p.pure:=fun hr=>by
 have h0:=(openR_iff _).2 hr
 have:=(okBoard_iff p).2⟨h0.boards,h0.nBoard⟩
 rw [h] at this
 cases this
theorem open_noBuffer {p:PartD} (h:okBuffer p=false): ¬ PartR p.pure:=fun hr=>by
 have h0:=(openR_iff _).2 hr
 have:=(okBuffer_iff p).2⟨h0.buffers,h0.nBuffer⟩
 rw [h] at this
 cases this
theorem open_noPort {p:PartD} (h:okPort p=false): ¬ PartR p.pure:=fun hr=>by
 have h0:=(openR_iff _).2 hr
 have:=(okPort_iff p).2⟨h0.ports,h0.nPort⟩
 rw [h] at this
 cases this
theorem open_noId {p:PartD} (h: ¬ (1≤p.id∧p.id≤6)): ¬ PartR p.pure:=fun hr=>h(inB_iff.1 hr.id)
theorem open_noNext {p:PartD} (h: ¬ (1≤p.next∧p.next≤1000000000)): ¬ PartR p.pure:=fun hr=>h(inB_iff.1 hr.next)
theorem open_noTurns {p:PartD} (h: ¬ TurnsR p.next p.pure.procs): ¬ PartR p.pure:=fun hr=>h((openR_iff _).2 hr).turns
theorem open_noWaits {p:PartD} (h:p.pure.procs.all(waitB p.pure)=false): ¬ PartR p.pure:=fun hr=>by
 have:=((openR_iff _).2 hr).waits
 rw [h] at this
 cases this
def OpenEnds(w:World)(p:PartP)(e:Ending)(w':World):Prop:=
 Below w.heap.size w w'∧((¬ PartR p∧e= .returned(.tuple #[.pointer none,.bool false]))∨(PartR p∧ ∃ o S,e= .returned(.tuple #[.pointer(some⟨o,0,none⟩),.bool true])∧OpenAt w' w.heap.size o S∧S.pure=p))
end Go.Proofs.YtkbcplnlehdjfaaGreat
