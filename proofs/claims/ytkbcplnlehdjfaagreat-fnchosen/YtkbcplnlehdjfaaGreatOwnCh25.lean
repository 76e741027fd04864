/- What the proof leans on, part 25: StoppedS, OpenT, StartedS, WkPure, OpenF. -/
import Derived.Test.YtkbcplnlehdjfaaGreatOwnCh1
import Derived.Test.YtkbcplnlehdjfaaGreatOwnCh20
import Derived.Test.YtkbcplnlehdjfaaGreatOwnCh21
import Derived.Test.YtkbcplnlehdjfaaGreatOwnCh22
import Derived.Test.YtkbcplnlehdjfaaGreatOwnCh24
import Derived.Deep.MidRow
set_option maxRecDepth 100000
set_option maxHeartbeats 8000000

namespace Go.Proofs.YtkbcplnlehdjfaaGreat
open Go.RowKit Go.Maps
attribute [local go_sem ↓] Go.wp_at_zero Go.wp_at_succ
def restP(y:ProcP):ProcP:=⟨y.id,y.prio,y.prog,0,0,0,0,0,noT,y.got,y.code,0⟩
def restD(y:ProcD):ProcD:=⟨restP y.toProcP,y.progA,y.progC⟩
theorem l4Dormant_any(x:ProcD)(w:World):Calls Tryz.prog 100 #[.agg x.row] w fun e w'=>e= .returned(.agg #[.int .i64 x.id,.int .i64 x.prio,.slice x.progA x.prog.length x.progC,.int .i64 0,.int .i64 0,.int .i64 0,.int .i64 0,.int .i64 0,.string⟨#[]⟩,.string x.got,.int .i64 x.code,.int .i64 0])∧Below w.heap.size w w':=by
 have HB:Hid(Below w.heap.size w((w.alloc(.cells x.row 43)).alloc(.cells zero12 43))∧((w.alloc(.cells x.row 43)).alloc(.cells zero12 43)).heap[w.heap.size+1]? =some(.cells zero12 43(0,0))):=⟨((Below.refl _ _).alloc(Nat.le_refl _)_).alloc(by simp)_,heap_alloc2_new _ _ _⟩
 go_enter Tryz.func100,Tryz.ntmps100
 go_wp2_with (refine wpList_store_row rfl 43(Operand.tmp 2)(Operand.tmp 13)rfl(w.heap.size+1)_ _ #[.int .i64 x.id,.int .i64 x.prio,.slice x.progA x.prog.length x.progC,.int .i64 0,.int .i64 0,.int .i64 0,.int .i64 0,.int .i64 0,.string⟨#[]⟩,.string x.got,.int .i64 x.code,.int .i64 0] rfl rfl HB.out.2(by kernel_rfl)rfl(by kernel_rfl) ?_)
 refine bodyPost_ret(v:= .agg #[.int .i64 x.id,.int .i64 x.prio,.slice x.progA x.prog.length x.progC,.int .i64 0,.int .i64 0,.int .i64 0,.int .i64 0,.int .i64 0,.string⟨#[]⟩,.string x.got,.int .i64 x.code,.int .i64 0])(results_cell_row Tryz.results100 _ _(w.heap.size+1)_ _(0,0)_ rfl(setRow_heap _ _ _ _ _ _ HB.out.2)Tryz.underlying43 rfl(by kernel_rfl))rfl ?_
 exact⟨rfl,below_setRow HB.out.1(by omega)_⟩
def StopS(O gs n:Nat)(q:PartD)(x:ProcD)(w':World):Prop:=w'.cell? ⟨O,2,none⟩=some(.slice(some⟨gs,0,none⟩)q.procs.length q.procC)∧w'.cell? ⟨gs,n * 12,none⟩=some(.int .i64 x.id)∧w'.cell? ⟨gs,n * 12+1,none⟩=some(.int .i64 x.prio)∧w'.cell? ⟨gs,n * 12+2,none⟩=some(.slice x.progA x.prog.length x.progC)∧w'.cell? ⟨gs,n * 12+3,none⟩=some(.int .i64 x.state)∧w'.cell? ⟨gs,n * 12+4,none⟩=some(.int .i64 x.pc)∧w'.cell? ⟨gs,n * 12+5,none⟩=some(.int .i64 x.left)∧w'.cell? ⟨gs,n * 12+6,none⟩=some(.int .i64 x.wake)∧w'.cell? ⟨gs,n * 12+7,none⟩=some(.int .i64 x.on)∧w'.cell? ⟨gs,n * 12+8,none⟩=some(.string x.held)∧w'.cell? ⟨gs,n * 12+9,none⟩=some(.string x.got)∧w'.cell? ⟨gs,n * 12+10,none⟩=some(.int .i64 x.code)∧w'.cell? ⟨gs,n * 12+11,none⟩=some(.int .i64 x.since)
end Go.Proofs.YtkbcplnlehdjfaaGreat

namespace Go.Proofs.YtkbcplnlehdjfaaGreat
open Go.RowKit Go.Maps
def OpenD.turn(S:OpenD)(g:Nat)(f:ProcD→ProcD)(nx:Int):OpenD:= { S with q:= { S.q with next:=nx },lp:=upd g f S.lp }
theorem upd_kids {g:Nat} {f:ProcD→ProcD} (hf: ∀ x,procN.kid(f x)=procN.kid x)(l:List(ProcD × Nat)):kids procN(upd g f l)=kids procN l:=by
 induction l with
 | nil=>rfl
 | cons p r ih=>
  have e:(upd g f(p :: r))=(if p.2=g then (f p.1,p.2)else p) :: upd g f r:=rfl
  simp only [kids,List.filterMap_cons] at ih ⊢
  rw [e]
  simp only [List.filterMap_cons]
  by_cases h:p.2=g
  ·simp only [h,if_true,hf]
   rw [ih]
  ·simp only [h,if_false]
   rw [ih]
theorem OpenAt.turn {w w':World} {base o g:Nat} {S:OpenD} {f:ProcD→ProcD} {nx:Int} (h:OpenAt w base o S)(hf: ∀ x,(f x).id=x.id∧(f x).prog=x.prog∧(f x).progA=x.progA∧(f x).progC=x.progC)
  (hc: ∀ p∈S.lp,p.2=g→w'.heap[g]? =some(.cells(procVs(f p.1))43(0,0)))(hg:g∈S.lp.map(·.2))(ho:OpenBox w' o { S.q with next:=nx })(hs: ∀ b,b≠g→b≠o→w'.heap[b]? =w.heap[b]?):OpenAt w' base o(S.turn g f nx):=by
 have hkid: ∀ x,procN.kid(f x)=procN.kid x:=fun x=>by show (f x).progA.map(·.block)=x.progA.map(·.block); rw [(hf x).2.2.1]
 have hn:=h.nodup
 have hno:=(List.nodup_cons.1 hn).1
 have hbk:=(List.nodup_append.1(List.nodup_cons.1 hn).2)
 have hb6:=hbk.1
 unfold OpenD.boxes at hb6
 have hin: ∀ b,b∈S.boxes∨b∈S.kids→b≠o:=fun b hb e=>hno(by rw [← e]; exact List.mem_append.2 hb)
 have hp:=List.nodup_append.1 hb6
 have hgp:g∈S.q.bp :: S.lp.map(·.2):=List.mem_cons_of_mem _ hg
 have hgr: ∀ b,b∈((S.q.bs :: S.ls.map(·.2)) ++ ((S.q.be :: S.le.map(·.2)) ++ ((S.q.bb :: S.lb.map(·.2)) ++ ((S.q.bf :: S.lf.map(·.2)) ++ (S.q.bq :: S.lq.map(·.2))))))→b≠g:=fun b hb e=>hp.2.2 g hgp b hb e.symm
 have hgk: ∀ b∈S.kids,b≠g:=fun b hb e=>hbk.2.2 g(by unfold OpenD.boxes; exact List.mem_append_left _ hgp)b hb e.symm
 have hbp:S.q.bp≠g:=fun e=>by
  have:=(List.nodup_cons.1 hp.1).1
  rw [e] at this
  exact this hg
 have hbx: ∀ b,b∈(S.q.bp :: S.lp.map(·.2))→b≠o:=fun b hb=>hin b(.inl(by unfold OpenD.boxes; exact List.mem_append_left _ hb))
 have hbr: ∀ b,b∈((S.q.bs :: S.ls.map(·.2)) ++ ((S.q.be :: S.le.map(·.2)) ++ ((S.q.bb :: S.lb.map(·.2)) ++ ((S.q.bf :: S.lf.map(·.2)) ++ (S.q.bq :: S.lq.map(·.2))))))→w'.heap[b]? =w.heap[b]? :=fun b hb=>hs b(hgr b hb)(hin b(.inl(by unfold OpenD.boxes; exact List.mem_append_right _ hb)))
 have hkk: ∀ b∈S.kids,w'.heap[b]? =w.heap[b]? :=fun b hb=>hs b(hgk b hb)(hin b(.inr hb))
 have hmem: ∀ (b:Nat),(b∈kids procN S.lp∨b∈kids bufferN S.lf∨b∈kids portN S.lq)→b∈S.kids:=fun b hb=>by simp only [OpenD.kids,List.mem_append]; exact hb
 refine⟨ho,h.procs.upd(fun p _ _=>(hf p.1).1)hc(hs _ hbp(hbx _(by simp)))(fun b hb hne=>hs b hne(hbx b(List.mem_cons_of_mem _ hb))),h.sems.same fun b hb=>hbr b(List.mem_append_left _ hb),h.events.same fun b hb=>hbr b(List.mem_append_right _(List.mem_append_left _ hb)),h.boards.same fun b hb=>hbr b(List.mem_append_right _(List.mem_append_right _(List.mem_append_left _ hb))),h.buffers.same fun b hb=>hbr b(List.mem_append_right _(List.mem_append_right _(List.mem_append_right _(List.mem_append_left _ hb)))),h.ports.same fun b hb=>hbr b(List.mem_append_right _(List.mem_append_right _(List.mem_append_right _(List.mem_append_right _ hb)))),fun p hp'=> ?_,fun p hp'=>(h.mineF p hp').same fun b hb=>hkk b(hmem b(.inr(.inl(List.mem_filterMap.2⟨p,hp',hb⟩)))),fun p hp'=>(h.mineQ p hp').same fun b hb=>hkk b(hmem b(.inr(.inr(List.mem_filterMap.2⟨p,hp',hb⟩)))),?_,h.low⟩
 ·obtain⟨r,hr,rfl⟩:=mem_upd.1 hp'
  have hm:procN.Mine w' base r.1:=(h.mineP r hr).same fun b hb=>hkk b(hmem b(.inl(List.mem_filterMap.2⟨r,hr,hb⟩)))
  split
  ·show w'.ownsRow base _ 4(.slice(f r.1).progA(f r.1).prog.length(f r.1).progC)(f r.1).prog.length(opK.flat(f r.1).prog)
   rw [(hf r.1).2.1,(hf r.1).2.2.1,(hf r.1).2.2.2]
   exact hm
  ·exact hm
 ·have e1:(S.turn g f nx).boxes=S.boxes:=by simp only [OpenD.boxes,OpenD.turn,upd_blocks]
  have e2:(S.turn g f nx).kids=S.kids:=by simp only [OpenD.kids,OpenD.turn,upd_kids hkid]
  rw [e1,e2]
  exact hn
end Go.Proofs.YtkbcplnlehdjfaaGreat

namespace Go.Proofs.YtkbcplnlehdjfaaGreat
open Go.RowKit Go.Maps
attribute [local go_sem ↓] Go.wp_at_zero Go.wp_at_succ
def startedP(p:PartP)(id:Int):Option PartP:=turnedP p id(fun y=>decide(y.state=0) && !decide(p.next=1000000000))(fun y=> { y with state:=1,since:=p.next })(p.next+1)
theorem l4Place_any(q:PartD)(n base:Nat)(x:ProcD)(w:World)(h:PartOwn w base q)(hb:base≤w.heap.size)(hx:q.procs[n]? =some x)(hn:0≤q.next∧q.next≤1000000000):
  Calls Tryz.prog 98 #[.agg q.cells,.int .i64 n] w fun e w'=> ∃ q2:PartD,e= .returned(.agg q2.cells)∧q2= { q with next:=q.next+1,procs:=q.procs.set n { x with since:=q.next } } ∧PartOwn w' base q2∧Below base w w':=by
 obtain⟨gs,ha,hat⟩:=proc_at h.at.1 hx
 have hb1:Below w.heap.size w((w.alloc(.cells #[.int .i64 q.id,.int .i64 q.next,.slice(some⟨gs,0,none⟩)q.procs.length q.procC,.slice q.semA q.sems.length q.semC,.slice q.eventA q.events.length q.eventC,.slice q.boardA q.boards.length q.boardC,.slice q.bufferA q.buffers.length q.bufferC,.slice q.portA q.ports.length q.portC] 32)).alloc(.cells zero8 32)):=((Below.refl _ _).alloc(Nat.le_refl _)_).alloc(by simp)_
 have hnl:n < q.procs.length:=(List.getElem?_eq_some_iff.1 hx).1
 have HB:Hid(PartBox((w.alloc(.cells #[.int .i64 q.id,.int .i64 q.next,.slice(some⟨gs,0,none⟩)q.procs.length q.procC,.slice q.semA q.sems.length q.semC,.slice q.eventA q.events.length q.eventC,.slice q.boardA q.boards.length q.boardC,.slice q.bufferA q.buffers.length q.bufferC,.slice q.portA q.ports.length q.portC] 32)).alloc(.cells zero8 32))w.heap.size q∧PartOwn((w.alloc(.cells #[.int .i64 q.id,.int .i64 q.next,.slice(some⟨gs,0,none⟩)q.procs.length q.procC,.slice q.semA q.sems.length q.semC,.slice q.eventA q.events.length q.eventC,.slice q.boardA q.boards.length q.boardC,.slice q.bufferA q.buffers.length q.bufferC,.slice q.portA q.ports.length q.portC] 32)).alloc(.cells zero8 32))base q∧Below w.heap.size w((w.alloc(.cells #[.int .i64 q.id,.int .i64 q.next,.slice(some⟨gs,0,none⟩)q.procs.length q.procC,.slice q.semA q.sems.length q.semC,.slice q.eventA q.events.length q.eventC,.slice q.boardA q.boards.length q.boardC,.slice q.bufferA q.buffers.length q.bufferC,.slice q.portA q.ports.length q.portC] 32)).alloc(.cells zero8 32))∧((w.alloc(.cells #[.int .i64 q.id,.int .i64 q.next,.slice(some⟨gs,0,none⟩)q.procs.length q.procC,.slice q.semA q.sems.length q.semC,.slice q.eventA q.events.length q.eventC,.slice q.boardA q.boards.length q.boardC,.slice q.bufferA q.buffers.length q.bufferC,.slice q.portA q.ports.length q.portC] 32)).alloc(.cells zero8 32)).heap[w.heap.size+1]? =some(.cells zero8 32(0,0))∧q.procs[n]? =some x∧q.procA=some⟨gs,0,none⟩∧base≤w.heap.size∧gs < w.heap.size∧base≤gs):=by
  have h5:=own_lt h.procs(g:=gs)(by rw [ha]; simp [blk])
  exact⟨by unfold PartBox; rw [ha]; exact(heap_alloc_old _ _(by simp)).trans(heap_alloc_new _ _),h.below hb1,hb1,heap_alloc2_new _ _ _,hx,ha,hb,h5.2,h5.1⟩
 obtain⟨m0,m1,m2,m3,m4,m5,m6,m7⟩:=HB.out.1.cells
 rw [ha] at m2
 obtain⟨⟨u,c11⟩,f11⟩:(∃ u,((w.alloc(.cells #[.int .i64 q.id,.int .i64 q.next,.slice(some⟨gs,0,none⟩)q.procs.length q.procC,.slice q.semA q.sems.length q.semC,.slice q.eventA q.events.length q.eventC,.slice q.boardA q.boards.length q.boardC,.slice q.bufferA q.buffers.length q.bufferC,.slice q.portA q.ports.length q.portC] 32)).alloc(.cells zero8 32)).cell? ⟨gs,n * 12+11,none⟩=some u)∧((w.alloc(.cells #[.int .i64 q.id,.int .i64 q.next,.slice(some⟨gs,0,none⟩)q.procs.length q.procC,.slice q.semA q.sems.length q.semC,.slice q.eventA q.events.length q.eventC,.slice q.boardA q.boards.length q.boardC,.slice q.bufferA q.buffers.length q.bufferC,.slice q.portA q.ports.length q.portC] 32)).alloc(.cells zero8 32)).frozen? ⟨gs,n * 12+11,none⟩=false:=by
  obtain⟨g,hg,hrow⟩:=RowAt.of_owns(K:=procK)HB.out.2.1.procs(by omega)
  rw [ha] at hg
  cases hg
  exact⟨⟨_,(hrow.cell hx(r:=11)(by decide)).1⟩,(hrow.cell hx(r:=11)(by decide)).2⟩
 have j0:(0:Int)≤(n:Int):=by omega
 have j1:(n:Int) < (q.procs.length:Int):=by omega
 obtain⟨hn0,hn1⟩:=hn
 have h5:=HB.out.2.1.setProc(n:=n)(j:=11)(x:=x)(y:= { x with since:=q.next })(vs:= [.int .i64 q.next])hx ha⟨rfl,rfl,rfl⟩(by show 11+1≤12; omega)(fun r hr=>by match r,hr with | 0,_=>rfl)(fun r hr hn=>by match r,hr,hn with | 0,_,_=>rfl | 1,_,_=>rfl | 2,_,_=>rfl | 3,_,_=>rfl | 4,_,_=>rfl | 5,_,_=>rfl | 6,_,_=>rfl | 7,_,_=>rfl | 8,_,_=>rfl | 9,_,_=>rfl | 10,_,_=>rfl | 11,_,hn=>exact absurd⟨by omega,by show 11 < 11+1; omega⟩hn)
 simp only [setAllW] at h5
 have HS:Hid(PartOwn(((w.alloc(.cells #[.int .i64 q.id,.int .i64 q.next,.slice(some⟨gs,0,none⟩)q.procs.length q.procC,.slice q.semA q.sems.length q.semC,.slice q.eventA q.events.length q.eventC,.slice q.boardA q.boards.length q.boardC,.slice q.bufferA q.buffers.length q.bufferC,.slice q.portA q.ports.length q.portC] 32)).alloc(.cells zero8 32)).setCell⟨gs,n * 12+11,none⟩(.int .i64 q.next))base({ q with procs:=q.procs.set n { x with since:=q.next } } :PartD)∧Below base w(((w.alloc(.cells #[.int .i64 q.id,.int .i64 q.next,.slice(some⟨gs,0,none⟩)q.procs.length q.procC,.slice q.semA q.sems.length q.semC,.slice q.eventA q.events.length q.eventC,.slice q.boardA q.boards.length q.boardC,.slice q.bufferA q.buffers.length q.bufferC,.slice q.portA q.ports.length q.portC] 32)).alloc(.cells zero8 32)).setCell⟨gs,n * 12+11,none⟩(.int .i64 q.next))∧PartBox(((w.alloc(.cells #[.int .i64 q.id,.int .i64 q.next,.slice(some⟨gs,0,none⟩)q.procs.length q.procC,.slice q.semA q.sems.length q.semC,.slice q.eventA q.events.length q.eventC,.slice q.boardA q.boards.length q.boardC,.slice q.bufferA q.buffers.length q.bufferC,.slice q.portA q.ports.length q.portC] 32)).alloc(.cells zero8 32)).setCell⟨gs,n * 12+11,none⟩(.int .i64 q.next))w.heap.size q∧(((w.alloc(.cells #[.int .i64 q.id,.int .i64 q.next,.slice(some⟨gs,0,none⟩)q.procs.length q.procC,.slice q.semA q.sems.length q.semC,.slice q.eventA q.events.length q.eventC,.slice q.boardA q.boards.length q.boardC,.slice q.bufferA q.buffers.length q.bufferC,.slice q.portA q.ports.length q.portC] 32)).alloc(.cells zero8 32)).setCell⟨gs,n * 12+11,none⟩(.int .i64 q.next)).heap[w.heap.size+1]? =some(.cells zero8 32(0,0))):=by
  have hg:=HB.out.2.2.2.2.2.2
  refine⟨h5.1,(hb1.mono hb).trans(h5.2.1.below(by have:=hb1.size; omega)(by simp; omega)),(setCell_other(by omega)).trans HB.out.1,(setCell_other(by omega)).trans HB.out.2.2.2.1⟩
 have hq8:(PartD.cells q)= #[.int .i64 q.id,.int .i64 q.next,.slice(some⟨gs,0,none⟩)q.procs.length q.procC,.slice q.semA q.sems.length q.semC,.slice q.eventA q.events.length q.eventC,.slice q.boardA q.boards.length q.boardC,.slice q.bufferA q.buffers.length q.bufferC,.slice q.portA q.ports.length q.portC] :=by unfold PartD.cells; rw [ha]
 rw [hq8]
 have hbks:=h5.2.2
 have hlt0: ∀ g∈q.blocks,g < w.heap.size:=fun g hg=>(h.lt g hg).2
 have HBK:Hid(∀ g∈({ q with procs:=q.procs.set n { x with since:=q.next } } :PartD).blocks,g < w.heap.size):=fun g hg=>hlt0 g(by rw [← hbks]; exact hg)
 have k1:(((w.alloc(.cells #[.int .i64 q.id,.int .i64 q.next,.slice(some⟨gs,0,none⟩)q.procs.length q.procC,.slice q.semA q.sems.length q.semC,.slice q.eventA q.events.length q.eventC,.slice q.boardA q.boards.length q.boardC,.slice q.bufferA q.buffers.length q.bufferC,.slice q.portA q.ports.length q.portC] 32)).alloc(.cells zero8 32)).setCell⟨gs,n * 12+11,none⟩(.int .i64 q.next)).cell? ⟨w.heap.size,1,none⟩=some(.int .i64 q.next):=by have h6:=HS.out.2.2.1; unfold PartBox at h6; simp only [World.cell?,h6]; rfl
 have k1f:(((w.alloc(.cells #[.int .i64 q.id,.int .i64 q.next,.slice(some⟨gs,0,none⟩)q.procs.length q.procC,.slice q.semA q.sems.length q.semC,.slice q.eventA q.events.length q.eventC,.slice q.boardA q.boards.length q.boardC,.slice q.bufferA q.buffers.length q.bufferC,.slice q.portA q.ports.length q.portC] 32)).alloc(.cells zero8 32)).setCell⟨gs,n * 12+11,none⟩(.int .i64 q.next)).frozen? ⟨w.heap.size,1,none⟩=false:=frozen_of_row _ _ _ _ _ HS.out.2.2.1
 clear h hb hx hb1 h5 hat ha hq8
 go_enter Tryz.func98,Tryz.ntmps98
 have HT:Hid(((((w.alloc(.cells #[.int .i64 q.id,.int .i64 q.next,.slice(some⟨gs,0,none⟩)q.procs.length q.procC,.slice q.semA q.sems.length q.semC,.slice q.eventA q.events.length q.eventC,.slice q.boardA q.boards.length q.boardC,.slice q.bufferA q.buffers.length q.bufferC,.slice q.portA q.ports.length q.portC] 32)).alloc(.cells zero8 32)).setCell⟨gs,n * 12+11,none⟩(.int .i64 q.next)).setCell⟨w.heap.size,1,none⟩(.int .i64(q.next+1))).heap[w.heap.size+1]? =some(.cells zero8 32(0,0))∧PartOwn((((w.alloc(.cells #[.int .i64 q.id,.int .i64 q.next,.slice(some⟨gs,0,none⟩)q.procs.length q.procC,.slice q.semA q.sems.length q.semC,.slice q.eventA q.events.length q.eventC,.slice q.boardA q.boards.length q.boardC,.slice q.bufferA q.buffers.length q.bufferC,.slice q.portA q.ports.length q.portC] 32)).alloc(.cells zero8 32)).setCell⟨gs,n * 12+11,none⟩(.int .i64 q.next)).setCell⟨w.heap.size,1,none⟩(.int .i64(q.next+1)))base({ q with procs:=q.procs.set n { x with since:=q.next } } :PartD)∧Below base w((((w.alloc(.cells #[.int .i64 q.id,.int .i64 q.next,.slice(some⟨gs,0,none⟩)q.procs.length q.procC,.slice q.semA q.sems.length q.semC,.slice q.eventA q.events.length q.eventC,.slice q.boardA q.boards.length q.boardC,.slice q.bufferA q.buffers.length q.bufferC,.slice q.portA q.ports.length q.portC] 32)).alloc(.cells zero8 32)).setCell⟨gs,n * 12+11,none⟩(.int .i64 q.next)).setCell⟨w.heap.size,1,none⟩(.int .i64(q.next+1)))):=by
  have hg:=HB.out.2.2.2.2.2.2
  have hbl: ∀ g∈({ q with procs:=q.procs.set n { x with since:=q.next } } :PartD).blocks,g≠w.heap.size:=fun g hg2 e=>by rw [hbks] at hg2; have:=hlt0 g hg2; omega
  exact⟨(setCell_other(by omega)).trans HS.out.2.2.2,HS.out.1.same fun g hg2=>setCell_other(hbl g hg2),below_setCell HS.out.2.1(by omega)⟩
 clear hbks hlt0
 go_wp2_with (refine stP 4 16(w.heap.size+1) #[.int .i64 q.id,.int .i64(q.next+1),.slice(some⟨gs,0,none⟩)q.procs.length q.procC,.slice q.semA q.sems.length q.semC,.slice q.eventA q.events.length q.eventC,.slice q.boardA q.boards.length q.boardC,.slice q.bufferA q.buffers.length q.bufferC,.slice q.portA q.ports.length q.portC] HT.out.1 ?_)
 refine rtP Tryz.results98(w.heap.size+1) #[.int .i64 q.id,.int .i64(q.next+1),.slice(some⟨gs,0,none⟩)q.procs.length q.procC,.slice q.semA q.sems.length q.semC,.slice q.eventA q.events.length q.eventC,.slice q.boardA q.boards.length q.boardC,.slice q.bufferA q.buffers.length q.bufferC,.slice q.portA q.ports.length q.portC] HT.out.1 ?_
 have hg:=HB.out.2.2.2.2.2.2
 have hbn: ∀ g∈({ q with procs:=q.procs.set n { x with since:=q.next } } :PartD).blocks,g≠w.heap.size+1:=fun g hg2 e=>by have:=HBK.out g hg2; omega
 have ho:=HT.out.2.1.same(w':=((((w.alloc(.cells #[.int .i64 q.id,.int .i64 q.next,.slice(some⟨gs,0,none⟩)q.procs.length q.procC,.slice q.semA q.sems.length q.semC,.slice q.eventA q.events.length q.eventC,.slice q.boardA q.boards.length q.boardC,.slice q.bufferA q.buffers.length q.bufferC,.slice q.portA q.ports.length q.portC] 32)).alloc(.cells zero8 32)).setCell⟨gs,n * 12+11,none⟩(.int .i64 q.next)).setCell⟨w.heap.size,1,none⟩(.int .i64(q.next+1))).setRow(w.heap.size+1) #[.int .i64 q.id,.int .i64(q.next+1),.slice(some⟨gs,0,none⟩)q.procs.length q.procC,.slice q.semA q.sems.length q.semC,.slice q.eventA q.events.length q.eventC,.slice q.boardA q.boards.length q.boardC,.slice q.bufferA q.buffers.length q.bufferC,.slice q.portA q.ports.length q.portC])fun g hg2=>setRow_other _ _ _ _(hbn g hg2)
 refine⟨_,?_,rfl,⟨ho.procs,ho.sems,ho.events,ho.boards,ho.buffers,ho.ports,ho.mineP,ho.mineF,ho.mineQ,ho.nodup⟩,below_setRow HT.out.2.2(by omega)_⟩
 simp only [PartD.cells,List.length_set,HB.out.2.2.2.2.2.1]
theorem specStarted_any(p:PartD)(id:Int)(w:World)(hf:p.Fit)(hs: ∀ x∈p.procs,x.Short)(h:PartD.At w p):
  Calls Tryz.prog 49 #[.agg p.cells,.int .i64 id] w fun e w'=>TurnRes w(startedP p.pure id)e w':=by
 have HB:Hid(PartBox((w.alloc(.cells p.row 32)).alloc(.cells zero8 32))w.heap.size p∧PartD.At((w.alloc(.cells p.row 32)).alloc(.cells zero8 32))p∧Below w.heap.size w((w.alloc(.cells p.row 32)).alloc(.cells zero8 32))∧((w.alloc(.cells p.row 32)).alloc(.cells zero8 32)).heap[w.heap.size+1]? =some(.cells zero8 32(0,0))):=by
  have b1:Below w.heap.size w((w.alloc(.cells p.row 32)).alloc(.cells zero8 32)):=((Below.refl _ _).alloc(Nat.le_refl _)_).alloc(by simp)_
  exact⟨(heap_alloc_old _ _(by simp)).trans(heap_alloc_new _ _),h.below b1,b1,heap_alloc2_new _ _ _⟩
 have HFT:Hid(p.Fit∧ ∀ x∈p.procs,x.Short):=⟨hf,hs⟩
 have hpl:=hf.short.procs
 clear h hf hs
 obtain⟨m0,m1,m2,m3,m4,m5,m6,m7⟩:=HB.out.1.cells
 unfold PartD.cells
 go_enter Tryz.func49,Tryz.ntmps49
 go_wp2_with fail
 generalize (w.alloc(.cells p.row 32)).alloc(.cells zero8 32)=W at *
 clear m0 m1 m2 m3 m4 m5 m6 m7
 refine(l3Proc_any p id W hpl HB.out.2.1).mono ?_
 rintro e W1⟨rfl,hb⟩
 replace HB:Hid(PartBox W1 w.heap.size p∧PartD.At W1 p∧Below w.heap.size w W1∧W1.heap[w.heap.size+1]? =some(.cells zero8 32(0,0))):=⟨HB.out.1.below hb,HB.out.2.1.below hb,HB.out.2.2.1.trans(hb.mono HB.out.2.2.1.size),(hb.block _(Array.getElem?_eq_some_iff.1 HB.out.2.2.2).1).trans HB.out.2.2.2⟩
 clear hb
 obtain⟨m0,m1,m2,m3,m4,m5,m6,m7⟩:=HB.out.1.cells
 have hpf:=place_find id p.pure.procs 0
 rw [show p.pure.procs.map(·.id)=p.procs.map(·.id)by simp [PartD.pure,Function.comp_def]] at hpf
 have HPF:Hid(_):=hpf
 clear hpf
 generalize place(p.procs.map(·.id))id 0=z at *
 go_wp2_with fail
 clear m0 m1 m2 m3 m4 m5 m6 m7
 refine(specPartOk_any p W1 HFT.out.1 HFT.out.2 HB.out.2.1).mono ?_
 rintro e W2⟨rfl,hb⟩
 replace HB:Hid(PartBox W2 w.heap.size p∧PartD.At W2 p∧Below w.heap.size w W2∧W2.heap[w.heap.size+1]? =some(.cells zero8 32(0,0))):=⟨HB.out.1.below hb,HB.out.2.1.below hb,HB.out.2.2.1.trans(hb.mono HB.out.2.2.1.size),(hb.block _(Array.getElem?_eq_some_iff.1 HB.out.2.2.2).1).trans HB.out.2.2.2⟩
 clear hb
 obtain⟨m0,m1,m2,m3,m4,m5,m6,m7⟩:=HB.out.1.cells
 cases h4:partB p.pure
 ·have HN:Hid(startedP p.pure id=none):=turned_not h4
  clear h4
  go_wp2_with (refine stP 4 32(w.heap.size+1)zero8 HB.out.2.2.2 ?_)
  refine rtQ Tryz.results49(w.heap.size+1)zero8(.bool false)HB.out.2.2.2 ?_
  exact turnRes_no HN.out(below_setRow HB.out.2.2.1(by omega)_)
 have H4:Hid(partB p.pure=true):=h4
 clear h4
 rcases HPF.out with ⟨hz,hnf⟩ | ⟨n,y0,hz,hn,hfd⟩
 ·have HN:Hid(startedP p.pure id=none):=turned_none hnf
  subst hz
  clear hnf HPF
  go_wp2_with (refine stP 4 32(w.heap.size+1)zero8 HB.out.2.2.2 ?_)
  refine rtQ Tryz.results49(w.heap.size+1)zero8(.bool false)HB.out.2.2.2 ?_
  exact turnRes_no HN.out(below_setRow HB.out.2.2.1(by omega)_)
 rw [Nat.zero_add] at hz
 subst hz
 have hnl:n < p.procs.length:=by have h5:=(List.getElem?_eq_some_iff.1 hn).1; simpa [PartD.pure] using h5
 have dz:decide((n:Int) < 0)=false:=decide_eq_false(by omega)
 obtain⟨x0,hx0,hxy⟩: ∃ x,p.procs[n]? =some x∧x.toProcP=y0:=by
  have h5:(p.procs.map(·.toProcP))[n]? =some y0:=hn
  rw [List.getElem?_map,Option.map_eq_some_iff] at h5
  exact h5
 subst hxy
 have HY:Hid(p.pure.procs[n]? =some x0.toProcP∧p.pure.procs.find? (fun x=>decide(x.id=id))=some x0.toProcP):=⟨hn,hfd⟩
 obtain⟨gp,hap,hatp⟩:=proc_at HB.out.2.1.1 hx0
 rw [hap] at m2
 have HAP:Hid(p.procA=some⟨gp,0,none⟩):=hap
 have d3:=hatp.2.2.2.1
 clear hn hfd HPF hx0 hatp hap
 have j0:(0:Int)≤(n:Int):=by omega
 have j1:(n:Int) < (p.procs.length:Int):=by omega
 by_cases hst:x0.state=0
 ·by_cases hnx:p.next=1000000000
  ·have HN:Hid(startedP p.pure id=none):=turned_no HY.out.2(by have e:p.pure.next=1000000000:=hnx; simp [e])
   have e1:(x0.state != 0)=false:=by simp [hst]
   have e2:(p.next == 1000000000)=true:=by simp [hnx]
   clear hst hnx
   go_wp2_with (refine stP 4 32(w.heap.size+1)zero8 HB.out.2.2.2 ?_)
   refine rtQ Tryz.results49(w.heap.size+1)zero8(.bool false)HB.out.2.2.2 ?_
   exact turnRes_no HN.out(below_setRow HB.out.2.2.1(by omega)_)
  have HN:Hid(startedP p.pure id=some { p.pure with next:=p.next+1,procs:=turnP id(fun y:ProcP=> { y with state:=1,since:=p.next })p.pure.procs }):=turned_yes H4.out HY.out.2(by have e:x0.toProcP.state=0:=hst; have e2: ¬ p.pure.next=1000000000:=hnx; simp [e,e2])
  have e1:(x0.state != 0)=false:=by simp [hst]
  have e2:(p.next == 1000000000)=false:=by simp [hnx]
  clear hst hnx
  go_wp2_with fail
  clear m0 m1 m2 m3 m4 m5 m6 m7 d3 e1 e2
  have hcall:=l3Copy_any p W2 HFT.out.1 HFT.out.2 HB.out.2.1
  rw [show PartD.cells p= #[.int .i64 p.id,.int .i64 p.next,.slice(some⟨gp,0,none⟩)p.procs.length p.procC,.slice p.semA p.sems.length p.semC,.slice p.eventA p.events.length p.eventC,.slice p.boardA p.boards.length p.boardC,.slice p.bufferA p.buffers.length p.bufferC,.slice p.portA p.ports.length p.portC] by unfold PartD.cells; rw [HAP.out]] at hcall
  refine hcall.mono ?_
  clear hcall
  rintro e W3⟨q,rfl,hown,hpu,hb3⟩
  obtain⟨x,hx,hxy⟩: ∃ x,q.procs[n]? =some x∧x.toProcP=x0.toProcP:=by
   have h5:(q.procs.map(·.toProcP))[n]? =some x0.toProcP:=by have h6:=HY.out.1; rw [← hpu] at h6; exact h6
   rw [List.getElem?_map,Option.map_eq_some_iff] at h5
   exact h5
  obtain⟨gs,ha,hat⟩:=proc_at hown.at.1 hx
  have hnq:n < q.procs.length:=(List.getElem?_eq_some_iff.1 hx).1
  have hgs:=own_lt hown.procs(g:=gs)(by rw [ha]; simp [blk])
  have hb4:Below W3.heap.size W3(W3.alloc(.cells #[.int .i64 q.id,.int .i64 q.next,.slice(some⟨gs,0,none⟩)q.procs.length q.procC,.slice q.semA q.sems.length q.semC,.slice q.eventA q.events.length q.eventC,.slice q.boardA q.boards.length q.boardC,.slice q.bufferA q.buffers.length q.bufferC,.slice q.portA q.ports.length q.portC] 32)):=(Below.refl _ _).alloc(Nat.le_refl _)_
  obtain⟨⟨u,c3⟩,f3⟩:(∃ u,(W3.alloc(.cells #[.int .i64 q.id,.int .i64 q.next,.slice(some⟨gs,0,none⟩)q.procs.length q.procC,.slice q.semA q.sems.length q.semC,.slice q.eventA q.events.length q.eventC,.slice q.boardA q.boards.length q.boardC,.slice q.bufferA q.buffers.length q.bufferC,.slice q.portA q.ports.length q.portC] 32)).cell? ⟨gs,n * 12+3,none⟩=some u)∧(W3.alloc(.cells #[.int .i64 q.id,.int .i64 q.next,.slice(some⟨gs,0,none⟩)q.procs.length q.procC,.slice q.semA q.sems.length q.semC,.slice q.eventA q.events.length q.eventC,.slice q.boardA q.boards.length q.boardC,.slice q.bufferA q.buffers.length q.bufferC,.slice q.portA q.ports.length q.portC] 32)).frozen? ⟨gs,n * 12+3,none⟩=false:=by
   obtain⟨g,hg,hrow⟩:=RowAt.of_owns(K:=procK)(hown.below hb4).procs(by omega)
   rw [ha] at hg
   cases hg
   exact⟨⟨_,(hrow.cell hx(r:=3)(by decide)).1⟩,(hrow.cell hx(r:=3)(by decide)).2⟩
  have h5:=(hown.below hb4).setProc(n:=n)(j:=3)(x:=x)(y:= { x with state:=1 })(vs:= [.int .i64 1])hx ha⟨rfl,rfl,rfl⟩(by decide)(fun r hr=>by match r,hr with | 0,_=>rfl)(fun r hr hn=>by match r,hr,hn with | 0,_,_=>rfl | 1,_,_=>rfl | 2,_,_=>rfl | 3,_,hn=>exact absurd⟨by omega,by decide⟩hn | 4,_,_=>rfl | 5,_,_=>rfl | 6,_,_=>rfl | 7,_,_=>rfl | 8,_,_=>rfl | 9,_,_=>rfl | 10,_,_=>rfl | 11,_,_=>rfl)
  simp only [setAllW] at h5
  have hlt2:w.heap.size+1 < W2.heap.size:=(Array.getElem?_eq_some_iff.1 HB.out.2.2.2).1
  have hs3:=hb3.size
  have HS:Hid(PartOwn((W3.alloc(.cells #[.int .i64 q.id,.int .i64 q.next,.slice(some⟨gs,0,none⟩)q.procs.length q.procC,.slice q.semA q.sems.length q.semC,.slice q.eventA q.events.length q.eventC,.slice q.boardA q.boards.length q.boardC,.slice q.bufferA q.buffers.length q.bufferC,.slice q.portA q.ports.length q.portC] 32)).setCell⟨gs,n * 12+3,none⟩(.int .i64 1))W2.heap.size({ q with procs:=q.procs.set n { x with state:=1 } } :PartD)∧PartBox((W3.alloc(.cells #[.int .i64 q.id,.int .i64 q.next,.slice(some⟨gs,0,none⟩)q.procs.length q.procC,.slice q.semA q.sems.length q.semC,.slice q.eventA q.events.length q.eventC,.slice q.boardA q.boards.length q.boardC,.slice q.bufferA q.buffers.length q.bufferC,.slice q.portA q.ports.length q.portC] 32)).setCell⟨gs,n * 12+3,none⟩(.int .i64 1))W3.heap.size q∧Below w.heap.size w((W3.alloc(.cells #[.int .i64 q.id,.int .i64 q.next,.slice(some⟨gs,0,none⟩)q.procs.length q.procC,.slice q.semA q.sems.length q.semC,.slice q.eventA q.events.length q.eventC,.slice q.boardA q.boards.length q.boardC,.slice q.bufferA q.buffers.length q.bufferC,.slice q.portA q.ports.length q.portC] 32)).setCell⟨gs,n * 12+3,none⟩(.int .i64 1))∧((W3.alloc(.cells #[.int .i64 q.id,.int .i64 q.next,.slice(some⟨gs,0,none⟩)q.procs.length q.procC,.slice q.semA q.sems.length q.semC,.slice q.eventA q.events.length q.eventC,.slice q.boardA q.boards.length q.boardC,.slice q.bufferA q.buffers.length q.bufferC,.slice q.portA q.ports.length q.portC] 32)).setCell⟨gs,n * 12+3,none⟩(.int .i64 1)).heap[w.heap.size+1]? =some(.cells zero8 32(0,0))∧({ q with procs:=q.procs.set n { x with state:=1 } } :PartD).procs[n]? =some { x with state:=1 } ∧PartD.cells({ q with procs:=q.procs.set n { x with state:=1 } } :PartD)= #[.int .i64 q.id,.int .i64 q.next,.slice(some⟨gs,0,none⟩)q.procs.length q.procC,.slice q.semA q.sems.length q.semC,.slice q.eventA q.events.length q.eventC,.slice q.boardA q.boards.length q.boardC,.slice q.bufferA q.buffers.length q.bufferC,.slice q.portA q.ports.length q.portC] ∧W2.heap.size≤((W3.alloc(.cells #[.int .i64 q.id,.int .i64 q.next,.slice(some⟨gs,0,none⟩)q.procs.length q.procC,.slice q.semA q.sems.length q.semC,.slice q.eventA q.events.length q.eventC,.slice q.boardA q.boards.length q.boardC,.slice q.bufferA q.buffers.length q.bufferC,.slice q.portA q.ports.length q.portC] 32)).setCell⟨gs,n * 12+3,none⟩(.int .i64 1)).heap.size∧q.pure=p.pure∧x.toProcP=x0.toProcP):=by
   refine⟨h5.1,?_,?_,?_,by simp [hnq],by simp only [PartD.cells,List.length_set,ha],?_,hpu,hxy⟩
   ·refine(setCell_other(by omega)).trans ?_
    rw [ha]
    exact heap_alloc_new _ _
   ·exact below_setCell(HB.out.2.2.1.trans((hb3.alloc hs3 _).mono HB.out.2.2.1.size))(by omega)
   ·exact(setCell_other(by omega)).trans((hb4.block _(by omega)).trans((hb3.block _ hlt2).trans HB.out.2.2.2))
   ·have:=hb4.size; rw [show (((W3.alloc(.cells #[.int .i64 q.id,.int .i64 q.next,.slice(some⟨gs,0,none⟩)q.procs.length q.procC,.slice q.semA q.sems.length q.semC,.slice q.eventA q.events.length q.eventC,.slice q.boardA q.boards.length q.boardC,.slice q.bufferA q.buffers.length q.bufferC,.slice q.portA q.ports.length q.portC] 32)).setCell⟨gs,n * 12+3,none⟩(.int .i64 1))).heap.size=_ from setAllW_size [_]]; omega
  obtain⟨k0,k1,k2,k3,k4,k5,k6,k7⟩:=HS.out.2.1.cells
  rw [ha] at k2
  have jq:(n:Int) < (q.procs.length:Int):=by omega
  rw [show PartD.cells q= #[.int .i64 q.id,.int .i64 q.next,.slice(some⟨gs,0,none⟩)q.procs.length q.procC,.slice q.semA q.sems.length q.semC,.slice q.eventA q.events.length q.eventC,.slice q.boardA q.boards.length q.boardC,.slice q.bufferA q.buffers.length q.bufferC,.slice q.portA q.ports.length q.portC] by unfold PartD.cells; rw [ha]]
  clear hown hpu hb3 hx hxy ha hat hgs hb4 h5 hs3
  go_wp2_with fail
  clear k0 k1 k2 k3 k4 k5 k6 k7 c3 f3
  generalize (W3.alloc(.cells #[.int .i64 q.id,.int .i64 q.next,.slice(some⟨gs,0,none⟩)q.procs.length q.procC,.slice q.semA q.sems.length q.semC,.slice q.eventA q.events.length q.eventC,.slice q.boardA q.boards.length q.boardC,.slice q.bufferA q.buffers.length q.bufferC,.slice q.portA q.ports.length q.portC] 32)).setCell⟨gs,n * 12+3,none⟩(.int .i64 1)=W5 at *
  have hnx:0≤q.next∧q.next≤1000000000:=by have h6:=inB_iff.1((partB_iff _).1 H4.out).next; rw [← HS.out.2.2.2.2.2.2.2.1] at h6; have h7:q.pure.next=q.next:=rfl; omega
  have hcall:=l4Place_any({ q with procs:=q.procs.set n { x with state:=1 } } :PartD)n W2.heap.size { x with state:=1 } W5 HS.out.1 HS.out.2.2.2.2.2.2.1 HS.out.2.2.2.2.1 hnx
  rw [HS.out.2.2.2.2.2.1] at hcall
  refine hcall.mono ?_
  clear hcall
  rintro e W6⟨q2,rfl,hq2,ho2,hb6⟩
  have H6:Hid(PartOwn W6 W2.heap.size q2∧Below w.heap.size w W6∧W6.heap[w.heap.size+1]? =some(.cells zero8 32(0,0))∧q2.pure= { p.pure with next:=p.next+1,procs:=turnP id(fun y:ProcP=> { y with state:=1,since:=p.next })p.pure.procs } ∧w.heap.size+1 < W2.heap.size):=by
   refine⟨ho2,HS.out.2.2.1.trans(hb6.mono(by omega)),(hb6.block _ hlt2).trans HS.out.2.2.2.1,?_,hlt2⟩
   have hpp:=HS.out.2.2.2.2.2.2.2.1
   have hid:x0.toProcP.id=id:=by have h7:=List.find?_some HY.out.2; simpa using h7
   rw [turn_set(part_rise H4.out)HY.out.1 hid]
   have hnn:q.next=p.next:=congrArg PartP.next hpp
   have hpr:q.procs.map(·.toProcP)=p.pure.procs:=congrArg PartP.procs hpp
   have hxx:=HS.out.2.2.2.2.2.2.2.2
   subst hq2
   show ({ q.pure with next:=q.next+1,procs:=((q.procs.set n { x with state:=1 }).set n { { x with state:=1 } with since:=q.next }).map(·.toProcP) } :PartP)=_
   rw [List.set_set,List.map_set,hpr,hpp,hnn,← hxx]
  clear hq2 ho2 hb6 HS hnx
  go_wp2_with (refine stP 4 42(w.heap.size+1)(PartD.cells q2)H6.out.2.2.1 ?_)
  refine rtQ Tryz.results49(w.heap.size+1)(PartD.cells q2)(.bool true)H6.out.2.2.1 ?_
  rw [HN.out]
  have hl:=H6.out.2.2.2.2
  exact⟨q2,rfl,(H6.out.1.lower(by omega)).same fun g hg=>setRow_other _ _ _ _(by have:=(H6.out.1.lt g hg).1; omega),H6.out.2.2.2.1,below_setRow H6.out.2.1(by omega)_⟩
 ·have HN:Hid(startedP p.pure id=none):=turned_no HY.out.2(by have e: ¬ x0.toProcP.state=0:=hst; simp [e])
  have e1:(x0.state != 0)=true:=by simp [hst]
  clear hst
  go_wp2_with (refine stP 4 32(w.heap.size+1)zero8 HB.out.2.2.2 ?_)
  refine rtQ Tryz.results49(w.heap.size+1)zero8(.bool false)HB.out.2.2.2 ?_
  exact turnRes_no HN.out(below_setRow HB.out.2.2.1(by omega)_)
end Go.Proofs.YtkbcplnlehdjfaaGreat

namespace Go.Proofs.YtkbcplnlehdjfaaGreat
section
variable {α:Type} (ah:α→α→Bool)
def stepA(r:Option α)(x:α):Option α:=match r with
 | none=>some x
 | some b=>if ah x b then some x else some b
def bestA(l:List α):Option α:=l.foldl(stepA ah)none
theorem bestA_snoc(l:List α)(x:α):bestA ah(l ++ [x])=stepA ah(bestA ah l)x:=by simp [bestA]
theorem stepA_mem {r:Option α} {x y:α} (h:stepA ah r x=some y):y=x∨r=some y:=by
 unfold stepA at h
 split at h
 ·exact .inl(Option.some.inj h).symm
 ·split at h
  ·exact .inl(Option.some.inj h).symm
  ·exact .inr h
theorem fold_mem: ∀ (l:List α)(r:Option α) {y:α},l.foldl(stepA ah)r=some y→y∈l∨r=some y
 | [],_,_,h=> .inr h
 | x :: l,r,y,h=>by
  rcases fold_mem l(stepA ah r x)h with h1 | h1
  ·exact .inl(by simp [h1])
  ·rcases stepA_mem ah h1 with h2 | h2
   ·exact .inl(by simp [h2])
   ·exact .inr h2
theorem bestA_mem {l:List α} {y:α} (h:bestA ah l=some y):y∈l:=(fold_mem ah l none h).elim id(fun e=>by cases e)
theorem stepA_some(r:Option α)(x:α): ∃ y,stepA ah r x=some y:=by
 unfold stepA
 split
 ·exact⟨_,rfl⟩
 ·split <;> exact⟨_,rfl⟩
theorem bestA_none {l:List α} (h:bestA ah l=none):l= [] :=by
 rcases List.eq_nil_or_concat l with e | ⟨l',x,e⟩
 ·exact e
 ·subst e
  rw [List.concat_eq_append,bestA_snoc] at h
  obtain⟨y,hy⟩:=stepA_some ah(bestA ah l')x
  rw [hy] at h
  cases h
def BestAt(f:α→Bool)(l:List α)(k:Nat)(i:Int):Prop:=match bestA ah((l.take k).filter f)with
 | none=>i= -1
 | some x=> ∃ n:Nat,i=n∧n < k∧l[n]? =some x
variable {f:α→Bool} {l:List α} {k:Nat} {i:Int} {x:α}
theorem BestAt.start(f:α→Bool)(l:List α):BestAt ah f l 0(-1):=by simp [BestAt,bestA]
theorem filterA_up(hx:l[k]? =some x):(l.take(k+1)).filter f=(l.take k).filter f ++ (if f x then [x] else []):=by
 have h:l.take(k+1)=l.take k ++ [x] :=by rw [List.take_add_one,hx]; rfl
 rw [h,List.filter_append]
 by_cases h:f x=true <;> simp [h]
variable {ah}
theorem BestAt.skip(h:BestAt ah f l k i)(hx:l[k]? =some x)(hf:f x=false):BestAt ah f l(k+1)i:=by
 unfold BestAt at h ⊢
 rw [filterA_up hx,hf]
 simp only [Bool.false_eq_true,if_false,List.append_nil]
 split at h
 ·exact h
 ·obtain⟨n,h1,h2,h3⟩:=h
  exact⟨n,h1,by omega,h3⟩
theorem BestAt.first(h:BestAt ah f l k i)(hi:i < 0)(hx:l[k]? =some x)(hf:f x=true):BestAt ah f l(k+1)k:=by
 unfold BestAt at h ⊢
 rw [filterA_up hx,hf]
 simp only [if_true]
 rw [bestA_snoc]
 split at h
 ·rename_i e
  rw [e]
  exact⟨k,rfl,by omega,hx⟩
 ·obtain⟨n,h1,_⟩:=h
  omega
theorem BestAt.got(h:BestAt ah f l k i)(hi: ¬ i < 0): ∃ (n:Nat)(y:α),i=n∧n < k∧l[n]? =some y∧bestA ah((l.take k).filter f)=some y:=by
 unfold BestAt at h
 split at h
 ·omega
 ·rename_i y e
  obtain⟨n,h1,h2,h3⟩:=h
  exact⟨n,y,h1,h2,h3,e⟩
theorem BestAt.none'(h:BestAt ah f l k i)(hi:i < 0):bestA ah((l.take k).filter f)=none:=by
 unfold BestAt at h
 split at h
 ·assumption
 ·obtain⟨n,h1,_⟩:=h
  omega
theorem BestAt.next {n:Nat} {y:α} (hn:n < k)(hy:l[n]? =some y)(he:bestA ah((l.take k).filter f)=some y)(hx:l[k]? =some x)(hf:f x=true):BestAt ah f l(k+1)(if ah x y then (k:Int)else (n:Int)):=by
 unfold BestAt
 rw [filterA_up hx,hf]
 simp only [if_true]
 rw [bestA_snoc,he]
 simp only [stepA]
 by_cases ha:ah x y=true
 ·simp only [ha,if_true]
  exact⟨k,rfl,by omega,hx⟩
 ·simp only [ha,Bool.false_eq_true,if_false]
  exact⟨n,rfl,by omega,hy⟩
end
def dueB(now:Int)(x:ProcP):Bool:=decide(2≤x.state) && inB x.wake 1 now
def soonB(a b:ProcP):Bool:=decide(a.wake < b.wake)
def dueL(now:Int)(l:List ProcP):List ProcP:=l.filter(dueB now)
def nextDue(now:Int)(l:List ProcP):Option ProcP:=bestA soonB(dueL now l)
def goneP(code:Int)(x:ProcP):ProcP:= { x with code:=code,state:=1,pc:=x.pc+1,left:=0,wake:=0,on:=0,held:=noT }
def pastP(code:Int)(x:ProcP):ProcP:=if x.pc+1=x.prog.length then restP(goneP code x)else goneP code x
def wakeF(nx code:Int)(x:ProcP):ProcP:=if x.pc+1=x.prog.length then restP(goneP code x)else { goneP code x with since:=nx }
def wakeN(nx:Int)(x:ProcP):Int:=if x.pc+1=x.prog.length then nx else nx+1
def codeOf(x:ProcP):Int:=if x.state=2 then 0 else 2
def wakeStep(p:PartP)(x:ProcP):PartP:= { p with next:=wakeN p.next x,procs:=turnP x.id(wakeF p.next(codeOf x))p.procs }
def wokenN(now:Int):Nat→PartP→PartP
 | 0,p=>p
 | n+1,p=>match nextDue now p.procs with
  | none=>p
  | some x=>wokenN now n(wakeStep p x)
def wokenL(now:Int)(p:PartP):PartP:=wokenN now(dueL now p.procs).length p
theorem wakeF_id(nx code:Int)(x:ProcP):(wakeF nx code x).id=x.id∧(wakeF nx code x).prog=x.prog:=by
 unfold wakeF
 split <;> exact⟨rfl,rfl⟩
theorem wakeF_not(now nx code:Int)(x:ProcP):dueB now(wakeF nx code x)=false:=by
 unfold wakeF dueB
 split <;> simp [restP,goneP]
theorem turn_other {f:ProcP→ProcP} {id:Int} : ∀ {l:List ProcP},(∀ y∈l,y.id≠id)→turnP id f l=l
 | [],_=>rfl
 | y :: r,h=>by
  have h1:turnP id f r=r:=turn_other fun z hz=>h z(List.mem_cons_of_mem _ hz)
  simp only [turnP,List.map_cons] at h1 ⊢
  rw [if_neg(h y(by simp)),h1]
theorem due_less {now:Int} {f:ProcP→ProcP} {x:ProcP} (hf:dueB now(f x)=false)(hx:dueB now x=true): ∀ {l:List ProcP},l.Pairwise(fun x y=>x.id < y.id)→x∈l→(dueL now(turnP x.id f l)).length+1=(dueL now l).length
 | [],_,h=>by cases h
 | y :: r,hr,h=>by
  rw [List.pairwise_cons] at hr
  by_cases e:y=x
  ·subst e
   have h2:turnP y.id f(y :: r)=f y :: r:=by
    have h3:turnP y.id f r=r:=turn_other fun z hz e=>by have:=hr.1 z hz; omega
    simp only [turnP,List.map_cons,if_true] at h3 ⊢
    rw [h3]
   rw [h2]
   simp [dueL,hf,hx]
  ·have hm:x∈r:=by
    rcases List.mem_cons.1 h with h1 | h1
    ·exact absurd h1.symm e
    ·exact h1
   have h4:=due_less hf hx hr.2 hm
   have h5: ¬ y.id=x.id:=by have:=hr.1 x hm; omega
   have h6:turnP x.id f(y :: r)=y :: turnP x.id f r:=by simp [turnP,h5]
   rw [h6]
   unfold dueL at h4 ⊢
   by_cases hy:dueB now y=true
   ·simp only [List.filter_cons,hy,if_true,List.length_cons]; omega
   ·simp only [List.filter_cons,hy,Bool.false_eq_true,if_false]; exact h4
theorem turn_rise {f:ProcP→ProcP} {id:Int} (hf: ∀ x,(f x).id=x.id) {l:List ProcP} (h:l.Pairwise(fun x y=>x.id < y.id)):(turnP id f l).Pairwise(fun x y=>x.id < y.id):=by
 unfold turnP
 rw [List.pairwise_map]
 refine h.imp fun {a b} hab=> ?_
 have e: ∀ z:ProcP,(if z.id=id then f z else z).id=z.id:=fun z=>by split <;> simp [hf]
 rw [e,e]
 exact hab
theorem turn_mem {f:ProcP→ProcP} {id:Int} {l:List ProcP} {y:ProcP} (h:y∈turnP id f l):y∈l∨ ∃ x∈l,y=f x:=by
 obtain⟨z,hz,e⟩:=List.mem_map.1 h
 by_cases h1:z.id=id
 ·exact .inr⟨z,hz,by rw [← e,if_pos h1]⟩
 ·exact .inl(by rw [if_neg h1] at e; exact e ▸ hz)
structure Wk(now:Int)(p:PartP):Prop where
 rise:p.procs.Pairwise(fun x y=>x.id < y.id)
 op: ∀ x∈p.procs,2≤x.state→0≤x.pc∧x.pc < x.prog.length
 room:1≤p.next∧p.next+(dueL now p.procs).length≤1000000000
 low:p.procs.length≤6
theorem Wk.mem {now:Int} {p:PartP} {x:ProcP} (h:nextDue now p.procs=some x):x∈p.procs∧dueB now x=true:=by
 have h1:=bestA_mem soonB h
 exact List.mem_filter.1 h1
theorem Wk.step {now:Int} {p:PartP} {x:ProcP} (h:Wk now p)(hx:nextDue now p.procs=some x):Wk now(wakeStep p x)∧(dueL now(wakeStep p x).procs).length+1=(dueL now p.procs).length:=by
 obtain⟨hm,hd⟩:=Wk.mem hx
 have h1:=due_less(wakeF_not now p.next(codeOf x)x)hd h.rise hm
 refine⟨⟨turn_rise(fun y=>(wakeF_id _ _ y).1)h.rise,fun y hy hs=> ?_,?_,?_⟩,h1⟩
 ·rcases turn_mem hy with h2 | ⟨z,_,rfl⟩
  ·exact h.op y h2 hs
  ·unfold wakeF at hs
   split at hs <;> simp [restP,goneP] at hs
 ·have h2:=h.room
  have h3:(wakeStep p x).next≤p.next+1∧p.next≤(wakeStep p x).next:=by
   show wakeN p.next x≤_∧_≤wakeN p.next x
   unfold wakeN
   split <;> omega
  have h4:(dueL now(wakeStep p x).procs).length+1=(dueL now p.procs).length:=h1
  omega
 ·show (turnP _ _ p.procs).length≤6
  simpa [turnP] using h.low
theorem woken_none {now:Int} {p:PartP} (h:nextDue now p.procs=none):wokenL now p=p:=by
 unfold wokenL
 rw [bestA_none soonB h]
 rfl
theorem woken_some {now:Int} {p:PartP} {x:ProcP} (h:Wk now p)(hx:nextDue now p.procs=some x):wokenL now p=wokenL now(wakeStep p x):=by
 have h1:=(h.step hx).2
 unfold wokenL
 rw [← h1]
 simp only [wokenN,hx]
theorem Wk.of {now:Int} {p:PartP} (h:PartR p)(hn:p.next≤999999980):Wk now p:=by
 have h1:=(things_rise h.procs).2
 refine⟨h1,fun x hx hs=> ?_,?_,h.nProc⟩
 ·have h2:=(things_all h.procs x hx).2
  simp only [procB,Bool.and_eq_true] at h2
  have h3:=h2.1.1.2
  unfold stateB at h3
  have h4:hasOpB x=true:=by
   split at h3
   ·omega
   ·split at h3
    ·omega
    ·split at h3
     ·simp only [Bool.and_eq_true] at h3; exact h3.1.1.1.1
     ·split at h3
      ·simp only [Bool.and_eq_true] at h3; exact h3.1.1
      ·split at h3
       ·simp only [Bool.and_eq_true] at h3; exact h3.1.1.1
       ·cases h3
  have h5:=inB_iff.1 h4
  omega
 ·have h2:=inB_iff.1 h.next
  have h3:(dueL now p.procs).length≤p.procs.length:=List.length_filter_le _ _
  have h4:=h.nProc
  omega
end Go.Proofs.YtkbcplnlehdjfaaGreat

namespace Go.Proofs.YtkbcplnlehdjfaaGreat
open Go.RowKit Go.Maps
attribute [local go_sem ↓] Go.wp_at_zero Go.wp_at_succ
end Go.Proofs.YtkbcplnlehdjfaaGreat
