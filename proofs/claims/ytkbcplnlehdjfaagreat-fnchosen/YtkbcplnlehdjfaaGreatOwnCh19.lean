/- What the proof leans on, part 19: PartOwn, LwOp, LwSem, LwEvent, LwBoard, LwStr, ChosenI. -/
import Derived.Test.YtkbcplnlehdjfaaGreatOwnCh1
import Derived.Test.YtkbcplnlehdjfaaGreatOwnCh14
import Derived.Test.YtkbcplnlehdjfaaGreatOwnCh16
import Derived.Test.YtkbcplnlehdjfaaGreatOwnCh18
set_option maxRecDepth 100000
set_option maxHeartbeats 8000000

namespace Go.Proofs.YtkbcplnlehdjfaaGreat
open Go.RowKit
def blk(a:Option Addr):List Nat:=(a.map(·.block)).toList
theorem mem_blk {a:Option Addr} {g:Nat} :g∈blk a↔a.map(·.block)=some g:=by
 unfold blk
 cases a <;> simp [eq_comm]
def PartD.blocks(p:PartD):List Nat:=blk p.procA ++ (p.procs.filterMap procN.kid ++ (blk p.semA ++ (blk p.eventA ++ (blk p.boardA ++ (blk p.bufferA ++ (p.buffers.filterMap bufferN.kid ++ (blk p.portA ++ (p.ports.filterMap portN.kid))))))))
structure PartOwn(w:World)(base:Nat)(p:PartD):Prop where
 procs:w.ownsRow base 43 12(.slice p.procA p.procs.length p.procC)p.procs.length(procK.flat p.procs)
 sems:w.ownsRow base 49 3(.slice p.semA p.sems.length p.semC)p.sems.length(semK.flat p.sems)
 events:w.ownsRow base 138 2(.slice p.eventA p.events.length p.eventC)p.events.length(eventK.flat p.events)
 boards:w.ownsRow base 141 3(.slice p.boardA p.boards.length p.boardC)p.boards.length(boardK.flat p.boards)
 buffers:w.ownsRow base 144 3(.slice p.bufferA p.buffers.length p.bufferC)p.buffers.length(bufferK.flat p.buffers)
 ports:w.ownsRow base 61 5(.slice p.portA p.ports.length p.portC)p.ports.length(portK.flat p.ports)
 mineP: ∀ x∈p.procs,procN.Mine w base x
 mineF: ∀ x∈p.buffers,bufferN.Mine w base x
 mineQ: ∀ x∈p.ports,portN.Mine w base x
 nodup:p.blocks.Nodup
theorem own_same {w w':World} {base n size cap:Nat} {e:TypeId} {a:Option Addr} {xs:List Value} (h:w.ownsRow base e size(.slice a n cap)n xs)(hs: ∀ g,g∈blk a→w'.heap[g]? =w.heap[g]?):w'.ownsRow base e size(.slice a n cap)n xs:=by
 obtain⟨hl,h2⟩:=h
 refine⟨hl,?_⟩
 rcases h2 with h2 | ⟨g,c,cur,hv,h1,hg,r⟩
 ·exact .inl h2
 ·simp only [Value.slice.injEq] at hv
  exact .inr⟨g,c,cur,by rw [hv.1,hv.2.2],h1,(hs g(by rw [mem_blk,hv.1]; rfl)).trans hg,r⟩
theorem own_lt {w:World} {base n size cap:Nat} {e:TypeId} {a:Option Addr} {xs:List Value} (h:w.ownsRow base e size(.slice a n cap)n xs) {g:Nat} (hg:g∈blk a):base≤g∧g < w.heap.size:=by
 rcases h.2 with ⟨hv,-⟩ | ⟨g',c,cur,hv,h1,hg',r⟩
 ·simp only [Value.slice.injEq] at hv
  rw [hv.1] at hg
  simp [blk] at hg
 ·simp only [Value.slice.injEq] at hv
  rw [mem_blk,hv.1] at hg
  simp only [Option.map_some,Option.some.injEq] at hg
  subst hg
  exact⟨h1,(Array.getElem?_eq_some_iff.1 hg').1⟩
theorem mem_kids {α:Type} {N:Nest α} {l:List α} {g:Nat} :g∈l.filterMap N.kid↔ ∃ x∈l,N.kid x=some g:=List.mem_filterMap
theorem PartOwn.lt {w:World} {base:Nat} {p:PartD} (h:PartOwn w base p): ∀ g∈p.blocks,base≤g∧g < w.heap.size:=fun g hg=>by
 simp only [PartD.blocks,List.mem_append] at hg
 rcases hg with hg | hg | hg | hg | hg | hg | hg | hg | hg
 ·exact own_lt h.procs hg
 ·obtain⟨x,hx,hk⟩:=mem_kids.1 hg
  exact(h.mineP x hx).lt hk
 ·exact own_lt h.sems hg
 ·exact own_lt h.events hg
 ·exact own_lt h.boards hg
 ·exact own_lt h.buffers hg
 ·obtain⟨x,hx,hk⟩:=mem_kids.1 hg
  exact(h.mineF x hx).lt hk
 ·exact own_lt h.ports hg
 ·obtain⟨x,hx,hk⟩:=mem_kids.1 hg
  exact(h.mineQ x hx).lt hk
theorem PartOwn.same {w w':World} {base:Nat} {p:PartD} (h:PartOwn w base p)(hs: ∀ g∈p.blocks,w'.heap[g]? =w.heap[g]?):PartOwn w' base p:=by
 have hm: ∀ g,(g∈blk p.procA∨g∈p.procs.filterMap procN.kid∨g∈blk p.semA∨g∈blk p.eventA∨g∈blk p.boardA∨g∈blk p.bufferA∨g∈p.buffers.filterMap bufferN.kid∨g∈blk p.portA∨g∈p.ports.filterMap portN.kid)→g∈p.blocks:=fun g hg=>by
  simp only [PartD.blocks,List.mem_append]
  exact hg
 exact⟨own_same h.procs fun g hg=>hs g(hm g(.inl hg)),own_same h.sems fun g hg=>hs g(hm g(.inr(.inr(.inl hg)))),own_same h.events fun g hg=>hs g(hm g(.inr(.inr(.inr(.inl hg))))),own_same h.boards fun g hg=>hs g(hm g(.inr(.inr(.inr(.inr(.inl hg)))))),own_same h.buffers fun g hg=>hs g(hm g(.inr(.inr(.inr(.inr(.inr(.inl hg))))))),own_same h.ports fun g hg=>hs g(hm g(.inr(.inr(.inr(.inr(.inr(.inr(.inr(.inl hg))))))))),fun x hx=>(h.mineP x hx).same fun g hk=>hs g(hm g(.inr(.inl((mem_kids.2⟨x,hx,hk⟩))))),fun x hx=>(h.mineF x hx).same fun g hk=>hs g(hm g(.inr(.inr(.inr(.inr(.inr(.inr(.inl((mem_kids.2⟨x,hx,hk⟩)))))))))),fun x hx=>(h.mineQ x hx).same fun g hk=>hs g(hm g(.inr(.inr(.inr(.inr(.inr(.inr(.inr(.inr((mem_kids.2⟨x,hx,hk⟩))))))))))),h.nodup⟩
theorem PartOwn.below {w w':World} {base:Nat} {p:PartD} (h:PartOwn w base p)(hb:Below w.heap.size w w'):PartOwn w' base p:=h.same fun g hg=>hb.block g(h.lt g hg).2
theorem PartOwn.lower {w:World} {base base':Nat} {p:PartD} (h:PartOwn w base p)(hb:base'≤base):PartOwn w base' p:=
 ⟨own_low h.procs hb,own_low h.sems hb,own_low h.events hb,own_low h.boards hb,own_low h.buffers hb,own_low h.ports hb,fun x hx=>(h.mineP x hx).low hb,fun x hx=>(h.mineF x hx).low hb,fun x hx=>(h.mineQ x hx).low hb,h.nodup⟩
theorem PartOwn.at {w:World} {base:Nat} {p:PartD} (h:PartOwn w base p):PartD.At w p:=by
 refine⟨⟨own_row h.procs,fun x hx r hr=> ?_⟩,⟨own_row h.sems,fun x hx r hr=> ?_⟩,⟨own_row h.events,fun x hx r hr=> ?_⟩,⟨own_row h.boards,fun x hx r hr=> ?_⟩,⟨own_row h.buffers,fun x hx r hr=> ?_⟩,⟨own_row h.ports,fun x hx r hr=> ?_⟩⟩
 ·simp only [procK,List.mem_cons,List.not_mem_nil,or_false] at hr
  subst hr
  exact(h.mineP x hx).row
 ·simp [semK] at hr
 ·simp [eventK] at hr
 ·simp [boardK] at hr
 ·simp only [bufferK,List.mem_cons,List.not_mem_nil,or_false] at hr
  subst hr
  exact(h.mineF x hx).row
 ·simp only [portK,List.mem_cons,List.not_mem_nil,or_false] at hr
  subst hr
  exact(h.mineQ x hx).row
structure PartP.Small(p:PartP):Prop where
 nProc:p.procs.length≤1048576
 nSem:p.sems.length≤1048576
 nEvent:p.events.length≤1048576
 nBoard:p.boards.length≤1048576
 nBuffer:p.buffers.length≤1048576
 nPort:p.ports.length≤1048576
 procs: ∀ x∈p.procs,(x.prog.length≤1048576∧(∀ o∈x.prog,o.2.2.2.size≤1048576)∧x.held.size≤1048576∧x.got.size≤1048576)∧(Lit.int .i64 x.id).wf=true∧(Lit.int .i64 x.on).wf=true∧(Lit.int .i64 x.since).wf=true
 sems: ∀ x∈p.sems,(Lit.int .i64 x.id).wf=true
 events: ∀ x∈p.events,(Lit.int .i64 x.id).wf=true
 boards: ∀ x∈p.boards,(Lit.int .i64 x.id).wf=true∧x.text.size≤1048576
 buffers: ∀ x∈p.buffers,(Lit.int .i64 x.id).wf=true∧x.items.length≤1048576∧ ∀ s∈x.items,s.size≤1048576
 ports: ∀ x∈p.ports,(Lit.int .i64 x.id).wf=true∧x.items.length≤1048576∧ ∀ s∈x.items,s.size≤1048576
section
variable {p:PartD}
theorem small_short(h:p.pure.Small):p.Short:=by
 have h1:=h.nProc
 have h2:=h.nBuffer
 have h3:=h.nPort
 simp only [PartD.pure,List.length_map] at h1 h2 h3
 exact⟨h1,h.nSem,h.nEvent,h.nBoard,h2,h3⟩
theorem small_proc(h:p.pure.Small) {x:ProcD} (hx:x∈p.procs):x.Short∧x.Wf:=by
 have:=h.procs x.toProcP(List.mem_map.2⟨x,hx,rfl⟩)
 exact⟨⟨this.1.1,this.1.2.1,this.1.2.2.1,this.1.2.2.2⟩,⟨this.2.1,this.2.2.1,this.2.2.2⟩⟩
theorem small_buffer(h:p.pure.Small) {x:BufferD} (hx:x∈p.buffers):(Lit.int .i64 x.id).wf=true∧x.items.length≤1048576∧ ∀ s∈x.items,s.size≤1048576:=h.buffers x.toBufferP(List.mem_map.2⟨x,hx,rfl⟩)
theorem small_port(h:p.pure.Small) {x:PortD} (hx:x∈p.ports):(Lit.int .i64 x.id).wf=true∧x.items.length≤1048576∧ ∀ s∈x.items,s.size≤1048576:=h.ports x.toPortP(List.mem_map.2⟨x,hx,rfl⟩)
theorem small_fit(h:p.pure.Small):p.Fit:=⟨small_short h,fun b hb=>(h.boards b hb).2,fun _ hb=>(small_buffer h hb).2,fun _ hb=>(small_port h hb).2⟩
theorem small_good(h:p.pure.Small) {w:World} {base:Nat} (ho:PartOwn w base p):p.Good w:=
 ⟨ho.at,small_short h,fun _ hx=>small_proc h hx,h.sems,h.events,h.boards,fun _ hx=>small_buffer h hx,fun _ hx=>small_port h hx,fun x hx _ hk=>((ho.mineP x hx).lt hk).2,fun x hx _ hk=>((ho.mineF x hx).lt hk).2,fun x hx _ hk=>((ho.mineQ x hx).lt hk).2⟩
end
def Keeps(lo:Nat)(F:World→Prop)(W:World):Prop:= ∀ W',(∀ g,lo≤g→g < W.heap.size→W'.heap[g]? =W.heap[g]?)→W.heap.size≤W'.heap.size→F W'
theorem Keeps.here {lo:Nat} {F:World→Prop} {W:World} (h:Keeps lo F W):F W:=h W(fun _ _ _=>rfl)(Nat.le_refl _)
theorem Keeps.step {lo:Nat} {F:World→Prop} {W W1:World} (h:Keeps lo F W)(hs: ∀ g,lo≤g→g < W.heap.size→W1.heap[g]? =W.heap[g]?)(hz:W.heap.size≤W1.heap.size):Keeps lo F W1:=fun W' h' hz'=>
 h W'(fun g h1 h2=>(h' g h1(by omega)).trans(hs g h1 h2))(by omega)
end Go.Proofs.YtkbcplnlehdjfaaGreat

namespace Go.Proofs.YtkbcplnlehdjfaaGreat
open Go.RowKit
attribute [local go_sem ↓] Go.wp_at_zero Go.wp_at_succ
end Go.Proofs.YtkbcplnlehdjfaaGreat

namespace Go.Proofs.YtkbcplnlehdjfaaGreat
open Go.RowKit
attribute [local go_sem ↓] Go.wp_at_zero Go.wp_at_succ
end Go.Proofs.YtkbcplnlehdjfaaGreat

namespace Go.Proofs.YtkbcplnlehdjfaaGreat
open Go.RowKit
attribute [local go_sem ↓] Go.wp_at_zero Go.wp_at_succ
end Go.Proofs.YtkbcplnlehdjfaaGreat

namespace Go.Proofs.YtkbcplnlehdjfaaGreat
open Go.RowKit
attribute [local go_sem ↓] Go.wp_at_zero Go.wp_at_succ
end Go.Proofs.YtkbcplnlehdjfaaGreat

namespace Go.Proofs.YtkbcplnlehdjfaaGreat
open Go.RowKit
attribute [local go_sem ↓] Go.wp_at_zero Go.wp_at_succ
end Go.Proofs.YtkbcplnlehdjfaaGreat

namespace Go.Proofs.YtkbcplnlehdjfaaGreat
open Go.RowKit Go.Maps
attribute [local go_sem ↓] Go.wp_at_zero Go.wp_at_succ
theorem part_procs {p:PartP} (h:partB p=true): ∀ x∈p.procs,inB x.id 1 1000=true∧procB x=true:=fun x hx=>by
 have h1:=things_all((partB_iff _).1 h).procs x hx
 have h2:=h1.2
 simp only [Bool.and_eq_true] at h2
 exact⟨h1.1,h2.1.1⟩
theorem chosen_none {p:PartP} (h:partB p=true)(hb:bestL(p.procs.filter fun x=>decide(x.state=1) && decide(x.on=0))=none):chosenB p=0:=by
 rw [ready_on fun x hx=>(part_procs h x hx).2] at hb
 simp only [chosenB,h,if_true,chosenL,hb]
theorem chosen_some {p:PartP} {y:ProcP} (h:partB p=true)(hb:bestL(p.procs.filter fun x=>decide(x.state=1) && decide(x.on=0))=some y):chosenB p=y.id:=by
 rw [ready_on fun x hx=>(part_procs h x hx).2] at hb
 simp only [chosenB,h,if_true,chosenL,hb]
theorem best_none {f:ProcP→Bool} {l:List ProcP} {i:Int} (h:BestIs f l l.length i)(hi:i < 0):bestL(l.filter f)=none:=by
 unfold BestIs at h
 rw [List.take_length] at h
 split at h
 ·assumption
 ·obtain⟨n,h1,_⟩:=h
  omega
theorem specChosen_any(p:PartD)(w:World)(hf:p.Fit)(hs: ∀ x∈p.procs,x.Short)(h:PartD.At w p):
  Calls Tryz.prog 53 #[.agg p.cells] w fun e w'=>e= .returned(.int .i64(chosenB p.pure))∧Below w.heap.size w w':=by
 have HB:Hid(PartBox(w.alloc(.cells p.cells 32))w.heap.size p∧PartD.At(w.alloc(.cells p.cells 32))p∧Below w.heap.size w(w.alloc(.cells p.cells 32))):=⟨heap_alloc_new _ _,h.below((Below.refl _ _).alloc(Nat.le_refl _)_),(Below.refl _ _).alloc(Nat.le_refl _)_⟩
 have HFT:Hid(p.Fit∧ ∀ x∈p.procs,x.Short):=⟨hf,hs⟩
 clear h hf hs
 unfold PartD.cells at *
 go_enter Tryz.func53,Tryz.ntmps53
 go_wp2_with fail
 generalize w.alloc(.cells p.row 32)=W at *
 refine(specPartOk_any p W HFT.out.1 HFT.out.2 HB.out.2.1).mono ?_
 rintro e W1⟨rfl,hb1⟩
 have HB1:Hid(PartBox W1 w.heap.size p∧PartD.At W1 p∧Below w.heap.size w W1):=⟨HB.out.1.below hb1,HB.out.2.1.below hb1,HB.out.2.2.trans(hb1.mono HB.out.2.2.size)⟩
 clear hb1 HB
 cases h4:partB p.pure
 ·have HN:Hid(chosenB p.pure=0):=by show chosenB _=0; simp [chosenB,h4]
  clear h4
  go_wp2
  go_ret
  exact⟨ret_int HN.out.symm,HB1.out.2.2⟩
 have H4:Hid(partB p.pure=true):=h4
 clear h4
 obtain⟨m0,m1,m2,m3,m4,m5,m6,m7⟩:=HB1.out.1.cells
 go_wp2_with fail
 clear m0 m1 m2 m3 m4 m5 m6 m7
 refine(l4Best_any p 1 0 W1 HFT.out.1.short.procs HB1.out.2.1).mono ?_
 rintro e W2⟨⟨i,rfl,hbi⟩,hb2⟩
 have HB2:Hid(PartBox W2 w.heap.size p∧PartD.At W2 p∧Below w.heap.size w W2):=⟨HB1.out.1.below hb2,HB1.out.2.1.below hb2,HB1.out.2.2.trans(hb2.mono HB1.out.2.2.size)⟩
 have hpl:p.pure.procs.length=p.procs.length:=by simp [PartD.pure]
 by_cases hi:i < 0
 ·have HN:Hid(chosenB p.pure=0):=chosen_none H4.out(best_none(by rw [hpl]; exact hbi)hi)
  have dz:decide(i < 0)=true:=decide_eq_true hi
  clear hbi hb2 hpl hi
  go_wp2
  go_ret
  exact⟨ret_int HN.out.symm,HB2.out.2.2⟩
 have dz:decide(i < 0)=false:=decide_eq_false hi
 obtain⟨n,y0,hin,hn,hy0,hbe⟩:=hbi.got hi
 subst hin
 rw [List.take_of_length_le(by omega)] at hbe
 obtain⟨y,hy,rfl⟩: ∃ y,p.procs[n]? =some y∧y.toProcP=y0:=by
  have h5:(p.procs.map(·.toProcP))[n]? =some y0:=hy0
  rw [List.getElem?_map,Option.map_eq_some_iff] at h5
  exact h5
 have HN:Hid(chosenB p.pure=y.id):=chosen_some H4.out hbe
 have j0:(0:Int)≤(n:Int):=by omega
 have j1:(n:Int) < (p.procs.length:Int):=by omega
 obtain⟨gs,ha,hat⟩:=proc_at HB2.out.2.1.1 hy
 obtain⟨-,-,m2,-⟩:=HB2.out.1.cells
 rw [ha] at m2
 have y0:=hat.1
 clear hy hy0 hbe hi hat hbi hb2 hpl ha
 go_wp2
 go_ret
 exact⟨ret_int HN.out.symm,HB2.out.2.2⟩
theorem open_wf {S:OpenD} (h:PartR S.pure): ∀ p∈keysOf(fun x:ProcD=>x.id)S.lp,(Lit.int .i64 p.1).wf=true:=fun p hp=>by
 obtain⟨r,hr,rfl⟩:=List.mem_map.1 hp
 have h1:=(things_all h.procs r.1.toProcP(List.mem_map.2⟨r,hr,rfl⟩)).1
 have h2:=inB_iff.1 h1
 have e1:IntKind.min .i64≤0:=by decide
 have e2:100000≤IntKind.max .i64:=by decide
 simp only [Lit.wf,Bool.and_eq_true,decide_eq_true_eq]
 have h3:r.1.toProcP.id=r.1.id:=rfl
 omega
theorem implChosen_any(p:PartD)(w:World)(hg:p.Good w):Calls Tryz.prog 25 #[.agg p.cells] w fun e w'=>e= .returned(.int .i64(chosenB p.pure))∧Below w.heap.size w w':=by
 have HG:Hid(p.Good(w.alloc(.cells p.cells 32))∧Below w.heap.size w(w.alloc(.cells p.cells 32))):=⟨hg.below((Below.refl _ _).alloc(Nat.le_refl _)_),(Below.refl _ _).alloc(Nat.le_refl _)_⟩
 clear hg
 unfold PartD.cells at *
 go_enter Tryz.func25,Tryz.ntmps25
 go_wp2_with fail
 generalize w.alloc(.cells p.row 32)=W at *
 refine(opened_any p W HG.out.1).mono ?_
 rintro e w1⟨hb1,⟨hno,rfl⟩ | ⟨hyes,o,S,rfl,hat,hpu⟩⟩
 ·have HZ:Hid(Below w.heap.size w w1∧chosenB p.pure=0):=⟨HG.out.2.trans(hb1.mono HG.out.2.size),by simp [chosenB,partB_false hno]⟩
  clear hb1 hno
  go_wp2
  go_ret
  exact⟨ret_int HZ.out.2.symm,HZ.out.1⟩
 have HZ:Hid(Below w.heap.size w w1∧PartR S.pure∧OpenAt w1 W.heap.size o S∧S.pure=p.pure):=⟨HG.out.2.trans(hb1.mono HG.out.2.size),by rw [hpu]; exact hyes,hat,hpu⟩
 have HLN:Hid(S.lp.length≤1048576):=by have h5:=HZ.out.2.1.nProc; have h6:S.pure.procs.length=S.lp.length:=(by simp [OpenD.pure]); show S.lp.length≤_; omega
 clear hb1 hyes hat hpu
 go_wp2_with fail
 refine(chosen_any o S.q S.lp W.heap.size w1 HZ.out.2.2.1.opn HZ.out.2.2.1.procs HLN.out(open_wf HZ.out.2.1)).mono ?_
 rintro e w2⟨rfl,hb2⟩
 have HB2:Hid(Below w.heap.size w w2):=HZ.out.1.trans(hb2.mono HZ.out.1.size)
 by_cases hr:0 < (readyL S.lp).length
 ·have dr:decide(0 < (readyL S.lp).length)=true:=decide_eq_true hr
  obtain⟨y,hy,hym⟩:=bestD_take(l:=readyL S.lp)hr(Nat.le_refl _)
  rw [List.take_length] at hy
  have HC:Hid(chosenB p.pure=y.1.id):=by
   have h5:=bestD_pure(readyL S.lp)
   rw [hy,readyL_pure] at h5
   show chosenB _=_
   rw [← HZ.out.2.2.2]
   simp only [chosenB,partB_true HZ.out.2.1,if_true,chosenL]
   have h6:bestL(S.pure.procs.filter fun x=>decide(x.state=1))=some y.1.toProcP:=h5.symm
   rw [h6]
  have hbx:w2.heap[y.2]? =some(.cells(procVs y.1)43(0,0)):=(HZ.out.2.2.1.procs.below hb2).box y(List.mem_filter.1 hym).1
  obtain⟨s0,-⟩:=proc_cells hbx
  rw [hy,dr]
  simp only [ptrO,ptrV,Option.map_some]
  clear hb2 hr dr hy hym hbx
  go_wp2
  go_ret
  exact⟨ret_int HC.out.symm,HB2.out⟩
 ·have dr:decide(0 < (readyL S.lp).length)=false:=decide_eq_false hr
  have he:readyL S.lp= [] :=List.eq_nil_of_length_eq_zero(by omega)
  have HC:Hid(chosenB p.pure=0):=by
   have h5:=bestD_pure(readyL S.lp)
   rw [readyL_pure] at h5
   show chosenB _=_
   rw [← HZ.out.2.2.2]
   simp only [chosenB,partB_true HZ.out.2.1,if_true,chosenL]
   have h6:bestL(S.pure.procs.filter fun x=>decide(x.state=1))=none:=by rw [show S.pure.procs=S.lp.map(·.1.toProcP)from rfl,← h5,he]; rfl
   rw [h6]
  rw [dr,he]
  clear hb2 hr dr he
  go_wp2
  go_ret
  exact⟨ret_int HC.out.symm,HB2.out⟩
end Go.Proofs.YtkbcplnlehdjfaaGreat
