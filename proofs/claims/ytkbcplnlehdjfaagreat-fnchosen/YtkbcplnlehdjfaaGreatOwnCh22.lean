/- What the proof leans on, part 22: L3Copy2. -/
import Derived.Test.YtkbcplnlehdjfaaGreatOwnCh20
import Derived.Test.YtkbcplnlehdjfaaGreatOwnCh21
set_option maxRecDepth 100000
set_option maxHeartbeats 8000000

namespace Go.Proofs.YtkbcplnlehdjfaaGreat
open Go.RowKit
attribute [local go_sem ↓] Go.wp_at_zero Go.wp_at_succ
def copyFr(p:PartD)(B:Nat)(b0 d0 b1 d1 b2 d2 b3 e:Bool)(g0 g1 g2 o:Nat)(a0 a1 a2:Option Addr)(c0 c1 c2:Nat):Act:=⟨#[.agg #[.int .i64 p.id,.int .i64 p.next,.slice p.procA p.procs.length p.procC,.slice p.semA p.sems.length p.semC,.slice p.eventA p.events.length p.eventC,.slice p.boardA p.boards.length p.boardC,.slice p.bufferA p.buffers.length p.bufferC,.slice p.portA p.ports.length p.portC],.pointer(some⟨B,0,none⟩),.pointer(some⟨(B+1),0,none⟩),bif b3 then .pointer(some⟨o,0,none⟩)else undef,undef,undef,undef,undef,undef,undef,.pointer(some⟨B,0,none⟩),.int .i64 p.id,.pointer(some⟨B,1,none⟩),.int .i64 p.next,bif b0 then .slice(some⟨g0,0,none⟩)0 0 else undef,.pointer(some⟨B,3,none⟩),.slice p.semA p.sems.length p.semC,bif d0 then .slice a0 p.sems.length c0 else undef,bif b1 then .slice(some⟨g1,0,none⟩)0 0 else undef,.pointer(some⟨B,4,none⟩),.slice p.eventA p.events.length p.eventC,bif d1 then .slice a1 p.events.length c1 else undef,bif b2 then .slice(some⟨g2,0,none⟩)0 0 else undef,.pointer(some⟨B,5,none⟩),.slice p.boardA p.boards.length p.boardC,bif d2 then .slice a2 p.boards.length c2 else undef,bif e then .agg #[.int .i64 p.id,.int .i64 p.next,.slice none 0 0,.slice a0 p.sems.length c0,.slice a1 p.events.length c1,.slice a2 p.boards.length c2,.slice none 0 0,.slice none 0 0] else undef,undef,undef,undef,undef,undef,undef,undef,undef,undef,undef,undef,undef,undef,undef,undef,undef,undef,undef,undef,undef,undef,undef,undef,undef,undef,undef,undef,undef,undef,undef,undef,undef,undef,undef,undef,undef,undef,undef,undef,undef,undef,undef,undef,undef,undef,undef,undef,undef,undef,undef,undef,undef,undef,undef,undef,undef,undef,undef,undef,undef,undef,undef,undef,undef,undef,undef,undef,undef,undef,undef],[]⟩
def CopyInv(p:PartD)(We:World)(l:Array Bool)(a:Act)(w:World):Prop:= ∃ (b0 d0 b1 d1 b2 d2 b3 d3 e:Bool)(g0 g1 g2 o:Nat)(a0 a1 a2:Option Addr)(c0 c1 c2:Nat),l= #[true,true,true,true,b0,true,true,d0,b1,true,true,d1,b2,true,true,d2,e,b3,d3] ∧a=copyFr p We.heap.size b0 d0 b1 d1 b2 d2 b3 e g0 g1 g2 o a0 a1 a2 c0 c1 c2∧CopyF p We w b0 d0 b1 d1 b2 d2 b3 d3 e g0 g1 g2 o a0 a1 a2 c0 c1 c2
structure CopyL(p:PartD)(We w:World)(o:Nat)(q:PartD):Prop where
 bel:Below We.heap.size We w
 part:PartBox w We.heap.size p
 ret:w.heap[We.heap.size+1]? =some(.cells zero8 32(0,0))
 out:PartBox w o q
 own:PartOwn w(We.heap.size+2)q
 low:We.heap.size+2≤o
 free:o∉q.blocks
theorem CopyL.below {p:PartD} {We w w':World} {o:Nat} {q:PartD} (h:CopyL p We w o q)(hb:Below w.heap.size w w'):CopyL p We w' o q:=
 ⟨h.bel.trans(hb.mono h.bel.size),h.part.below hb,(hb.block _(Array.getElem?_eq_some_iff.1 h.ret).1).trans h.ret,h.out.below hb,h.own.below hb,h.low,h.free⟩
theorem CopyL.start {p:PartD} {We w:World} {g0 g1 g2 o:Nat} {a0 a1 a2:Option Addr} {c0 c1 c2:Nat} (h:CopyF p We w true true true true true true true true true g0 g1 g2 o a0 a1 a2 c0 c1 c2):
  CopyL p We w o⟨p.id,p.next,[],none,0,p.sems,a0,c0,p.events,a1,c1,p.boards,a2,c2,[],none,0,[],none,0⟩:=by
 have hap:=h.apt.apart
 refine⟨h.bel,h.part,h.ret,h.out rfl,⟨World.ownsRow_nil _ _ _ _,h.s0.done rfl,h.s1.done rfl,h.s2.done rfl,World.ownsRow_nil _ _ _ _,World.ownsRow_nil _ _ _ _,(fun x hx=>by cases hx),(fun x hx=>by cases hx),(fun x hx=>by cases hx),?_⟩,(h.apt.lts 3 o(by simp [four])).1,?_⟩
 ·have e:PartD.blocks⟨p.id,p.next,[],none,0,p.sems,a0,c0,p.events,a1,c1,p.boards,a2,c2,[],none,0,[],none,0⟩=blk a0 ++ (blk a1 ++ blk a2):=by simp [PartD.blocks,blk]
  rw [e]
  simp only [List.nodup_append,List.mem_append]
  refine⟨blk_nodup _,⟨blk_nodup _,blk_nodup _,fun a ha b hb e=> ?_⟩,fun a ha b hb e=> ?_⟩
  ·subst e
   exact hap 1 2(by decide)a(by simpa [four,slotB] using ha)(by simpa [four,slotB] using hb)
  ·subst e
   rcases hb with hb | hb
   ·exact hap 0 1(by decide)a(by simpa [four,slotB] using ha)(by simpa [four,slotB] using hb)
   ·exact hap 0 2(by decide)a(by simpa [four,slotB] using ha)(by simpa [four,slotB] using hb)
 ·have e:PartD.blocks⟨p.id,p.next,[],none,0,p.sems,a0,c0,p.events,a1,c1,p.boards,a2,c2,[],none,0,[],none,0⟩=blk a0 ++ (blk a1 ++ blk a2):=by simp [PartD.blocks,blk]
  rw [e]
  simp only [List.mem_append]
  rintro (hb | hb | hb)
  ·exact hap 3 0(by decide)o(by simp [four])(by simpa [four,slotB] using hb)
  ·exact hap 3 1(by decide)o(by simp [four])(by simpa [four,slotB] using hb)
  ·exact hap 3 2(by decide)o(by simp [four])(by simpa [four,slotB] using hb)
theorem own_block {a:Option Addr} {n c g:Nat} (h:(Value.slice a n c).ownBlock=some g):g∈blk a:=by
 cases a with
 | none=>simp [Value.ownBlock] at h
 | some ad=>simp [Value.ownBlock] at h; simp [blk,h]
theorem setCell_other {w:World} {o i g:Nat} {v:Value} (h:g≠o):(w.setCell⟨o,i,none⟩v).heap[g]? =w.heap[g]? :=setAllW_other [v] h
theorem setCell_block {w:World} {o i:Nat} {v:Value} {cs:Array Value} {t:TypeId} (h:w.heap[o]? =some(.cells cs t(0,0))):(w.setCell⟨o,i,none⟩v).heap[o]? =some(.cells(cs.setIfInBounds i v)t(0,0)):=setAllW_heap [v] h
theorem below_setCell {B o i:Nat} {w0 w:World} {v:Value} (h:Below B w0 w)(hb:B≤o):Below B w0(w.setCell⟨o,i,none⟩v):=
 ⟨h.os,h.tape,h.output,by have:=h.size; rw [show (w.setCell⟨o,i,none⟩v).heap.size=w.heap.size from setAllW_size [v]]; exact this,fun k hk=>(setCell_other(by omega)).trans(h.block k hk)⟩
theorem lenProc {p q:PartD} {k:Nat} (h:q.pure= { p.pure with procs:=p.pure.procs.take k,buffers:= [],ports:= [] })(hk:k≤p.procs.length):q.procs.length=k:=by
 have h5:=congrArg(fun z=>(PartP.procs z).length)h
 simp [PartD.pure] at h5
 omega
theorem lenBuffer {p q:PartD} {k:Nat} (h:q.pure= { p.pure with buffers:=p.pure.buffers.take k,ports:= [] })(hk:k≤p.buffers.length):q.buffers.length=k:=by
 have h5:=congrArg(fun z=>(PartP.buffers z).length)h
 simp [PartD.pure] at h5
 omega
theorem lenPort {p q:PartD} {k:Nat} (h:q.pure= { p.pure with ports:=p.pure.ports.take k })(hk:k≤p.ports.length):q.ports.length=k:=by
 have h5:=congrArg(fun z=>(PartP.ports z).length)h
 simp [PartD.pure] at h5
 omega
theorem CopyL.addProc {p:PartD} {We w w':World} {o:Nat} {q:PartD} {x:ProcD} {a:Option Addr} {c:Nat} (h:CopyL p We w o q)(hm:procN.Mine w(We.heap.size+2)x)(hx: ∀ g,procN.kid x=some g→g∉q.blocks∧g≠o)
  (ho:w'.ownsRow(We.heap.size+2)43 12(.slice a(q.procs.length+1)c)(q.procs.length+1)(procK.flat(q.procs ++ [x])))(hg:w.grownBy w'((Value.slice q.procA q.procs.length q.procC).ownBlock))(hb: ∀ g∈blk a,g∈blk q.procA∨g=w.heap.size):
  CopyL p We(w'.setCell⟨o,2,none⟩(.slice a(q.procs.length+1)c))o({ q with procs:=q.procs ++ [x],procA:=a,procC:=c } :PartD):=by
 have hol:o < w.heap.size:=(Array.getElem?_eq_some_iff.1 h.out).1
 have hrow: ∀ g,g < w.heap.size→g∉blk q.procA→w'.heap[g]? =w.heap[g]? :=fun g hgl hn=>hg.block g hgl fun e=>hn(own_block e.symm)
 obtain⟨hown,hbl⟩:=h.own.addProc hm(fun g hk=>(hx g hk).1)ho hrow hb
 have hoA:o∉blk q.procA:=fun hm'=>h.free(by simp [PartD.blocks,hm'])
 have hlow: ∀ g,g∈blk q.procA→We.heap.size+2≤g:=fun g hg'=>(own_lt h.own.procs hg').1
 have hfree:o∉({ q with procs:=q.procs ++ [x],procA:=a,procC:=c } :PartD).blocks:=fun hm'=>by
  rcases hbl o hm' with h1 | h1 | h1
  ·exact h.free h1
  ·exact(hx o h1).2 rfl
  ·omega
 have hsc: ∀ g,g≠o→(w'.setCell⟨o,2,none⟩(.slice a(q.procs.length+1)c)).heap[g]? =w'.heap[g]? :=fun g hne=>setCell_other hne
 have hbw:Below We.heap.size We w':=h.bel.grown hg(by have:=h.low; omega)(fun k hk=>by have:=hlow k(own_block hk); omega)
 have hout:w'.heap[o]? =w.heap[o]? :=hrow o hol hoA
 have hlo:=h.low
 refine⟨below_setCell hbw(by omega),(hsc _(by omega)).trans((hrow _(by omega)fun hm'=>by have:=hlow _ hm'; omega).trans h.part),(hsc _(by omega)).trans((hrow _(by omega)fun hm'=>by have:=hlow _ hm'; omega).trans h.ret),?_,hown.same fun g hg'=>hsc g fun e=>hfree(e ▸ hg'),h.low,hfree⟩
 have h5:=setCell_block(i:=2)(v:= .slice a(q.procs.length+1)c)(hout.trans h.out)
 have e:(q.procs ++ [x]).length=q.procs.length+1:=by simp
 unfold PartBox
 simp only [e]
 exact h5
def CpProc(wr w7:World)(x:ProcD)(a2:Option Addr)(c2:Nat):Prop:=w7.heap[wr.heap.size]? =some(.cells #[.int .i64 x.id,.int .i64 x.prio,.slice x.progA x.prog.length x.progC,.int .i64 x.state,.int .i64 x.pc,.int .i64 x.left,.int .i64 x.wake,.int .i64 x.on,.string x.held,.string x.got,.int .i64 x.code,.int .i64 x.since] 43(0,0))∧Below wr.heap.size wr w7∧w7.ownsRow wr.heap.size 134 4(.slice a2 x.prog.length c2)x.prog.length(opK.flat x.prog)∧ ∀ g∈blk a2,g=wr.heap.size+1∨g=wr.heap.size+2
section
variable {p q:PartD} {We wr w7 w10 W8 W9:World} {o c2 c k:Nat} {x:ProcD} {a2 a:Option Addr}
theorem CopyL.inProc(h:CopyL p We wr o q)(h7:CpProc wr w7 x a2 c2)(e8:W8=w7.setCell⟨wr.heap.size,2,none⟩(.slice a2 x.prog.length c2)):W8.cell? ⟨o,2,none⟩=some(.slice q.procA q.procs.length q.procC)∧W8.cell? ⟨wr.heap.size,0,none⟩=some(.int .i64 x.id)∧W8.cell? ⟨wr.heap.size,1,none⟩=some(.int .i64 x.prio)∧W8.cell? ⟨wr.heap.size,2,none⟩=some(.slice a2 x.prog.length c2)∧W8.cell? ⟨wr.heap.size,3,none⟩=some(.int .i64 x.state)∧W8.cell? ⟨wr.heap.size,4,none⟩=some(.int .i64 x.pc)∧W8.cell? ⟨wr.heap.size,5,none⟩=some(.int .i64 x.left)∧W8.cell? ⟨wr.heap.size,6,none⟩=some(.int .i64 x.wake)∧W8.cell? ⟨wr.heap.size,7,none⟩=some(.int .i64 x.on)∧W8.cell? ⟨wr.heap.size,8,none⟩=some(.string x.held)∧W8.cell? ⟨wr.heap.size,9,none⟩=some(.string x.got)∧W8.cell? ⟨wr.heap.size,10,none⟩=some(.int .i64 x.code)∧W8.cell? ⟨wr.heap.size,11,none⟩=some(.int .i64 x.since):=by
 subst e8
 have hol:o < wr.heap.size:=(Array.getElem?_eq_some_iff.1 h.out).1
 have h1:=(setCell_other(i:=2)(v:= .slice a2 x.prog.length c2)(by omega:o≠wr.heap.size)).trans(h7.2.1.block o hol)
 have h2:=setCell_block(i:=2)(v:= .slice a2 x.prog.length c2)h7.1
 have h3:=h1.trans h.out
 refine⟨by simp [World.cell?,h3],?_⟩
 simp [World.cell?,h2]
theorem CopyL.beProc(h7:CpProc wr w7 x a2 c2)(e8:W8=w7.setCell⟨wr.heap.size,2,none⟩(.slice a2 x.prog.length c2))(e9:W9=W8.alloc(.cells #[.int .i64 x.id,.int .i64 x.prio,.slice a2 x.prog.length c2,.int .i64 x.state,.int .i64 x.pc,.int .i64 x.left,.int .i64 x.wake,.int .i64 x.on,.string x.held,.string x.got,.int .i64 x.code,.int .i64 x.since] 43)):Below wr.heap.size wr W9∧W8.heap.size=w7.heap.size:=by
 subst e8 e9
 exact⟨(below_setCell h7.2.1(Nat.le_refl _)).alloc(below_setCell h7.2.1(Nat.le_refl _)).size _,setAllW_size [_]⟩
theorem CopyL.rowProc(h:CopyL p We wr o q)(h7:CpProc wr w7 x a2 c2)(e8:W8=w7.setCell⟨wr.heap.size,2,none⟩(.slice a2 x.prog.length c2))(e9:W9=W8.alloc(.cells #[.int .i64 x.id,.int .i64 x.prio,.slice a2 x.prog.length c2,.int .i64 x.state,.int .i64 x.pc,.int .i64 x.left,.int .i64 x.wake,.int .i64 x.on,.string x.held,.string x.got,.int .i64 x.code,.int .i64 x.since] 43)):W9.ownsRow(We.heap.size+2)43 12(.slice q.procA q.procs.length q.procC)q.procs.length(procK.flat q.procs)∧W9.heap[w7.heap.size]? =some(.cells #[.int .i64 x.id,.int .i64 x.prio,.slice a2 x.prog.length c2,.int .i64 x.state,.int .i64 x.pc,.int .i64 x.left,.int .i64 x.wake,.int .i64 x.on,.string x.held,.string x.got,.int .i64 x.code,.int .i64 x.since] 43(0,0)):=by
 have hb9:=CopyL.beProc h7 e8 e9
 refine⟨(h.below hb9.1).own.procs,?_⟩
 subst e9
 have h5:=heap_alloc_new W8(.cells #[.int .i64 x.id,.int .i64 x.prio,.slice a2 x.prog.length c2,.int .i64 x.state,.int .i64 x.pc,.int .i64 x.left,.int .i64 x.wake,.int .i64 x.on,.string x.held,.string x.got,.int .i64 x.code,.int .i64 x.since] 43)
 rwa [hb9.2] at h5
theorem CopyL.upProc(h:q.pure= { p.pure with procs:=p.pure.procs.take k,buffers:= [],ports:= [] })(hx:p.procs[k]? =some x):({ q with procs:=q.procs ++ [({ x with progA:=a2,progC:=c2 } :ProcD)],procA:=a,procC:=c } :PartD).pure= { p.pure with procs:=p.pure.procs.take(k+1),buffers:= [],ports:= [] } :=by
 have e:p.pure.procs.take(k+1)=p.pure.procs.take k ++ [x.toProcP] :=by
  rw [take_up(x:=x.toProcP)]
  show (p.procs.map(·.toProcP))[k]? =_
  rw [List.getElem?_map,hx]
  rfl
 rw [e]
 have h5:=congrArg PartP.procs h
 have h6:(q.procs ++ [({ x with progA:=a2,progC:=c2 } :ProcD)]).map(·.toProcP)=p.pure.procs.take k ++ [x.toProcP] :=by
  rw [List.map_append]
  exact congrArg(· ++ [x.toProcP])h5
 show ({ q.pure with procs:=(q.procs ++ [({ x with progA:=a2,progC:=c2 } :ProcD)]).map(·.toProcP) } :PartP)=_
 rw [h6,h]
theorem CopyL.stepProc(h:CopyL p We wr o q)(h7:CpProc wr w7 x a2 c2)(e8:W8=w7.setCell⟨wr.heap.size,2,none⟩(.slice a2 x.prog.length c2))(e9:W9=W8.alloc(.cells #[.int .i64 x.id,.int .i64 x.prio,.slice a2 x.prog.length c2,.int .i64 x.state,.int .i64 x.pc,.int .i64 x.left,.int .i64 x.wake,.int .i64 x.on,.string x.held,.string x.got,.int .i64 x.code,.int .i64 x.since] 43))
  (ho:w10.ownsRow(We.heap.size+2)43 12(.slice a(q.procs.length+1)c)(q.procs.length+1)(procK.flat q.procs ++ procK.vals({ x with progA:=a2,progC:=c2 } :ProcD)))(hg:W9.grownBy w10((Value.slice q.procA q.procs.length q.procC).ownBlock))
  (hb:(Value.slice a(q.procs.length+1)c).ownBlock=(Value.slice q.procA q.procs.length q.procC).ownBlock∨(Value.slice a(q.procs.length+1)c).ownBlock=some W9.heap.size):
  CopyL p We(w10.setCell⟨o,2,none⟩(.slice a(q.procs.length+1)c))o({ q with procs:=q.procs ++ [({ x with progA:=a2,progC:=c2 } :ProcD)],procA:=a,procC:=c } :PartD)∧w10.cell? ⟨o,2,none⟩=some(.slice q.procA q.procs.length q.procC)∧w10.frozen? ⟨o,2,none⟩=false:=by
 have hol:o < wr.heap.size:=(Array.getElem?_eq_some_iff.1 h.out).1
 obtain⟨hb9,hs8⟩:=CopyL.beProc h7 e8 e9
 have h9:=h.below hb9
 have hlow:=h.low
 have hm:procN.Mine W9(We.heap.size+2)({ x with progA:=a2,progC:=c2 } :ProcD):=by
  refine own_low(base:=wr.heap.size) ?_(by omega)
  refine own_same h7.2.2.1 fun g hg'=> ?_
  have h5:=h7.2.2.2 g hg'
  have h6:=own_lt h7.2.2.1 hg'
  subst e9
  refine(heap_alloc_old _ _(by omega)).trans ?_
  subst e8
  exact setCell_other(by omega)
 have hx: ∀ g,procN.kid({ x with progA:=a2,progC:=c2 } :ProcD)=some g→g∉q.blocks∧g≠o:=fun g hk=>by
  have h5:=h7.2.2.2 g(mem_blk.2 hk)
  refine⟨fun hm'=> ?_,by omega⟩
  have:=(h.own.lt g hm').2
  omega
 have hn: ∀ g∈blk a,g∈blk q.procA∨g=W9.heap.size:=fun g hg'=>by
  cases a with
  | none=>simp [blk] at hg'
  | some ad=>
   simp [blk] at hg'
   subst hg'
   rcases hb with hb | hb
   ·exact .inl(own_block hb.symm)
   ·exact .inr(by simpa [Value.ownBlock] using hb)
 have hL:=h9.addProc hm hx(by rw [procK.flat_append]; exact ho)hg hn
 have ho9:w10.heap[o]? =W9.heap[o]? :=hg.block o(Nat.lt_of_lt_of_le hol hb9.size)fun e=>h.free(by
  have:=own_block e.symm
  simp [PartD.blocks,this])
 have ho10:=ho9.trans h9.out
 exact⟨hL,by simp [World.cell?,ho10],frozen_of_row _ _ _ _ _ ho10⟩
end
theorem CopyL.addBuffer {p:PartD} {We w w':World} {o:Nat} {q:PartD} {x:BufferD} {a:Option Addr} {c:Nat} (h:CopyL p We w o q)(hm:bufferN.Mine w(We.heap.size+2)x)(hx: ∀ g,bufferN.kid x=some g→g∉q.blocks∧g≠o)
  (ho:w'.ownsRow(We.heap.size+2)144 3(.slice a(q.buffers.length+1)c)(q.buffers.length+1)(bufferK.flat(q.buffers ++ [x])))(hg:w.grownBy w'((Value.slice q.bufferA q.buffers.length q.bufferC).ownBlock))(hb: ∀ g∈blk a,g∈blk q.bufferA∨g=w.heap.size):
  CopyL p We(w'.setCell⟨o,6,none⟩(.slice a(q.buffers.length+1)c))o({ q with buffers:=q.buffers ++ [x],bufferA:=a,bufferC:=c } :PartD):=by
 have hol:o < w.heap.size:=(Array.getElem?_eq_some_iff.1 h.out).1
 have hrow: ∀ g,g < w.heap.size→g∉blk q.bufferA→w'.heap[g]? =w.heap[g]? :=fun g hgl hn=>hg.block g hgl fun e=>hn(own_block e.symm)
 obtain⟨hown,hbl⟩:=h.own.addBuffer hm(fun g hk=>(hx g hk).1)ho hrow hb
 have hoA:o∉blk q.bufferA:=fun hm'=>h.free(by simp [PartD.blocks,hm'])
 have hlow: ∀ g,g∈blk q.bufferA→We.heap.size+2≤g:=fun g hg'=>(own_lt h.own.buffers hg').1
 have hfree:o∉({ q with buffers:=q.buffers ++ [x],bufferA:=a,bufferC:=c } :PartD).blocks:=fun hm'=>by
  rcases hbl o hm' with h1 | h1 | h1
  ·exact h.free h1
  ·exact(hx o h1).2 rfl
  ·omega
 have hsc: ∀ g,g≠o→(w'.setCell⟨o,6,none⟩(.slice a(q.buffers.length+1)c)).heap[g]? =w'.heap[g]? :=fun g hne=>setCell_other hne
 have hbw:Below We.heap.size We w':=h.bel.grown hg(by have:=h.low; omega)(fun k hk=>by have:=hlow k(own_block hk); omega)
 have hout:w'.heap[o]? =w.heap[o]? :=hrow o hol hoA
 have hlo:=h.low
 refine⟨below_setCell hbw(by omega),(hsc _(by omega)).trans((hrow _(by omega)fun hm'=>by have:=hlow _ hm'; omega).trans h.part),(hsc _(by omega)).trans((hrow _(by omega)fun hm'=>by have:=hlow _ hm'; omega).trans h.ret),?_,hown.same fun g hg'=>hsc g fun e=>hfree(e ▸ hg'),h.low,hfree⟩
 have h5:=setCell_block(i:=6)(v:= .slice a(q.buffers.length+1)c)(hout.trans h.out)
 have e:(q.buffers ++ [x]).length=q.buffers.length+1:=by simp
 unfold PartBox
 simp only [e]
 exact h5
def CpBuffer(wr w7:World)(x:BufferD)(a2:Option Addr)(c2:Nat):Prop:=w7.heap[wr.heap.size]? =some(.cells #[.int .i64 x.id,.int .i64 x.max,.slice x.itemsA x.items.length x.itemsC] 144(0,0))∧Below wr.heap.size wr w7∧w7.ownsRow wr.heap.size 9 1(.slice a2 x.items.length c2)x.items.length(strK.flat x.items)∧ ∀ g∈blk a2,g=wr.heap.size+1∨g=wr.heap.size+2
section
variable {p q:PartD} {We wr w7 w10 W8 W9:World} {o c2 c k:Nat} {x:BufferD} {a2 a:Option Addr}
theorem CopyL.inBuffer(h:CopyL p We wr o q)(h7:CpBuffer wr w7 x a2 c2)(e8:W8=w7.setCell⟨wr.heap.size,2,none⟩(.slice a2 x.items.length c2)):W8.cell? ⟨o,6,none⟩=some(.slice q.bufferA q.buffers.length q.bufferC)∧W8.cell? ⟨wr.heap.size,0,none⟩=some(.int .i64 x.id)∧W8.cell? ⟨wr.heap.size,1,none⟩=some(.int .i64 x.max)∧W8.cell? ⟨wr.heap.size,2,none⟩=some(.slice a2 x.items.length c2):=by
 subst e8
 have hol:o < wr.heap.size:=(Array.getElem?_eq_some_iff.1 h.out).1
 have h1:=(setCell_other(i:=2)(v:= .slice a2 x.items.length c2)(by omega:o≠wr.heap.size)).trans(h7.2.1.block o hol)
 have h2:=setCell_block(i:=2)(v:= .slice a2 x.items.length c2)h7.1
 have h3:=h1.trans h.out
 refine⟨by simp [World.cell?,h3],?_⟩
 simp [World.cell?,h2]
theorem CopyL.beBuffer(h7:CpBuffer wr w7 x a2 c2)(e8:W8=w7.setCell⟨wr.heap.size,2,none⟩(.slice a2 x.items.length c2))(e9:W9=W8.alloc(.cells #[.int .i64 x.id,.int .i64 x.max,.slice a2 x.items.length c2] 144)):Below wr.heap.size wr W9∧W8.heap.size=w7.heap.size:=by
 subst e8 e9
 exact⟨(below_setCell h7.2.1(Nat.le_refl _)).alloc(below_setCell h7.2.1(Nat.le_refl _)).size _,setAllW_size [_]⟩
theorem CopyL.rowBuffer(h:CopyL p We wr o q)(h7:CpBuffer wr w7 x a2 c2)(e8:W8=w7.setCell⟨wr.heap.size,2,none⟩(.slice a2 x.items.length c2))(e9:W9=W8.alloc(.cells #[.int .i64 x.id,.int .i64 x.max,.slice a2 x.items.length c2] 144)):W9.ownsRow(We.heap.size+2)144 3(.slice q.bufferA q.buffers.length q.bufferC)q.buffers.length(bufferK.flat q.buffers)∧W9.heap[w7.heap.size]? =some(.cells #[.int .i64 x.id,.int .i64 x.max,.slice a2 x.items.length c2] 144(0,0)):=by
 have hb9:=CopyL.beBuffer h7 e8 e9
 refine⟨(h.below hb9.1).own.buffers,?_⟩
 subst e9
 have h5:=heap_alloc_new W8(.cells #[.int .i64 x.id,.int .i64 x.max,.slice a2 x.items.length c2] 144)
 rwa [hb9.2] at h5
theorem CopyL.upBuffer(h:q.pure= { p.pure with buffers:=p.pure.buffers.take k,ports:= [] })(hx:p.buffers[k]? =some x):({ q with buffers:=q.buffers ++ [({ x with itemsA:=a2,itemsC:=c2 } :BufferD)],bufferA:=a,bufferC:=c } :PartD).pure= { p.pure with buffers:=p.pure.buffers.take(k+1),ports:= [] } :=by
 have e:p.pure.buffers.take(k+1)=p.pure.buffers.take k ++ [x.toBufferP] :=by
  rw [take_up(x:=x.toBufferP)]
  show (p.buffers.map(·.toBufferP))[k]? =_
  rw [List.getElem?_map,hx]
  rfl
 rw [e]
 have h5:=congrArg PartP.buffers h
 have h6:(q.buffers ++ [({ x with itemsA:=a2,itemsC:=c2 } :BufferD)]).map(·.toBufferP)=p.pure.buffers.take k ++ [x.toBufferP] :=by
  rw [List.map_append]
  exact congrArg(· ++ [x.toBufferP])h5
 show ({ q.pure with buffers:=(q.buffers ++ [({ x with itemsA:=a2,itemsC:=c2 } :BufferD)]).map(·.toBufferP) } :PartP)=_
 rw [h6,h]
theorem CopyL.stepBuffer(h:CopyL p We wr o q)(h7:CpBuffer wr w7 x a2 c2)(e8:W8=w7.setCell⟨wr.heap.size,2,none⟩(.slice a2 x.items.length c2))(e9:W9=W8.alloc(.cells #[.int .i64 x.id,.int .i64 x.max,.slice a2 x.items.length c2] 144))
  (ho:w10.ownsRow(We.heap.size+2)144 3(.slice a(q.buffers.length+1)c)(q.buffers.length+1)(bufferK.flat q.buffers ++ bufferK.vals({ x with itemsA:=a2,itemsC:=c2 } :BufferD)))(hg:W9.grownBy w10((Value.slice q.bufferA q.buffers.length q.bufferC).ownBlock))
  (hb:(Value.slice a(q.buffers.length+1)c).ownBlock=(Value.slice q.bufferA q.buffers.length q.bufferC).ownBlock∨(Value.slice a(q.buffers.length+1)c).ownBlock=some W9.heap.size):
  CopyL p We(w10.setCell⟨o,6,none⟩(.slice a(q.buffers.length+1)c))o({ q with buffers:=q.buffers ++ [({ x with itemsA:=a2,itemsC:=c2 } :BufferD)],bufferA:=a,bufferC:=c } :PartD)∧w10.cell? ⟨o,6,none⟩=some(.slice q.bufferA q.buffers.length q.bufferC)∧w10.frozen? ⟨o,6,none⟩=false:=by
 have hol:o < wr.heap.size:=(Array.getElem?_eq_some_iff.1 h.out).1
 obtain⟨hb9,hs8⟩:=CopyL.beBuffer h7 e8 e9
 have h9:=h.below hb9
 have hlow:=h.low
 have hm:bufferN.Mine W9(We.heap.size+2)({ x with itemsA:=a2,itemsC:=c2 } :BufferD):=by
  refine own_low(base:=wr.heap.size) ?_(by omega)
  refine own_same h7.2.2.1 fun g hg'=> ?_
  have h5:=h7.2.2.2 g hg'
  have h6:=own_lt h7.2.2.1 hg'
  subst e9
  refine(heap_alloc_old _ _(by omega)).trans ?_
  subst e8
  exact setCell_other(by omega)
 have hx: ∀ g,bufferN.kid({ x with itemsA:=a2,itemsC:=c2 } :BufferD)=some g→g∉q.blocks∧g≠o:=fun g hk=>by
  have h5:=h7.2.2.2 g(mem_blk.2 hk)
  refine⟨fun hm'=> ?_,by omega⟩
  have:=(h.own.lt g hm').2
  omega
 have hn: ∀ g∈blk a,g∈blk q.bufferA∨g=W9.heap.size:=fun g hg'=>by
  cases a with
  | none=>simp [blk] at hg'
  | some ad=>
   simp [blk] at hg'
   subst hg'
   rcases hb with hb | hb
   ·exact .inl(own_block hb.symm)
   ·exact .inr(by simpa [Value.ownBlock] using hb)
 have hL:=h9.addBuffer hm hx(by rw [bufferK.flat_append]; exact ho)hg hn
 have ho9:w10.heap[o]? =W9.heap[o]? :=hg.block o(Nat.lt_of_lt_of_le hol hb9.size)fun e=>h.free(by
  have:=own_block e.symm
  simp [PartD.blocks,this])
 have ho10:=ho9.trans h9.out
 exact⟨hL,by simp [World.cell?,ho10],frozen_of_row _ _ _ _ _ ho10⟩
end
theorem CopyL.addPort {p:PartD} {We w w':World} {o:Nat} {q:PartD} {x:PortD} {a:Option Addr} {c:Nat} (h:CopyL p We w o q)(hm:portN.Mine w(We.heap.size+2)x)(hx: ∀ g,portN.kid x=some g→g∉q.blocks∧g≠o)
  (ho:w'.ownsRow(We.heap.size+2)61 5(.slice a(q.ports.length+1)c)(q.ports.length+1)(portK.flat(q.ports ++ [x])))(hg:w.grownBy w'((Value.slice q.portA q.ports.length q.portC).ownBlock))(hb: ∀ g∈blk a,g∈blk q.portA∨g=w.heap.size):
  CopyL p We(w'.setCell⟨o,7,none⟩(.slice a(q.ports.length+1)c))o({ q with ports:=q.ports ++ [x],portA:=a,portC:=c } :PartD):=by
 have hol:o < w.heap.size:=(Array.getElem?_eq_some_iff.1 h.out).1
 have hrow: ∀ g,g < w.heap.size→g∉blk q.portA→w'.heap[g]? =w.heap[g]? :=fun g hgl hn=>hg.block g hgl fun e=>hn(own_block e.symm)
 obtain⟨hown,hbl⟩:=h.own.addPort hm(fun g hk=>(hx g hk).1)ho hrow hb
 have hoA:o∉blk q.portA:=fun hm'=>h.free(by simp [PartD.blocks,hm'])
 have hlow: ∀ g,g∈blk q.portA→We.heap.size+2≤g:=fun g hg'=>(own_lt h.own.ports hg').1
 have hfree:o∉({ q with ports:=q.ports ++ [x],portA:=a,portC:=c } :PartD).blocks:=fun hm'=>by
  rcases hbl o hm' with h1 | h1 | h1
  ·exact h.free h1
  ·exact(hx o h1).2 rfl
  ·omega
 have hsc: ∀ g,g≠o→(w'.setCell⟨o,7,none⟩(.slice a(q.ports.length+1)c)).heap[g]? =w'.heap[g]? :=fun g hne=>setCell_other hne
 have hbw:Below We.heap.size We w':=h.bel.grown hg(by have:=h.low; omega)(fun k hk=>by have:=hlow k(own_block hk); omega)
 have hout:w'.heap[o]? =w.heap[o]? :=hrow o hol hoA
 have hlo:=h.low
 refine⟨below_setCell hbw(by omega),(hsc _(by omega)).trans((hrow _(by omega)fun hm'=>by have:=hlow _ hm'; omega).trans h.part),(hsc _(by omega)).trans((hrow _(by omega)fun hm'=>by have:=hlow _ hm'; omega).trans h.ret),?_,hown.same fun g hg'=>hsc g fun e=>hfree(e ▸ hg'),h.low,hfree⟩
 have h5:=setCell_block(i:=7)(v:= .slice a(q.ports.length+1)c)(hout.trans h.out)
 have e:(q.ports ++ [x]).length=q.ports.length+1:=by simp
 unfold PartBox
 simp only [e]
 exact h5
def CpPort(wr w7:World)(x:PortD)(a2:Option Addr)(c2:Nat):Prop:=w7.heap[wr.heap.size]? =some(.cells #[.int .i64 x.id,.bool x.out,.bool x.queue,.int .i64 x.max,.slice x.itemsA x.items.length x.itemsC] 61(0,0))∧Below wr.heap.size wr w7∧w7.ownsRow wr.heap.size 9 1(.slice a2 x.items.length c2)x.items.length(strK.flat x.items)∧ ∀ g∈blk a2,g=wr.heap.size+1∨g=wr.heap.size+2
section
variable {p q:PartD} {We wr w7 w10 W8 W9:World} {o c2 c k:Nat} {x:PortD} {a2 a:Option Addr}
theorem CopyL.inPort(h:CopyL p We wr o q)(h7:CpPort wr w7 x a2 c2)(e8:W8=w7.setCell⟨wr.heap.size,4,none⟩(.slice a2 x.items.length c2)):W8.cell? ⟨o,7,none⟩=some(.slice q.portA q.ports.length q.portC)∧W8.cell? ⟨wr.heap.size,0,none⟩=some(.int .i64 x.id)∧W8.cell? ⟨wr.heap.size,1,none⟩=some(.bool x.out)∧W8.cell? ⟨wr.heap.size,2,none⟩=some(.bool x.queue)∧W8.cell? ⟨wr.heap.size,3,none⟩=some(.int .i64 x.max)∧W8.cell? ⟨wr.heap.size,4,none⟩=some(.slice a2 x.items.length c2):=by
 subst e8
 have hol:o < wr.heap.size:=(Array.getElem?_eq_some_iff.1 h.out).1
 have h1:=(setCell_other(i:=4)(v:= .slice a2 x.items.length c2)(by omega:o≠wr.heap.size)).trans(h7.2.1.block o hol)
 have h2:=setCell_block(i:=4)(v:= .slice a2 x.items.length c2)h7.1
 have h3:=h1.trans h.out
 refine⟨by simp [World.cell?,h3],?_⟩
 simp [World.cell?,h2]
theorem CopyL.bePort(h7:CpPort wr w7 x a2 c2)(e8:W8=w7.setCell⟨wr.heap.size,4,none⟩(.slice a2 x.items.length c2))(e9:W9=W8.alloc(.cells #[.int .i64 x.id,.bool x.out,.bool x.queue,.int .i64 x.max,.slice a2 x.items.length c2] 61)):Below wr.heap.size wr W9∧W8.heap.size=w7.heap.size:=by
 subst e8 e9
 exact⟨(below_setCell h7.2.1(Nat.le_refl _)).alloc(below_setCell h7.2.1(Nat.le_refl _)).size _,setAllW_size [_]⟩
theorem CopyL.rowPort(h:CopyL p We wr o q)(h7:CpPort wr w7 x a2 c2)(e8:W8=w7.setCell⟨wr.heap.size,4,none⟩(.slice a2 x.items.length c2))(e9:W9=W8.alloc(.cells #[.int .i64 x.id,.bool x.out,.bool x.queue,.int .i64 x.max,.slice a2 x.items.length c2] 61)):W9.ownsRow(We.heap.size+2)61 5(.slice q.portA q.ports.length q.portC)q.ports.length(portK.flat q.ports)∧W9.heap[w7.heap.size]? =some(.cells #[.int .i64 x.id,.bool x.out,.bool x.queue,.int .i64 x.max,.slice a2 x.items.length c2] 61(0,0)):=by
 have hb9:=CopyL.bePort h7 e8 e9
 refine⟨(h.below hb9.1).own.ports,?_⟩
 subst e9
 have h5:=heap_alloc_new W8(.cells #[.int .i64 x.id,.bool x.out,.bool x.queue,.int .i64 x.max,.slice a2 x.items.length c2] 61)
 rwa [hb9.2] at h5
theorem CopyL.upPort(h:q.pure= { p.pure with ports:=p.pure.ports.take k })(hx:p.ports[k]? =some x):({ q with ports:=q.ports ++ [({ x with itemsA:=a2,itemsC:=c2 } :PortD)],portA:=a,portC:=c } :PartD).pure= { p.pure with ports:=p.pure.ports.take(k+1) } :=by
 have e:p.pure.ports.take(k+1)=p.pure.ports.take k ++ [x.toPortP] :=by
  rw [take_up(x:=x.toPortP)]
  show (p.ports.map(·.toPortP))[k]? =_
  rw [List.getElem?_map,hx]
  rfl
 rw [e]
 have h5:=congrArg PartP.ports h
 have h6:(q.ports ++ [({ x with itemsA:=a2,itemsC:=c2 } :PortD)]).map(·.toPortP)=p.pure.ports.take k ++ [x.toPortP] :=by
  rw [List.map_append]
  exact congrArg(· ++ [x.toPortP])h5
 show ({ q.pure with ports:=(q.ports ++ [({ x with itemsA:=a2,itemsC:=c2 } :PortD)]).map(·.toPortP) } :PartP)=_
 rw [h6,h]
theorem CopyL.stepPort(h:CopyL p We wr o q)(h7:CpPort wr w7 x a2 c2)(e8:W8=w7.setCell⟨wr.heap.size,4,none⟩(.slice a2 x.items.length c2))(e9:W9=W8.alloc(.cells #[.int .i64 x.id,.bool x.out,.bool x.queue,.int .i64 x.max,.slice a2 x.items.length c2] 61))
  (ho:w10.ownsRow(We.heap.size+2)61 5(.slice a(q.ports.length+1)c)(q.ports.length+1)(portK.flat q.ports ++ portK.vals({ x with itemsA:=a2,itemsC:=c2 } :PortD)))(hg:W9.grownBy w10((Value.slice q.portA q.ports.length q.portC).ownBlock))
  (hb:(Value.slice a(q.ports.length+1)c).ownBlock=(Value.slice q.portA q.ports.length q.portC).ownBlock∨(Value.slice a(q.ports.length+1)c).ownBlock=some W9.heap.size):
  CopyL p We(w10.setCell⟨o,7,none⟩(.slice a(q.ports.length+1)c))o({ q with ports:=q.ports ++ [({ x with itemsA:=a2,itemsC:=c2 } :PortD)],portA:=a,portC:=c } :PartD)∧w10.cell? ⟨o,7,none⟩=some(.slice q.portA q.ports.length q.portC)∧w10.frozen? ⟨o,7,none⟩=false:=by
 have hol:o < wr.heap.size:=(Array.getElem?_eq_some_iff.1 h.out).1
 obtain⟨hb9,hs8⟩:=CopyL.bePort h7 e8 e9
 have h9:=h.below hb9
 have hlow:=h.low
 have hm:portN.Mine W9(We.heap.size+2)({ x with itemsA:=a2,itemsC:=c2 } :PortD):=by
  refine own_low(base:=wr.heap.size) ?_(by omega)
  refine own_same h7.2.2.1 fun g hg'=> ?_
  have h5:=h7.2.2.2 g hg'
  have h6:=own_lt h7.2.2.1 hg'
  subst e9
  refine(heap_alloc_old _ _(by omega)).trans ?_
  subst e8
  exact setCell_other(by omega)
 have hx: ∀ g,portN.kid({ x with itemsA:=a2,itemsC:=c2 } :PortD)=some g→g∉q.blocks∧g≠o:=fun g hk=>by
  have h5:=h7.2.2.2 g(mem_blk.2 hk)
  refine⟨fun hm'=> ?_,by omega⟩
  have:=(h.own.lt g hm').2
  omega
 have hn: ∀ g∈blk a,g∈blk q.portA∨g=W9.heap.size:=fun g hg'=>by
  cases a with
  | none=>simp [blk] at hg'
  | some ad=>
   simp [blk] at hg'
   subst hg'
   rcases hb with hb | hb
   ·exact .inl(own_block hb.symm)
   ·exact .inr(by simpa [Value.ownBlock] using hb)
 have hL:=h9.addPort hm hx(by rw [portK.flat_append]; exact ho)hg hn
 have ho9:w10.heap[o]? =W9.heap[o]? :=hg.block o(Nat.lt_of_lt_of_le hol hb9.size)fun e=>h.free(by
  have:=own_block e.symm
  simp [PartD.blocks,this])
 have ho10:=ho9.trans h9.out
 exact⟨hL,by simp [World.cell?,ho10],frozen_of_row _ _ _ _ _ ho10⟩
end
def CopyS(p:PartD)(w w':World):Prop:=w'.cell? ⟨w.heap.size,0,none⟩=some(.int .i64 p.id)∧w'.cell? ⟨w.heap.size,1,none⟩=some(.int .i64 p.next)∧w'.cell? ⟨w.heap.size,3,none⟩=some(.slice p.semA p.sems.length p.semC)∧w'.cell? ⟨w.heap.size,4,none⟩=some(.slice p.eventA p.events.length p.eventC)∧w'.cell? ⟨w.heap.size,5,none⟩=some(.slice p.boardA p.boards.length p.boardC)
theorem l3Copy_any(p:PartD)(w:World)(hf:p.Fit)(hsh: ∀ x∈p.procs,x.Short)(h:PartD.At w p):
  Calls Tryz.prog 86 #[.agg p.cells] w fun e w'=> ∃ p',e= .returned(.agg p'.cells)∧PartOwn w' w.heap.size p'∧p'.pure=p.pure∧Below w.heap.size w w':=by
 have HF:Hid(p.Fit∧PartD.At w p):=⟨hf,h⟩
 have HFS:Hid(∀ x∈p.procs,x.Short):=hsh
 have HC:Hid(CopyF p w(((w.alloc(.cells p.row 32)).alloc(.cells zero8 32))).drew false false false false false false false false false 0 0 0 0 none none none 0 0 0):=by
  have b1:Below w.heap.size w((w.alloc(.cells p.row 32)).alloc(.cells zero8 32)):=((Below.refl _ _).alloc(Nat.le_refl _)_).alloc(by simp)_
  exact⟨b1.drew,(heap_alloc_old _ _(by simp)).trans(heap_alloc_new _ _),heap_alloc2_new _ _ _,⟨(fun h=>by cases h),fun h=>by cases h⟩,⟨(fun h=>by cases h),fun h=>by cases h⟩,⟨(fun h=>by cases h),fun h=>by cases h⟩,(fun h=>by cases h),⟨(fun h=>by cases h),fun h=>by cases h⟩,(by simp),⟨fun i j _ q hq=>by rcases i with _ | _ | _ | _ | _ <;> simp [four,slotB] at hq,fun i q hq=>by rcases i with _ | _ | _ | _ | _ <;> simp [four,slotB] at hq⟩⟩
 have HS:Hid(CopyS p w(((w.alloc(.cells p.row 32)).alloc(.cells zero8 32))).drew):=by obtain⟨m0,m1,m2,m3,m4,m5,m6,m7⟩:=HC.out.part.cells; exact⟨m0,m1,m3,m4,m5⟩
 clear hf h hsh
 unfold PartD.cells
 go_enter Tryz.func86,Tryz.ntmps86
 go_wp2_with fail
 generalize (w.alloc(.cells p.row 32)).alloc(.cells zero8 32)=W at *
 refine wp_region_held_drew(S:=CopyS p w)(by kernel_rfl)HS.out(fun hHeld=> ?_)
 refine tk 0(v:= ?_) ?_ hHeld ?_; rotate_left; (intro w0 hS0; obtain⟨m0,m1,m3,m4,m5⟩:=hS0; go_simp; try with_reducible rfl); simp only [pt,sb,s0,s1]
 refine tk 1(v:= ?_) ?_ hHeld ?_; rotate_left; (intro w0 hS0; obtain⟨m0,m1,m3,m4,m5⟩:=hS0; go_simp; try with_reducible rfl); simp only [pt,sb,s0,s1]
 refine tk 2(v:= ?_) ?_ hHeld ?_; rotate_left; (intro w0 hS0; obtain⟨m0,m1,m3,m4,m5⟩:=hS0; go_simp; try with_reducible rfl); simp only [pt,sb,s0,s1]
 refine tk 3(v:= ?_) ?_ hHeld ?_; rotate_left; (intro w0 hS0; obtain⟨m0,m1,m3,m4,m5⟩:=hS0; go_simp; try with_reducible rfl); simp only [pt,sb,s0,s1]
 refine tk 5(v:= ?_) ?_ hHeld ?_; rotate_left; (intro w0 hS0; obtain⟨m0,m1,m3,m4,m5⟩:=hS0; go_simp; try with_reducible rfl); simp only [pt,sb,s0,s1]
 refine tk 6(v:= ?_) ?_ hHeld ?_; rotate_left; (intro w0 hS0; obtain⟨m0,m1,m3,m4,m5⟩:=hS0; go_simp; try with_reducible rfl); simp only [pt,sb,s0,s1]
 refine tk 9(v:= ?_) ?_ hHeld ?_; rotate_left; (intro w0 hS0; obtain⟨m0,m1,m3,m4,m5⟩:=hS0; go_simp; try with_reducible rfl); simp only [pt,sb,s0,s1]
 refine tk 10(v:= ?_) ?_ hHeld ?_; rotate_left; (intro w0 hS0; obtain⟨m0,m1,m3,m4,m5⟩:=hS0; go_simp; try with_reducible rfl); simp only [pt,sb,s0,s1]
 refine tk 13(v:= ?_) ?_ hHeld ?_; rotate_left; (intro w0 hS0; obtain⟨m0,m1,m3,m4,m5⟩:=hS0; go_simp; try with_reducible rfl); simp only [pt,sb,s0,s1]
 refine tk 14(v:= ?_) ?_ hHeld ?_; rotate_left; (intro w0 hS0; obtain⟨m0,m1,m3,m4,m5⟩:=hS0; go_simp; try with_reducible rfl); simp only [pt,sb,s0,s1]
 refine wild(CopyInv p w)(fun l a w1 hI=> ?_)(fun l a w1 hI i hi=> ?_)(fun l a w1 hI h0=> ?_)_ _ _ _⟨false,false,false,false,false,false,false,false,false,0,0,0,0,none,none,none,0,0,0,by kernel_rfl,rfl,HC.out⟩(of_decide_eq_true(by kernel_rfl))
 ·obtain⟨b0,d0,b1,d1,b2,d2,b3,d3,e,g0,g1,g2,o,a0,a1,a2,c0,c1,c2,-,-,hC⟩:=hI
  obtain⟨m0,m1,m2,m3,m4,m5,m6,m7⟩:=hC.part.cells
  exact⟨m0,m1,m3,m4,m5⟩
 ·obtain⟨b0,d0,b1,d1,b2,d2,b3,d3,e,g0,g1,g2,o,a0,a1,a2,c0,c1,c2,rfl,rfl,hC⟩:=hI
  have HI:Hid(CopyF p w w1 b0 d0 b1 d1 b2 d2 b3 d3 e g0 g1 g2 o a0 a1 a2 c0 c1 c2):=hC
  clear hC
  unfold copyFr
  match i,hi with
  | 0,hi=>exact absurd(ready_free hi)(by simp)
  | 1,hi=>exact absurd(ready_free hi)(by simp)
  | 2,hi=>exact absurd(ready_free hi)(by simp)
  | 3,hi=>exact absurd(ready_free hi)(by simp)
  | 4,hi=>
   have hb:b0=false:=by have h5:=ready_free hi; simpa using h5
   subst hb
   refine wpOp_do(o:=_)rfl(by kernel_rfl)(fun K hK=> ?_)
   go_wp2_with fail
   exact hK.out _ _⟨true,d0,b1,d1,b2,d2,b3,d3,e,w1.heap.size,g1,g2,o,a0,a1,a2,c0,c1,c2,by rfl,by rfl,HI.out.make0⟩
  | 5,hi=>exact absurd(ready_free hi)(by simp)
  | 6,hi=>exact absurd(ready_free hi)(by simp)
  | 7,hi=>
   have hb:d0=false:=by have h5:=ready_free hi; simpa using h5
   have hn4:b0=true:=by have h5:=ready_needs [4,6] hi(by kernel_rfl)4(by decide); simpa using h5
   subst hb hn4
   refine wpOp_do(o:=_)rfl(by kernel_rfl)(fun K hK=> ?_)
   obtain⟨a',c',w2,hr,ho,hg,hq⟩:=ontoSem w1(w.heap.size+2)g0(HI.out.s0.made rfl rfl).1(HI.out.s0.made rfl rfl).2 p.semA p.sems p.semC((HF.out.2.below HI.out.bel).2.1.1)HF.out.1.short.sems HI.out.size
   refine oper_append _ _ _ rfl _ _ _ w2 rfl rfl hr ?_
   have he:e=false:=by cases e with | false=>rfl | true=>(have h5:=HI.out.cl.1 rfl; simp at h5)
   subst he
   exact hK.out _ _⟨true,true,b1,d1,b2,d2,b3,d3,false,g0,g1,g2,o,a',a1,a2,c',c1,c2,by rfl,by rfl,HI.out.copy0 ho hg hq⟩
  | 8,hi=>
   have hb:b1=false:=by have h5:=ready_free hi; simpa using h5
   subst hb
   refine wpOp_do(o:=_)rfl(by kernel_rfl)(fun K hK=> ?_)
   go_wp2_with fail
   exact hK.out _ _⟨b0,d0,true,d1,b2,d2,b3,d3,e,g0,w1.heap.size,g2,o,a0,a1,a2,c0,c1,c2,by rfl,by rfl,HI.out.make1⟩
  | 9,hi=>exact absurd(ready_free hi)(by simp)
  | 10,hi=>exact absurd(ready_free hi)(by simp)
  | 11,hi=>
   have hb:d1=false:=by have h5:=ready_free hi; simpa using h5
   have hn8:b1=true:=by have h5:=ready_needs [8,10,7] hi(by kernel_rfl)8(by decide); simpa using h5
   subst hb hn8
   refine wpOp_do(o:=_)rfl(by kernel_rfl)(fun K hK=> ?_)
   obtain⟨a',c',w2,hr,ho,hg,hq⟩:=ontoEvent w1(w.heap.size+2)g1(HI.out.s1.made rfl rfl).1(HI.out.s1.made rfl rfl).2 p.eventA p.events p.eventC((HF.out.2.below HI.out.bel).2.2.1.1)HF.out.1.short.events HI.out.size
   refine oper_append _ _ _ rfl _ _ _ w2 rfl rfl hr ?_
   have he:e=false:=by cases e with | false=>rfl | true=>(have h5:=HI.out.cl.1 rfl; simp at h5)
   subst he
   exact hK.out _ _⟨b0,d0,true,true,b2,d2,b3,d3,false,g0,g1,g2,o,a0,a',a2,c0,c',c2,by rfl,by rfl,HI.out.copy1 ho hg hq⟩
  | 12,hi=>
   have hb:b2=false:=by have h5:=ready_free hi; simpa using h5
   subst hb
   refine wpOp_do(o:=_)rfl(by kernel_rfl)(fun K hK=> ?_)
   go_wp2_with fail
   exact hK.out _ _⟨b0,d0,b1,d1,true,d2,b3,d3,e,g0,g1,w1.heap.size,o,a0,a1,a2,c0,c1,c2,by rfl,by rfl,HI.out.make2⟩
  | 13,hi=>exact absurd(ready_free hi)(by simp)
  | 14,hi=>exact absurd(ready_free hi)(by simp)
  | 15,hi=>
   have hb:d2=false:=by have h5:=ready_free hi; simpa using h5
   have hn12:b2=true:=by have h5:=ready_needs [12,14,11] hi(by kernel_rfl)12(by decide); simpa using h5
   subst hb hn12
   refine wpOp_do(o:=_)rfl(by kernel_rfl)(fun K hK=> ?_)
   obtain⟨a',c',w2,hr,ho,hg,hq⟩:=ontoBoard w1(w.heap.size+2)g2(HI.out.s2.made rfl rfl).1(HI.out.s2.made rfl rfl).2 p.boardA p.boards p.boardC((HF.out.2.below HI.out.bel).2.2.2.1.1)HF.out.1.short.boards HI.out.size
   refine oper_append _ _ _ rfl _ _ _ w2 rfl rfl hr ?_
   have he:e=false:=by cases e with | false=>rfl | true=>(have h5:=HI.out.cl.1 rfl; simp at h5)
   subst he
   exact hK.out _ _⟨b0,d0,b1,d1,true,true,b3,d3,false,g0,g1,g2,o,a0,a1,a',c0,c1,c',by rfl,by rfl,HI.out.copy2 ho hg hq⟩
  | 16,hi=>
   have hb:e=false:=by have h5:=ready_free hi; simpa using h5
   have hn7:d0=true:=by have h5:=ready_needs [1,3,7,11,15] hi(by kernel_rfl)7(by decide); simpa using h5
   have hn11:d1=true:=by have h5:=ready_needs [1,3,7,11,15] hi(by kernel_rfl)11(by decide); simpa using h5
   have hn15:d2=true:=by have h5:=ready_needs [1,3,7,11,15] hi(by kernel_rfl)15(by decide); simpa using h5
   subst hb hn7 hn11 hn15
   refine wpOp_do(o:=_)rfl(by kernel_rfl)(fun K hK=> ?_)
   go_wp2_with fail
   exact hK.out _ _⟨b0,true,b1,true,b2,true,b3,d3,true,g0,g1,g2,o,a0,a1,a2,c0,c1,c2,by rfl,by rfl,HI.out.build rfl rfl rfl⟩
  | 17,hi=>
   have hb:b3=false:=by have h5:=ready_free hi; simpa using h5
   subst hb
   refine wpOp_do(o:=_)rfl(by kernel_rfl)(fun K hK=> ?_)
   have hd3:d3=false:=by cases d3 with | false=>rfl | true=>(have h5:=HI.out.cl.2 rfl; simp at h5)
   subst hd3
   go_wp2_with fail
   exact hK.out _ _⟨b0,d0,b1,d1,b2,d2,true,false,e,g0,g1,g2,w1.heap.size,a0,a1,a2,c0,c1,c2,by rfl,by rfl,HI.out.make3⟩
  | 18,hi=>
   have hb:d3=false:=by have h5:=ready_free hi; simpa using h5
   have hn17:b3=true:=by have h5:=ready_needs [17,16,15,0,1,2,3,4,5,6,7,8,9,10,11,12,13,14,15,16,17] hi(by kernel_rfl)17(by decide); simpa using h5
   have hn16:e=true:=by have h5:=ready_needs [17,16,15,0,1,2,3,4,5,6,7,8,9,10,11,12,13,14,15,16,17] hi(by kernel_rfl)16(by decide); simpa using h5
   subst hb hn17 hn16
   refine wpOp_do(o:=_)rfl(by kernel_rfl)(fun K hK=> ?_)
   refine oper_store _ _ _ rfl o _ _ _ rfl rfl(HI.out.out rfl)(by kernel_rfl)rfl(by kernel_rfl) ?_
   exact hK.out _ _⟨b0,d0,b1,d1,b2,d2,true,true,true,g0,g1,g2,o,a0,a1,a2,c0,c1,c2,by rfl,by rfl,HI.out.store⟩
  | n+19,hi=>exact absurd(ready_free hi)(by simp)
 ·obtain⟨b0,d0,b1,d1,b2,d2,b3,d3,e,g0,g1,g2,o,a0,a1,a2,c0,c1,c2,rfl,rfl,hC⟩:=hI
  have hno: ∀ i,i∉Region.ready .any _ _:=fun i hi=>by rw [h0] at hi; cases hi
  have hb0:b0=true:=by cases hx:b0 with | true=>rfl | false=>exact absurd(ready_of [] (by kernel_rfl)(by kernel_rfl)(by simp [hx])(fun j hj=>by cases hj))(hno 4)
  have hd0:d0=true:=by cases hx:d0 with | true=>rfl | false=>exact absurd(ready_of [4,6] (by kernel_rfl)(by kernel_rfl)(by simp [hx])(fun j hj=>by simp only [List.mem_cons,List.not_mem_nil,or_false] at hj; rcases hj with rfl | rfl <;> first | rfl | simp [hb0]))(hno 7)
  have hb1:b1=true:=by cases hx:b1 with | true=>rfl | false=>exact absurd(ready_of [] (by kernel_rfl)(by kernel_rfl)(by simp [hx])(fun j hj=>by cases hj))(hno 8)
  have hd1:d1=true:=by cases hx:d1 with | true=>rfl | false=>exact absurd(ready_of [8,10,7] (by kernel_rfl)(by kernel_rfl)(by simp [hx])(fun j hj=>by simp only [List.mem_cons,List.not_mem_nil,or_false] at hj; rcases hj with rfl | rfl | rfl <;> first | rfl | simp [hb1,hd0]))(hno 11)
  have hb2:b2=true:=by cases hx:b2 with | true=>rfl | false=>exact absurd(ready_of [] (by kernel_rfl)(by kernel_rfl)(by simp [hx])(fun j hj=>by cases hj))(hno 12)
  have hd2:d2=true:=by cases hx:d2 with | true=>rfl | false=>exact absurd(ready_of [12,14,11] (by kernel_rfl)(by kernel_rfl)(by simp [hx])(fun j hj=>by simp only [List.mem_cons,List.not_mem_nil,or_false] at hj; rcases hj with rfl | rfl | rfl <;> first | rfl | simp [hb2,hd1]))(hno 15)
  have he:e=true:=by cases hx:e with | true=>rfl | false=>exact absurd(ready_of [1,3,7,11,15] (by kernel_rfl)(by kernel_rfl)(by simp [hx])(fun j hj=>by simp only [List.mem_cons,List.not_mem_nil,or_false] at hj; rcases hj with rfl | rfl | rfl | rfl | rfl <;> first | rfl | simp [hd0,hd1,hd2]))(hno 16)
  have hb3:b3=true:=by cases hx:b3 with | true=>rfl | false=>exact absurd(ready_of [] (by kernel_rfl)(by kernel_rfl)(by simp [hx])(fun j hj=>by cases hj))(hno 17)
  have hd3:d3=true:=by cases hx:d3 with | true=>rfl | false=>exact absurd(ready_of [17,16,15,0,1,2,3,4,5,6,7,8,9,10,11,12,13,14,15,16,17] (by kernel_rfl)(by kernel_rfl)(by simp [hx])(fun j hj=>by simp only [List.mem_cons,List.not_mem_nil,or_false] at hj; rcases hj with rfl | rfl | rfl | rfl | rfl | rfl | rfl | rfl | rfl | rfl | rfl | rfl | rfl | rfl | rfl | rfl | rfl | rfl | rfl | rfl | rfl <;> first | rfl | simp [hb0,hd0,hb1,hd1,hb2,hd2,he,hb3]))(hno 18)
  subst hb0 hd0 hb1 hd1 hb2 hd2 he hb3 hd3
  have HI:Hid(CopyF p w w1 true true true true true true true true true g0 g1 g2 o a0 a1 a2 c0 c1 c2):=hC
  clear hC hno h0
  simp only [copyFr,cond_true]
  have HLS:Hid(CopyL p w w1 o⟨p.id,p.next,[],none,0,p.sems,a0,c0,p.events,a1,c1,p.boards,a2,c2,[],none,0,[],none,0⟩):=CopyL.start HI.out
  clear HI HC HS hHeld
  obtain⟨i0',hi',e0'⟩:=Option.map_eq_some_iff.1 rinfProc
  simp only [Prod.mk.injEq] at e0'
  have HI:Hid(Tryz.prog.info? 43=some i0'∧i0'.zero=some _∧i0'.size=12∧i0'.bytes=128):=⟨hi',e0'⟩
  clear hi' e0'
  have hpProc:p.procs.length≤1048576:=HF.out.1.short.procs
  go_wp2_with fail
  go_loopw [4] (fun i wr=> ∃ k:Nat,k≤p.procs.length∧i= .int .i64 k∧Hid(∃ q,CopyL p w wr o q∧q.pure= { p.pure with procs:=p.pure.procs.take k,buffers:= [],ports:= [] }))(fun i _=>p.procs.length - (Go.RowKit.intOf i).toNat)
  case atStart=>exact⟨0,Nat.zero_le _,rfl,⟨_,HLS.out,rfl⟩⟩
  case round=>
   obtain⟨k,hk,rfl,HA⟩:=hrel
   obtain⟨q,hL,hq⟩:=HA.out
   have HL:Hid(CopyL p w wr o q∧(q.pure= { p.pure with procs:=p.pure.procs.take k,buffers:= [],ports:= [] })∧q.procs.length=k):=⟨hL,hq,lenProc hq hk⟩
   clear HA hL hq
   have mp:wr.cell? ⟨w.heap.size,2,none⟩=some(.slice p.procA p.procs.length p.procC):=by obtain⟨m0,m1,m2,m3,m4,m5,m6,m7⟩:=HL.out.1.part.cells; exact m2
   by_cases hlt:k < p.procs.length
   ·have i0:(0:Int)≤(k:Int):=by omega
    have i1:(k:Int) < (p.procs.length:Int):=by omega
    obtain⟨x,hx⟩: ∃ x,p.procs[k]? =some x:=⟨_,List.getElem?_eq_getElem hlt⟩
    have hAt:=HF.out.2.below HL.out.1.bel
    obtain⟨gs,ha,hat⟩:=proc_at hAt.1 hx
    rw [ha] at mp
    obtain⟨d0,d1,d2,d3,d4,d5,d6,d7,d8,d9,d10,d11⟩:=hat
    have HX:Hid(p.procs[k]? =some x∧Row wr x.progA(opK.flat x.prog)∧x.prog.length≤1048576):=⟨hx,hAt.1.2 x(List.mem_of_getElem? hx)(x.progA,opK.flat x.prog)(List.mem_singleton.2 rfl),(HFS.out x(List.mem_of_getElem? hx)).prog⟩
    clear hx ha hAt
    have hb2:Below wr.heap.size wr((wr.alloc(.cells x.row 43)).alloc(.cells #[] 134)):=((Below.refl _ _).alloc(Nat.le_refl _)_).alloc(by simp)_
    obtain⟨a2,c2,w7,hap,how,hgw,hqb⟩:=ontoOp((wr.alloc(.cells x.row 43)).alloc(.cells #[] 134))wr.heap.size(wr.heap.size+1)(heap_alloc2_new _ _ _)(by omega)x.progA x.prog x.progC(HX.out.2.1.below hb2)HX.out.2.2(by simp; omega)
    have hX7:=(hgw.block wr.heap.size(by simp; omega)(fun e=>by have:=Option.some.inj e; omega)).trans((heap_alloc_old _ _(by simp)).trans(heap_alloc_new wr _))
    have hb7:Below wr.heap.size wr w7:=hb2.grown hgw(by simp; omega)(fun k hk=>by cases hk; omega)
    have HW7:Hid(CpProc wr w7 x a2 c2):=⟨hX7,hb7,how,fun g hg=>by have h5:=hqb g hg; simp at h5; exact h5⟩
    have z0:w7.frozen? ⟨wr.heap.size,2,none⟩=false:=frozen_of_row _ _ _ _ _ hX7
    have z1:w7.cell? ⟨wr.heap.size,2,none⟩=some(.slice x.progA x.prog.length x.progC):=by simp [World.cell?,hX7]
    clear hb2 how hgw hqb hX7 hb7
    obtain⟨co,e0,e1,e2,e3,e4,e5,e6,e7,e8,e9,e10,e11⟩:=HL.out.1.inProc HW7.out rfl
    have hkl:q.procs.length≤1048576:=by have:=HL.out.2.2; have:=HF.out.1.short.procs; omega
    have hsz:w.heap.size+2≤w7.heap.size:=by have h5:=HW7.out.2.1.size; have h6:=HL.out.1.low; have h7:o < wr.heap.size:=(Array.getElem?_eq_some_iff.1 HL.out.1.out).1; omega
    have HR9:Hid(_):=HL.out.1.rowProc HW7.out rfl rfl
    go_wp2_with (at_builtin; first | (refine wpList_append_run _ rfl _ _ 37 rfl _ _ _ _ rfl rfl hap ?_; clear hap) | (refine wpList_append_own_at _ rfl _ _ 25 rfl(w.heap.size+2)43 i0' _ 12 128 Tryz.underlying25 HI.out.1 HI.out.2.1 HI.out.2.2.1 HI.out.2.2.2 rfl(by decide)(.slice q.procA q.procs.length q.procC)q.procs.length(procK.flat q.procs)rfl HR9.out.1⟨w7.heap.size,0,none⟩1 1(procK.vals({ x with progA:=a2,progC:=c2 } :ProcD))(by rfl)rfl(World.news_of_block(cs:= #[.int .i64 x.id,.int .i64 x.prio,.slice a2 x.prog.length c2,.int .i64 x.state,.int .i64 x.pc,.int .i64 x.left,.int .i64 x.wake,.int .i64 x.on,.string x.held,.string x.got,.int .i64 x.code,.int .i64 x.since])(t:=43)(fr:=(0,0))HR9.out.2)(by simp [procK,procVals,Value.oneCell'])(by unfold maxLen; omega)(by omega)(by simp; omega) ?_; intro v5 w10 hown5 hgrow5 hnil5 hloc5; obtain⟨a5,c5,rfl,-⟩:=own_form hown5; have HN:Hid(CopyL p w(w10.setCell⟨o,2,none⟩(.slice a5(q.procs.length+1)c5))o({ q with procs:=q.procs ++ [({ x with progA:=a2,progC:=c2 } :ProcD)],procA:=a5,procC:=c5 } :PartD)∧w10.cell? ⟨o,2,none⟩=some(.slice q.procA q.procs.length q.procC)∧w10.frozen? ⟨o,2,none⟩=false):=HL.out.1.stepProc HW7.out rfl rfl hown5 hgrow5 hloc5; have yo:=HN.out.2.1; have zo:=HN.out.2.2; clear hown5 hgrow5 hnil5 hloc5))
    go_roundw
    case rel=>exact⟨k+1,by omega,by go_num,⟨_,HN.out.1,CopyL.upProc HL.out.2.1 HX.out.1⟩⟩
    case measure=>simp [Go.RowKit.intOf]; omega
   ·have i1: ¬ (k:Int) < (p.procs.length:Int):=by omega
    have HE:Hid(∃ q,CopyL p w wr o q∧q.pure= { p.pure with buffers:= [],ports:= [] }):=by
     have h5:=HL.out.2.1
     rw [List.take_of_length_le(by show (p.procs.map _).length≤k; rw [List.length_map]; omega)] at h5
     exact⟨q,HL.out.1,h5⟩
    clear HL
    rename World=>W2
    obtain⟨i0',hi',e0'⟩:=Option.map_eq_some_iff.1 rinfBuffer
    simp only [Prod.mk.injEq] at e0'
    have HI:Hid(Tryz.prog.info? 144=some i0'∧i0'.zero=some _∧i0'.size=3∧i0'.bytes=40):=⟨hi',e0'⟩
    clear hi' e0'
    have hpBuffer:p.buffers.length≤1048576:=HF.out.1.short.buffers
    go_wp2_with fail
    clear mp
    go_loopw [6] (fun i wr=> ∃ k:Nat,k≤p.buffers.length∧i= .int .i64 k∧Hid(∃ q,CopyL p w wr o q∧q.pure= { p.pure with buffers:=p.pure.buffers.take k,ports:= [] }))(fun i _=>p.buffers.length - (Go.RowKit.intOf i).toNat)
    case atStart=>exact⟨0,Nat.zero_le _,rfl,by obtain⟨q,h1,h2⟩:=HE.out; exact⟨q,h1,h2.trans(by simp)⟩⟩
    case round=>
     obtain⟨k,hk,rfl,HA⟩:=hrel
     obtain⟨q,hL,hq⟩:=HA.out
     have HL:Hid(CopyL p w wr o q∧(q.pure= { p.pure with buffers:=p.pure.buffers.take k,ports:= [] })∧q.buffers.length=k):=⟨hL,hq,lenBuffer hq hk⟩
     clear HA hL hq
     have mp:wr.cell? ⟨w.heap.size,6,none⟩=some(.slice p.bufferA p.buffers.length p.bufferC):=by obtain⟨m0,m1,m2,m3,m4,m5,m6,m7⟩:=HL.out.1.part.cells; exact m6
     by_cases hlt:k < p.buffers.length
     ·have i0:(0:Int)≤(k:Int):=by omega
      have i1:(k:Int) < (p.buffers.length:Int):=by omega
      obtain⟨x,hx⟩: ∃ x,p.buffers[k]? =some x:=⟨_,List.getElem?_eq_getElem hlt⟩
      have hAt:=HF.out.2.below HL.out.1.bel
      obtain⟨gs,ha,hat⟩:=buffer_at hAt.2.2.2.2.1 hx
      rw [ha] at mp
      obtain⟨d0,d1,d2⟩:=hat
      have HX:Hid(p.buffers[k]? =some x∧Row wr x.itemsA(strK.flat x.items)∧x.items.length≤1048576):=⟨hx,hAt.2.2.2.2.1.2 x(List.mem_of_getElem? hx)(x.itemsA,strK.flat x.items)(List.mem_singleton.2 rfl),(HF.out.1.buffers x(List.mem_of_getElem? hx)).1⟩
      clear hx ha hAt
      have hb2:Below wr.heap.size wr((wr.alloc(.cells #[.int .i64 x.id,.int .i64 x.max,.slice x.itemsA x.items.length x.itemsC] 144)).alloc(.cells #[] 9)):=((Below.refl _ _).alloc(Nat.le_refl _)_).alloc(by simp)_
      obtain⟨a2,c2,w7,hap,how,hgw,hqb⟩:=ontoStr((wr.alloc(.cells #[.int .i64 x.id,.int .i64 x.max,.slice x.itemsA x.items.length x.itemsC] 144)).alloc(.cells #[] 9))wr.heap.size(wr.heap.size+1)(heap_alloc2_new _ _ _)(by omega)x.itemsA x.items x.itemsC(HX.out.2.1.below hb2)HX.out.2.2(by simp; omega)
      have hX7:=(hgw.block wr.heap.size(by simp; omega)(fun e=>by have:=Option.some.inj e; omega)).trans((heap_alloc_old _ _(by simp)).trans(heap_alloc_new wr _))
      have hb7:Below wr.heap.size wr w7:=hb2.grown hgw(by simp; omega)(fun k hk=>by cases hk; omega)
      have HW7:Hid(CpBuffer wr w7 x a2 c2):=⟨hX7,hb7,how,fun g hg=>by have h5:=hqb g hg; simp at h5; exact h5⟩
      have z0:w7.frozen? ⟨wr.heap.size,2,none⟩=false:=frozen_of_row _ _ _ _ _ hX7
      have z1:w7.cell? ⟨wr.heap.size,2,none⟩=some(.slice x.itemsA x.items.length x.itemsC):=by simp [World.cell?,hX7]
      clear hb2 how hgw hqb hX7 hb7
      obtain⟨co,e0,e1,e2⟩:=HL.out.1.inBuffer HW7.out rfl
      have hkl:q.buffers.length≤1048576:=by have:=HL.out.2.2; have:=HF.out.1.short.buffers; omega
      have hsz:w.heap.size+2≤w7.heap.size:=by have h5:=HW7.out.2.1.size; have h6:=HL.out.1.low; have h7:o < wr.heap.size:=(Array.getElem?_eq_some_iff.1 HL.out.1.out).1; omega
      have HR9:Hid(_):=HL.out.1.rowBuffer HW7.out rfl rfl
      go_wp2_with (at_builtin; first | (refine wpList_append_run _ rfl _ _ 59 rfl _ _ _ _ rfl rfl hap ?_; clear hap) | (refine wpList_append_own_at _ rfl _ _ 29 rfl(w.heap.size+2)144 i0' _ 3 40 Tryz.underlying29 HI.out.1 HI.out.2.1 HI.out.2.2.1 HI.out.2.2.2 rfl(by decide)(.slice q.bufferA q.buffers.length q.bufferC)q.buffers.length(bufferK.flat q.buffers)rfl HR9.out.1⟨w7.heap.size,0,none⟩1 1(bufferK.vals({ x with itemsA:=a2,itemsC:=c2 } :BufferD))(by rfl)rfl(World.news_of_block(cs:= #[.int .i64 x.id,.int .i64 x.max,.slice a2 x.items.length c2])(t:=144)(fr:=(0,0))HR9.out.2)(by simp [bufferK,bufferVals,Value.oneCell'])(by unfold maxLen; omega)(by omega)(by simp; omega) ?_; intro v5 w10 hown5 hgrow5 hnil5 hloc5; obtain⟨a5,c5,rfl,-⟩:=own_form hown5; have HN:Hid(CopyL p w(w10.setCell⟨o,6,none⟩(.slice a5(q.buffers.length+1)c5))o({ q with buffers:=q.buffers ++ [({ x with itemsA:=a2,itemsC:=c2 } :BufferD)],bufferA:=a5,bufferC:=c5 } :PartD)∧w10.cell? ⟨o,6,none⟩=some(.slice q.bufferA q.buffers.length q.bufferC)∧w10.frozen? ⟨o,6,none⟩=false):=HL.out.1.stepBuffer HW7.out rfl rfl hown5 hgrow5 hloc5; have yo:=HN.out.2.1; have zo:=HN.out.2.2; clear hown5 hgrow5 hnil5 hloc5))
      go_roundw
      case rel=>exact⟨k+1,by omega,by go_num,⟨_,HN.out.1,CopyL.upBuffer HL.out.2.1 HX.out.1⟩⟩
      case measure=>simp [Go.RowKit.intOf]; omega
     ·have i1: ¬ (k:Int) < (p.buffers.length:Int):=by omega
      have HE:Hid(∃ q,CopyL p w wr o q∧q.pure= { p.pure with ports:= [] }):=by
       have h5:=HL.out.2.1
       rw [List.take_of_length_le(by show (p.buffers.map _).length≤k; rw [List.length_map]; omega)] at h5
       exact⟨q,HL.out.1,h5⟩
      clear HL
      rename World=>W3
      obtain⟨i0',hi',e0'⟩:=Option.map_eq_some_iff.1 rinfPort
      simp only [Prod.mk.injEq] at e0'
      have HI:Hid(Tryz.prog.info? 61=some i0'∧i0'.zero=some _∧i0'.size=5∧i0'.bytes=48):=⟨hi',e0'⟩
      clear hi' e0'
      have hpPort:p.ports.length≤1048576:=HF.out.1.short.ports
      go_wp2_with fail
      clear mp
      go_loopw [8] (fun i wr=> ∃ k:Nat,k≤p.ports.length∧i= .int .i64 k∧Hid(∃ q,CopyL p w wr o q∧q.pure= { p.pure with ports:=p.pure.ports.take k }))(fun i _=>p.ports.length - (Go.RowKit.intOf i).toNat)
      case atStart=>exact⟨0,Nat.zero_le _,rfl,by obtain⟨q,h1,h2⟩:=HE.out; exact⟨q,h1,h2.trans(by simp)⟩⟩
      case round=>
       obtain⟨k,hk,rfl,HA⟩:=hrel
       obtain⟨q,hL,hq⟩:=HA.out
       have HL:Hid(CopyL p w wr o q∧(q.pure= { p.pure with ports:=p.pure.ports.take k })∧q.ports.length=k):=⟨hL,hq,lenPort hq hk⟩
       clear HA hL hq
       have mp:wr.cell? ⟨w.heap.size,7,none⟩=some(.slice p.portA p.ports.length p.portC):=by obtain⟨m0,m1,m2,m3,m4,m5,m6,m7⟩:=HL.out.1.part.cells; exact m7
       by_cases hlt:k < p.ports.length
       ·have i0:(0:Int)≤(k:Int):=by omega
        have i1:(k:Int) < (p.ports.length:Int):=by omega
        obtain⟨x,hx⟩: ∃ x,p.ports[k]? =some x:=⟨_,List.getElem?_eq_getElem hlt⟩
        have hAt:=HF.out.2.below HL.out.1.bel
        obtain⟨gs,ha,hat⟩:=port_at hAt.2.2.2.2.2 hx
        rw [ha] at mp
        obtain⟨d0,d1,d2,d3,d4⟩:=hat
        have HX:Hid(p.ports[k]? =some x∧Row wr x.itemsA(strK.flat x.items)∧x.items.length≤1048576):=⟨hx,hAt.2.2.2.2.2.2 x(List.mem_of_getElem? hx)(x.itemsA,strK.flat x.items)(List.mem_singleton.2 rfl),(HF.out.1.ports x(List.mem_of_getElem? hx)).1⟩
        clear hx ha hAt
        have hb2:Below wr.heap.size wr((wr.alloc(.cells #[.int .i64 x.id,.bool x.out,.bool x.queue,.int .i64 x.max,.slice x.itemsA x.items.length x.itemsC] 61)).alloc(.cells #[] 9)):=((Below.refl _ _).alloc(Nat.le_refl _)_).alloc(by simp)_
        obtain⟨a2,c2,w7,hap,how,hgw,hqb⟩:=ontoStr((wr.alloc(.cells #[.int .i64 x.id,.bool x.out,.bool x.queue,.int .i64 x.max,.slice x.itemsA x.items.length x.itemsC] 61)).alloc(.cells #[] 9))wr.heap.size(wr.heap.size+1)(heap_alloc2_new _ _ _)(by omega)x.itemsA x.items x.itemsC(HX.out.2.1.below hb2)HX.out.2.2(by simp; omega)
        have hX7:=(hgw.block wr.heap.size(by simp; omega)(fun e=>by have:=Option.some.inj e; omega)).trans((heap_alloc_old _ _(by simp)).trans(heap_alloc_new wr _))
        have hb7:Below wr.heap.size wr w7:=hb2.grown hgw(by simp; omega)(fun k hk=>by cases hk; omega)
        have HW7:Hid(CpPort wr w7 x a2 c2):=⟨hX7,hb7,how,fun g hg=>by have h5:=hqb g hg; simp at h5; exact h5⟩
        have z0:w7.frozen? ⟨wr.heap.size,4,none⟩=false:=frozen_of_row _ _ _ _ _ hX7
        have z1:w7.cell? ⟨wr.heap.size,4,none⟩=some(.slice x.itemsA x.items.length x.itemsC):=by simp [World.cell?,hX7]
        clear hb2 how hgw hqb hX7 hb7
        obtain⟨co,e0,e1,e2,e3,e4⟩:=HL.out.1.inPort HW7.out rfl
        have hkl:q.ports.length≤1048576:=by have:=HL.out.2.2; have:=HF.out.1.short.ports; omega
        have hsz:w.heap.size+2≤w7.heap.size:=by have h5:=HW7.out.2.1.size; have h6:=HL.out.1.low; have h7:o < wr.heap.size:=(Array.getElem?_eq_some_iff.1 HL.out.1.out).1; omega
        have HR9:Hid(_):=HL.out.1.rowPort HW7.out rfl rfl
        go_wp2_with (at_builtin; first | (refine wpList_append_run _ rfl _ _ 59 rfl _ _ _ _ rfl rfl hap ?_; clear hap) | (refine wpList_append_own_at _ rfl _ _ 30 rfl(w.heap.size+2)61 i0' _ 5 48 Tryz.underlying30 HI.out.1 HI.out.2.1 HI.out.2.2.1 HI.out.2.2.2 rfl(by decide)(.slice q.portA q.ports.length q.portC)q.ports.length(portK.flat q.ports)rfl HR9.out.1⟨w7.heap.size,0,none⟩1 1(portK.vals({ x with itemsA:=a2,itemsC:=c2 } :PortD))(by rfl)rfl(World.news_of_block(cs:= #[.int .i64 x.id,.bool x.out,.bool x.queue,.int .i64 x.max,.slice a2 x.items.length c2])(t:=61)(fr:=(0,0))HR9.out.2)(by simp [portK,portVals,Value.oneCell'])(by unfold maxLen; omega)(by omega)(by simp; omega) ?_; intro v5 w10 hown5 hgrow5 hnil5 hloc5; obtain⟨a5,c5,rfl,-⟩:=own_form hown5; have HN:Hid(CopyL p w(w10.setCell⟨o,7,none⟩(.slice a5(q.ports.length+1)c5))o({ q with ports:=q.ports ++ [({ x with itemsA:=a2,itemsC:=c2 } :PortD)],portA:=a5,portC:=c5 } :PartD)∧w10.cell? ⟨o,7,none⟩=some(.slice q.portA q.ports.length q.portC)∧w10.frozen? ⟨o,7,none⟩=false):=HL.out.1.stepPort HW7.out rfl rfl hown5 hgrow5 hloc5; have yo:=HN.out.2.1; have zo:=HN.out.2.2; clear hown5 hgrow5 hnil5 hloc5))
        go_roundw
        case rel=>exact⟨k+1,by omega,by go_num,⟨_,HN.out.1,CopyL.upPort HL.out.2.1 HX.out.1⟩⟩
        case measure=>simp [Go.RowKit.intOf]; omega
       ·have i1: ¬ (k:Int) < (p.ports.length:Int):=by omega
        have HE:Hid(∃ q,CopyL p w wr o q∧q.pure=p.pure):=by
         have h5:=HL.out.2.1
         rw [List.take_of_length_le(by show (p.ports.map _).length≤k; rw [List.length_map]; omega)] at h5
         exact⟨q,HL.out.1,h5⟩
        clear HL
        obtain⟨q,hL,hq⟩:=HE.out
        have HZ:Hid(CopyL p w wr o q∧q.pure=p.pure):=⟨hL,hq⟩
        obtain⟨m0,m1,m2,m3,m4,m5,m6,m7⟩:=hL.out.cells
        clear hL hq HE
        repeat (first | (go_big_may; refine stP 2 96(w.heap.size+1)q.row HZ.out.1.ret ?_) | go_values | go_skip | go_guarded | go_step | go_upon | go_back)
        repeat (first | go_values | go_skip | go_guarded | go_step | go_upon)
        refine rtP Tryz.results86(w.heap.size+1)q.row HZ.out.1.ret ?_
        have hne: ∀ g∈q.blocks,g≠w.heap.size+1:=fun g hg e=>by have:=(HZ.out.1.own.lt g hg).1; omega
        exact⟨q,rfl,(HZ.out.1.own.lower(by omega)).same fun g hg=>setRow_other _ _ _ _(hne g hg),HZ.out.2,below_setRow HZ.out.1.bel(by omega)_⟩
end Go.Proofs.YtkbcplnlehdjfaaGreat
