/- What the proof leans on, part 34: TkMem, WkAll, TkMem2, WokenS, TkMem3, TkBlock. -/
import Derived.Test.YtkbcplnlehdjfaaGreatOwnCh1
import Derived.Test.YtkbcplnlehdjfaaGreatOwnCh20
import Derived.Test.YtkbcplnlehdjfaaGreatOwnCh26
import Derived.Test.YtkbcplnlehdjfaaGreatOwnCh27
import Derived.Test.YtkbcplnlehdjfaaGreatOwnCh33
import Derived.Deep.LoopGhost
import Derived.Laws.Rows
import Derived.Deep.Cut
set_option maxRecDepth 100000
set_option maxHeartbeats 8000000

namespace Go.Proofs.YtkbcplnlehdjfaaGreat
open Go.RowKit
structure TkS(w:World)(base:Nat)(q q2:PartD)(W:World):Prop where
 own:PartOwn W base q2
 kept:KeptBut w W q.blocks
 far: ∀ g∈q2.blocks,g∈q.blocks∨w.heap.size≤g
def Gives(w:World)(base:Nat)(q:PartD)(f:PartP)(e:Ending)(w':World):Prop:= ∃ q2:PartD,e= .returned(.agg q2.cells)∧q2.pure=f∧TkS w base q q2 w'
structure Fr(w:World)(M base:Nat)(q0 z q:PartD)(W:World):Prop where
 box:PartBox W w.heap.size z
 own:PartOwn W base q
 kept:KeptBut w W q0.blocks
 far: ∀ g∈q.blocks,g∈q0.blocks∨M≤g
 lo: ∀ g∈q0.blocks,base≤g∧g < w.heap.size
 sz:w.heap.size < M∧M≤W.heap.size∧base≤w.heap.size
section
variable {w W W2:World} {M base:Nat} {q0 z q q2:PartD}
theorem Fr.not_in(h:Fr w M base q0 z q W) {X:Nat} (h1:w.heap.size≤X)(h2:X < M):X∉q.blocks:=fun hm=>by
 rcases h.far X hm with h3 | h3
 ·have:=(h.lo X h3).2; omega
 ·omega
theorem Fr.start(h:PartOwn w base q)(hb:base≤w.heap.size)(hx:PartBox W w.heap.size q)(hw:Below w.heap.size w W)(hM:w.heap.size < M∧M≤W.heap.size):Fr w M base q q q W:=
 ⟨hx,h.below hw,KeptBut.of_below hw,fun _ hg=> .inl hg,h.lt,hM.1,hM.2,hb⟩
theorem Fr.call(h:Fr w M base q0 z q W)(ht:TkS W base q q2 W2):Fr w M base q0 z q2 W2∧ ∀ X,w.heap.size≤X→X < M→W2.heap[X]? =W.heap[X]? :=by
 have hk: ∀ X,w.heap.size≤X→X < M→W2.heap[X]? =W.heap[X]? :=fun X h1 h2=>ht.kept.same X(by have:=h.sz; omega)(h.not_in h1 h2)
 refine⟨⟨(hk _(Nat.le_refl _)h.sz.1).trans h.box,ht.own,⟨ht.kept.os.trans h.kept.os,ht.kept.tape.trans h.kept.tape,ht.kept.output.trans h.kept.output,Nat.le_trans h.kept.size ht.kept.size,fun g h1 h2=>(ht.kept.same g(by have:=h.kept.size; omega)fun hm=> ?_).trans(h.kept.same g h1 h2)⟩,fun g hg=> ?_,h.lo,h.sz.1,Nat.le_trans h.sz.2.1 ht.kept.size,h.sz.2.2⟩,hk⟩
 ·rcases h.far g hm with h3 | h3
  ·exact h2 h3
  ·have:=h.sz; omega
 ·rcases ht.far g hg with h3 | h3
  ·exact h.far g h3
  ·exact .inr(by have:=h.sz; omega)
theorem Fr.reads(h:Fr w M base q0 z q W)(hb:Below W.heap.size W W2):Fr w M base q0 z q W2∧ ∀ X,X < M→W2.heap[X]? =W.heap[X]? :=
 ⟨⟨h.box.below hb,h.own.below hb,⟨hb.os.trans h.kept.os,hb.tape.trans h.kept.tape,hb.output.trans h.kept.output,Nat.le_trans h.kept.size hb.size,fun g h1 h2=>(hb.block g(by have:=h.kept.size; omega)).trans(h.kept.same g h1 h2)⟩,h.far,h.lo,h.sz.1,Nat.le_trans h.sz.2.1 hb.size,h.sz.2.2⟩,fun X hX=>hb.block X(by have:=h.sz; omega)⟩
theorem Fr.other(h:Fr w M base q0 z q W) {X:Nat} (h1:w.heap.size≤X)(h2:X < M)(cs:Array Value)(hz:PartBox(W.setRow X cs)w.heap.size q2):Fr w M base q0 q2 q(W.setRow X cs):=
 ⟨hz,h.own.same fun g hg=>setRow_other _ _ _ _ fun e=>h.not_in h1 h2(e ▸ hg),⟨h.kept.os,h.kept.tape,h.kept.output,by simpa using h.kept.size,fun g h3 h4=>(setRow_other _ _ _ _(by omega)).trans(h.kept.same g h3 h4)⟩,h.far,h.lo,h.sz.1,by simpa using h.sz.2.1,h.sz.2.2⟩
theorem Fr.put(h:Fr w M base q0 z q W):Fr w M base q0 q q(W.setRow w.heap.size q.cells):=h.other(Nat.le_refl _)h.sz.1 _(setRow_heap _ _ _ _ _ _ h.box)
theorem Fr.ans(h:Fr w M base q0 z q W) {X:Nat} (h1:w.heap.size < X)(h2:X < M)(cs:Array Value):TkS w base q0 q(W.setRow X cs):=by
 have h3:=h.other(q2:=z)(Nat.le_of_lt h1)h2 cs((setRow_other _ _ _ _(by omega)).trans h.box)
 exact⟨h3.own,h3.kept,fun g hg=>(h3.far g hg).imp_right fun h4=>by have:=h.sz; omega⟩
end
end Go.Proofs.YtkbcplnlehdjfaaGreat

namespace Go.Proofs.YtkbcplnlehdjfaaGreat
open Go.RowKit Go.Maps
attribute [local go_sem ↓] Go.wp_at_zero Go.wp_at_succ
structure WokeI(now:Int)(base:Nat)(w:World)(q0:PartD)(k:Nat)(q:PartD)(wr:World):Prop where
 box:PartBox wr w.heap.size q
 ans:wr.heap[w.heap.size+1]? =some(.cells zero8 32(0,0))
 own:PartOwn wr base q
 bel:Below base w wr
 wk:Wk now q.pure
 same:wokenL now q.pure=wokenL now q0.pure
 cnt:(dueL now q.pure.procs).length=k
 short: ∀ x∈q.procs,x.prog.length≤1048576
 low: ∀ g∈q.blocks,g < w.heap.size
theorem proc_block {q:PartD} {gs:Nat} (h:q.procA=some⟨gs,0,none⟩):gs∈q.blocks:=by
 unfold PartD.blocks
 rw [h]
 simp [blk]
theorem wake_is {now:Int} {q:PartD} {n:Nat} {y:ProcD} {code:Int} (hw:Wk now q.pure)(hy:q.procs[n]? =some y)(hp:q.pure.procs[n]? =some y.toProcP)(hc:codeOf y.toProcP=code)(hs: ∀ x∈q.procs,x.prog.length≤1048576):
  ({ q with next:=wakeN q.next y.toProcP,procs:=q.procs.set n(wakeD q.next code y) } :PartD).pure=wakeStep q.pure y.toProcP∧({ q with next:=wakeN q.next y.toProcP,procs:=q.procs.set n(wakeD q.next code y) } :PartD).blocks=q.blocks∧(∀ x∈({ q with next:=wakeN q.next y.toProcP,procs:=q.procs.set n(wakeD q.next code y) } :PartD).procs,x.prog.length≤1048576):=by
 refine⟨?_,?_,fun x hx=> ?_⟩
 ·unfold wakeStep
  rw [turn_set hw.rise hp rfl,hc]
  show ({ q.pure with next:=wakeN q.next y.toProcP,procs:=(q.procs.set n(wakeD q.next code y)).map(·.toProcP) } :PartP)=_
  rw [List.map_set]
  rfl
 ·unfold PartD.blocks
  simp only [kids_set hy(show (wakeD q.next code y).progA=y.progA from rfl)]
 ·rcases List.mem_or_eq_of_mem_set hx with h5 | h5
  ·exact hs x h5
  ·rw [h5]
   show (wakeF q.next code y.toProcP).prog.length≤_
   rw [(wakeF_id _ _ _).2]
   exact hs y(List.mem_of_getElem? hy)
theorem l4Woken_any(q0:PartD)(now:Int)(base:Nat)(w:World)(h:PartOwn w base q0)(hb:base≤w.heap.size)(hk:Wk now q0.pure)(hs: ∀ x∈q0.procs,x.prog.length≤1048576):
  Calls Tryz.prog 106 #[.agg q0.cells,.int .i64 now] w fun e w'=> ∃ q:PartD,e= .returned(.agg q.cells)∧q.pure=wokenL now q0.pure∧PartOwn w' base q∧Below base w w':=by
 have b1:Below w.heap.size w((w.alloc(.cells q0.cells 32)).alloc(.cells zero8 32)):=alloc2_below _ _ _
 have HB:Hid(WokeI now base w q0(dueL now q0.pure.procs).length q0((w.alloc(.cells q0.cells 32)).alloc(.cells zero8 32))∧base≤w.heap.size):=⟨⟨(alloc2_facts _ _ _).1,(alloc2_facts _ _ _).2,h.below b1,b1.mono hb,hk,rfl,rfl,hs,fun g hg=>(h.lt g hg).2⟩,hb⟩
 clear h hb hk hs b1
 unfold PartD.cells at *
 go_enter Tryz.func106,Tryz.ntmps106
 go_wp2_with fail
 generalize (w.alloc(.cells #[.int .i64 q0.id,.int .i64 q0.next,.slice q0.procA q0.procs.length q0.procC,.slice q0.semA q0.sems.length q0.semC,.slice q0.eventA q0.events.length q0.eventC,.slice q0.boardA q0.boards.length q0.boardC,.slice q0.bufferA q0.buffers.length q0.bufferC,.slice q0.portA q0.ports.length q0.portC] 32)).alloc(.cells zero8 32)=W at *
 go_loopg [] (dueL now q0.pure.procs).length(fun k wr=> ∃ q:PartD,Hid(WokeI now base w q0 k q wr))
 case atStart=>exact⟨q0,HB.out.1⟩
 case round=>
  obtain⟨q,HO⟩:=hrel
  rename World=>W1
  have hql:q.procs.length≤6:=by have h5:=HO.out.wk.low; simpa [PartD.pure] using h5
  go_wp2_with fail
  go_loopw [5,6] (fun b i wr=> ∃ (k:Nat)(z:Int),k≤q.procs.length∧i= .int .i64 k∧b= .int .i64 z∧Hid(BestAt soonB(dueB now)q.pure.procs k z∧Below W1.heap.size W1 wr))(fun _ i _=>q.procs.length - (Go.RowKit.intOf i).toNat)
  case atStart=>exact⟨0,-1,Nat.zero_le _,rfl,rfl,⟨BestAt.start _ _ _,Below.refl _ _⟩⟩
  case round=>
   obtain⟨k,z,hk,rfl,rfl,HA⟩:=hrel
   have HW:Hid(PartBox wr w.heap.size q∧PartOwn wr base q):=⟨HO.out.box.below HA.out.2,HO.out.own.below HA.out.2⟩
   obtain⟨m0,m1,m2,m3,m4,m5,m6,m7⟩:=HW.out.1.cells
   by_cases hlt:k < q.procs.length
   ·have i0:(0:Int)≤(k:Int):=by omega
    have i1:(k:Int) < (q.procs.length:Int):=by omega
    clear m0 m1 m3 m4 m5 m6 m7
    obtain⟨x,hx⟩: ∃ x,q.procs[k]? =some x:=⟨_,List.getElem?_eq_getElem hlt⟩
    have HX:Hid(q.procs[k]? =some x∧q.pure.procs[k]? =some x.toProcP):=⟨hx,by show (q.procs.map(·.toProcP))[k]? =_; rw [List.getElem?_map,hx]; rfl⟩
    obtain⟨gs,ha,hat⟩:=proc_at HW.out.2.at.1 hx
    have HG:Hid(q.procA=some⟨gs,0,none⟩):=ha
    rw [ha] at m2
    obtain⟨d0,d1,d2,d3,d4,d5,d6,d7,d8,d9,d10,d11⟩:=hat
    clear hx ha
    have hgl:w.heap.size < wr.heap.size:=(Array.getElem?_eq_some_iff.1 HW.out.1).1
    have HN:Hid(PartBox(wr.alloc(.cells x.row 43))w.heap.size q∧PartOwn(wr.alloc(.cells x.row 43))base q∧ProcBox(wr.alloc(.cells x.row 43))wr.heap.size x∧Below W1.heap.size W1(wr.alloc(.cells x.row 43))):=⟨HW.out.1.below((Below.refl _ _).alloc(Nat.le_refl _)_),HW.out.2.below((Below.refl _ _).alloc(Nat.le_refl _)_),heap_alloc_new _ _,HA.out.2.alloc HA.out.2.size _⟩
    go_wp2_with fail
    generalize wr.alloc(.cells x.row 43)=W5 at *
    generalize wr.heap.size=X at *
    clear d0 d1 d2 d3 d4 d5 d6 d7 d8 d9 d10 d11 m2 hgl
    obtain⟨-,-,m2,-⟩:=HN.out.1.cells
    rw [HG.out] at m2
    obtain⟨-,-,-,b3,-,-,b6,-⟩:=HN.out.2.2.1.cells
    by_cases hs:2≤x.state
    rotate_left
    ·have d1:decide(2≤x.state)=false:=decide_eq_false hs
     have HY:Hid(BestAt soonB(dueB now)q.pure.procs(k+1)z):=HA.out.1.skip HX.out.2(by show (decide(2≤x.state) && _)=false; rw [d1]; rfl)
     clear hs
     refine tame_region(fun w'=>(w'.cell? ⟨w.heap.size,2,none⟩=some(.slice(some⟨gs,0,none⟩)q.procs.length q.procC)∧w'.cell? ⟨X,3,none⟩=some(.int .i64 x.state)∧w'.cell? ⟨X,6,none⟩=some(.int .i64 x.wake))∧Hid(Below W5.heap.size W5 w'))(by kernel_rfl)⟨⟨m2,b3,b6⟩,(Below.refl _ _).drew⟩ ?_
     iterate 4(refine yl(v:= ?_) ?_ ?_; rotate_left; (intro w0 hS0; obtain⟨⟨o2,o3,o6⟩,hH⟩:=hS0; go_simp; try with_reducible rfl); simp only [pt,sb,s0,s1])
     iterate 4(refine nl ?_; simp only [pt,sb,s0,s1])
     iterate 2(refine yl(v:= ?_) ?_ ?_; rotate_left; (intro w0 hS0; obtain⟨⟨o2,o3,o6⟩,hH⟩:=hS0; go_simp; try with_reducible rfl); simp only [pt,sb,s0,s1])
     iterate 13(refine nl ?_; simp only [pt,sb,s0,s1])
     (refine yl(v:= ?_) ?_ ?_; rotate_left; (intro w0 hS0; obtain⟨⟨o2,o3,o6⟩,hH⟩:=hS0; go_simp; try with_reducible rfl); simp only [pt,sb,s0,s1])
     refine tame_done(by kernel_rfl) ?_ _
     intro w1 hS1
     have HV:Hid(Below W1.heap.size W1 w1):=HN.out.2.2.2.trans(hS1.2.out.mono HN.out.2.2.2.size)
     clear hS1
     go_wp2
     go_roundw
     case rel=>exact⟨k+1,z,by omega,by go_num,rfl,⟨HY.out,HV.out⟩⟩
     case measure=>simp [Go.RowKit.intOf]; omega
    have d1:decide(2≤x.state)=true:=decide_eq_true hs
    cases hv:inB x.wake 1 now
    ·have VB:Hid(Ending.returned(.bool(inB x.wake 1 now))=Ending.returned(.bool false)):=by show _=_; rw [hv]
     have HY:Hid(BestAt soonB(dueB now)q.pure.procs(k+1)z):=HA.out.1.skip HX.out.2(by show (_ && inB x.wake 1 now)=false; rw [hv,Bool.and_false])
     clear hs hv
     refine tame_region(fun w'=>(w'.cell? ⟨w.heap.size,2,none⟩=some(.slice(some⟨gs,0,none⟩)q.procs.length q.procC)∧w'.cell? ⟨X,3,none⟩=some(.int .i64 x.state)∧w'.cell? ⟨X,6,none⟩=some(.int .i64 x.wake))∧Hid(Below W5.heap.size W5 w'))(by kernel_rfl)⟨⟨m2,b3,b6⟩,(Below.refl _ _).drew⟩ ?_
     iterate 7(refine yl(v:= ?_) ?_ ?_; rotate_left; (intro w0 hS0; obtain⟨⟨o2,o3,o6⟩,hH⟩:=hS0; go_simp; try with_reducible rfl); simp only [pt,sb,s0,s1])
     refine cl(.bool false)78 #[.int .i64 x.wake,.int .i64 1,.int .i64 now] ?_ ?_ ?_
     ·intro w0 hS0
      obtain⟨⟨o2,o3,o6⟩,hH⟩:=hS0
      go_simp
      try with_reducible rfl
     ·intro w0 hS0
      refine(l1In_any x.wake 1 now w0).mono ?_
      rintro e w2⟨rfl,rfl⟩
      exact⟨VB.out,hS0⟩
     simp only [pt,sb,s0,s1]
     iterate 2(refine yl(v:= ?_) ?_ ?_; rotate_left; (intro w0 hS0; obtain⟨⟨o2,o3,o6⟩,hH⟩:=hS0; go_simp; try with_reducible rfl); simp only [pt,sb,s0,s1])
     iterate 13(refine nl ?_; simp only [pt,sb,s0,s1])
     (refine yl(v:= ?_) ?_ ?_; rotate_left; (intro w0 hS0; obtain⟨⟨o2,o3,o6⟩,hH⟩:=hS0; go_simp; try with_reducible rfl); simp only [pt,sb,s0,s1])
     refine tame_done(by kernel_rfl) ?_ _
     intro w1 hS1
     have HV:Hid(Below W1.heap.size W1 w1):=HN.out.2.2.2.trans(hS1.2.out.mono HN.out.2.2.2.size)
     clear hS1
     go_wp2
     go_roundw
     case rel=>exact⟨k+1,z,by omega,by go_num,rfl,⟨HY.out,HV.out⟩⟩
     case measure=>simp [Go.RowKit.intOf]; omega
    have VB:Hid(Ending.returned(.bool(inB x.wake 1 now))=Ending.returned(.bool true)):=by show _=_; rw [hv]
    have HF:Hid(dueB now x.toProcP=true):=by show (decide(2≤x.state) && inB x.wake 1 now)=true; rw [hv,d1]; rfl
    clear hs hv
    by_cases hz:z < 0
    ·have dz:decide(z < 0)=true:=decide_eq_true hz
     have HY:Hid(BestAt soonB(dueB now)q.pure.procs(k+1)k):=HA.out.1.first hz HX.out.2 HF.out
     refine tame_region(fun w'=>(w'.cell? ⟨w.heap.size,2,none⟩=some(.slice(some⟨gs,0,none⟩)q.procs.length q.procC)∧w'.cell? ⟨X,3,none⟩=some(.int .i64 x.state)∧w'.cell? ⟨X,6,none⟩=some(.int .i64 x.wake))∧Hid(Below W5.heap.size W5 w'))(by kernel_rfl)⟨⟨m2,b3,b6⟩,(Below.refl _ _).drew⟩ ?_
     iterate 7(refine yl(v:= ?_) ?_ ?_; rotate_left; (intro w0 hS0; obtain⟨⟨o2,o3,o6⟩,hH⟩:=hS0; go_simp; try with_reducible rfl); simp only [pt,sb,s0,s1])
     refine cl(.bool true)78 #[.int .i64 x.wake,.int .i64 1,.int .i64 now] ?_ ?_ ?_
     ·intro w0 hS0
      obtain⟨⟨o2,o3,o6⟩,hH⟩:=hS0
      go_simp
      try with_reducible rfl
     ·intro w0 hS0
      refine(l1In_any x.wake 1 now w0).mono ?_
      rintro e w2⟨rfl,rfl⟩
      exact⟨VB.out,hS0⟩
     simp only [pt,sb,s0,s1]
     iterate 5(refine yl(v:= ?_) ?_ ?_; rotate_left; (intro w0 hS0; obtain⟨⟨o2,o3,o6⟩,hH⟩:=hS0; go_simp; try with_reducible rfl); simp only [pt,sb,s0,s1])
     iterate 9(refine nl ?_; simp only [pt,sb,s0,s1])
     iterate 2(refine yl(v:= ?_) ?_ ?_; rotate_left; (intro w0 hS0; obtain⟨⟨o2,o3,o6⟩,hH⟩:=hS0; go_simp; try with_reducible rfl); simp only [pt,sb,s0,s1])
     refine tame_done(by kernel_rfl) ?_ _
     intro w1 hS1
     have HV:Hid(Below W1.heap.size W1 w1):=HN.out.2.2.2.trans(hS1.2.out.mono HN.out.2.2.2.size)
     clear hS1
     go_wp2
     go_roundw
     case rel=>exact⟨k+1,k,by omega,by go_num,rfl,⟨HY.out,HV.out⟩⟩
     case measure=>simp [Go.RowKit.intOf]; omega
    have dz:decide(z < 0)=false:=decide_eq_false hz
    obtain⟨n,y0,hzn,hn,hy0,hbe⟩:=HA.out.1.got hz
    subst hzn
    have HYB:Hid(BestAt soonB(dueB now)q.pure.procs(k+1)(if soonB x.toProcP y0 then (k:Int)else (n:Int))):=BestAt.next hn hy0 hbe HX.out.2 HF.out
    obtain⟨y,hy,rfl⟩: ∃ y,q.procs[n]? =some y∧y.toProcP=y0:=by
     have h5:(q.procs.map(·.toProcP))[n]? =some y0:=hy0
     rw [List.getElem?_map,Option.map_eq_some_iff] at h5
     exact h5
    have j0:(0:Int)≤(n:Int):=by omega
    have j1:(n:Int) < (q.procs.length:Int):=by omega
    obtain⟨gs2,ha2,hat2⟩:=proc_at HN.out.2.1.at.1 hy
    rw [HG.out] at ha2
    cases ha2
    obtain⟨-,-,-,-,-,-,y6,-⟩:=hat2
    clear hy hy0 hbe hz
    by_cases hw:x.wake < y.wake
    ·have dw:decide(x.wake < y.wake)=true:=decide_eq_true hw
     have HY:Hid(BestAt soonB(dueB now)q.pure.procs(k+1)k):=by have h5:=HYB.out; rwa [show soonB x.toProcP y.toProcP=true from dw,if_pos rfl] at h5
     clear hw HYB
     refine tame_region(fun w'=>(w'.cell? ⟨w.heap.size,2,none⟩=some(.slice(some⟨gs,0,none⟩)q.procs.length q.procC)∧w'.cell? ⟨X,3,none⟩=some(.int .i64 x.state)∧w'.cell? ⟨X,6,none⟩=some(.int .i64 x.wake)∧w'.cell? ⟨gs,n * 12+6,none⟩=some(.int .i64 y.wake))∧Hid(Below W5.heap.size W5 w'))(by kernel_rfl)⟨⟨m2,b3,b6,y6⟩,(Below.refl _ _).drew⟩ ?_
     iterate 7(refine yl(v:= ?_) ?_ ?_; rotate_left; (intro w0 hS0; obtain⟨⟨o2,o3,o6,o7⟩,hH⟩:=hS0; go_simp; try with_reducible rfl); simp only [pt,sb,s0,s1])
     refine cl(.bool true)78 #[.int .i64 x.wake,.int .i64 1,.int .i64 now] ?_ ?_ ?_
     ·intro w0 hS0
      obtain⟨⟨o2,o3,o6,o7⟩,hH⟩:=hS0
      go_simp
      try with_reducible rfl
     ·intro w0 hS0
      refine(l1In_any x.wake 1 now w0).mono ?_
      rintro e w2⟨rfl,rfl⟩
      exact⟨VB.out,hS0⟩
     simp only [pt,sb,s0,s1]
     iterate 16(refine yl(v:= ?_) ?_ ?_; rotate_left; (intro w0 hS0; obtain⟨⟨o2,o3,o6,o7⟩,hH⟩:=hS0; go_simp; try with_reducible rfl); simp only [pt,sb,s0,s1])
     refine tame_done(by kernel_rfl) ?_ _
     intro w1 hS1
     have HV:Hid(Below W1.heap.size W1 w1):=HN.out.2.2.2.trans(hS1.2.out.mono HN.out.2.2.2.size)
     clear hS1
     go_wp2
     go_roundw
     case rel=>exact⟨k+1,k,by omega,by go_num,rfl,⟨HY.out,HV.out⟩⟩
     case measure=>simp [Go.RowKit.intOf]; omega
    ·have dw:decide(x.wake < y.wake)=false:=decide_eq_false hw
     have HY:Hid(BestAt soonB(dueB now)q.pure.procs(k+1)n):=by have h5:=HYB.out; rwa [show soonB x.toProcP y.toProcP=false from dw,if_neg Bool.false_ne_true] at h5
     clear hw HYB
     refine tame_region(fun w'=>(w'.cell? ⟨w.heap.size,2,none⟩=some(.slice(some⟨gs,0,none⟩)q.procs.length q.procC)∧w'.cell? ⟨X,3,none⟩=some(.int .i64 x.state)∧w'.cell? ⟨X,6,none⟩=some(.int .i64 x.wake)∧w'.cell? ⟨gs,n * 12+6,none⟩=some(.int .i64 y.wake))∧Hid(Below W5.heap.size W5 w'))(by kernel_rfl)⟨⟨m2,b3,b6,y6⟩,(Below.refl _ _).drew⟩ ?_
     iterate 7(refine yl(v:= ?_) ?_ ?_; rotate_left; (intro w0 hS0; obtain⟨⟨o2,o3,o6,o7⟩,hH⟩:=hS0; go_simp; try with_reducible rfl); simp only [pt,sb,s0,s1])
     refine cl(.bool true)78 #[.int .i64 x.wake,.int .i64 1,.int .i64 now] ?_ ?_ ?_
     ·intro w0 hS0
      obtain⟨⟨o2,o3,o6,o7⟩,hH⟩:=hS0
      go_simp
      try with_reducible rfl
     ·intro w0 hS0
      refine(l1In_any x.wake 1 now w0).mono ?_
      rintro e w2⟨rfl,rfl⟩
      exact⟨VB.out,hS0⟩
     simp only [pt,sb,s0,s1]
     iterate 16(refine yl(v:= ?_) ?_ ?_; rotate_left; (intro w0 hS0; obtain⟨⟨o2,o3,o6,o7⟩,hH⟩:=hS0; go_simp; try with_reducible rfl); simp only [pt,sb,s0,s1])
     refine tame_done(by kernel_rfl) ?_ _
     intro w1 hS1
     have HV:Hid(Below W1.heap.size W1 w1):=HN.out.2.2.2.trans(hS1.2.out.mono HN.out.2.2.2.size)
     clear hS1
     go_wp2
     go_roundw
     case rel=>exact⟨k+1,n,by omega,by go_num,rfl,⟨HY.out,HV.out⟩⟩
     case measure=>simp [Go.RowKit.intOf]; omega
   ·have i1: ¬ (k:Int) < (q.procs.length:Int):=by omega
    have HE:Hid(BestAt soonB(dueB now)q.pure.procs q.procs.length z):=by have h5:=HA.out.1; rwa [show k=q.procs.length by omega] at h5
    have hfl:q.pure.procs.take q.procs.length=q.pure.procs:=by rw [List.take_of_length_le]; simp [PartD.pure]
    have HZ0:Hid(wr.heap[w.heap.size+1]? =some(.cells zero8 32(0,0))∧Below base w wr):=⟨(HA.out.2.block _(Array.getElem?_eq_some_iff.1 HO.out.ans).1).trans HO.out.ans,HO.out.bel.trans(HA.out.2.mono(by have:=HO.out.bel.size; have:=HB.out.2; omega))⟩
    by_cases hz:z < 0
    ·have HD:Hid(nextDue now q.pure.procs=none):=by have h5:=HE.out.none' hz; rwa [hfl] at h5
     have dz:decide(z < 0)=true:=decide_eq_true hz
     clear hfl hz
     go_wp2_with (refine stP 4 48(w.heap.size+1)q.row HZ0.out.1 ?_)
     refine rtP Tryz.results106(w.heap.size+1)q.row HZ0.out.1 ?_
     exact⟨q,rfl,by rw [← HO.out.same]; exact(woken_none HD.out).symm,HW.out.2.same fun g hg=>setRow_other _ _ _ _(by have:=HO.out.low g hg; omega),below_setRow HZ0.out.2(by have:=HB.out.2; omega)_⟩
    have dz:decide(z < 0)=false:=decide_eq_false hz
    obtain⟨n,y0,hzn,hn,hy0,hbe⟩:=HE.out.got hz
    subst hzn
    rw [hfl] at hbe
    obtain⟨y,hy,rfl⟩: ∃ y,q.procs[n]? =some y∧y.toProcP=y0:=by
     have h5:(q.procs.map(·.toProcP))[n]? =some y0:=hy0
     rw [List.getElem?_map,Option.map_eq_some_iff] at h5
     exact h5
    have HD:Hid(nextDue now q.pure.procs=some y.toProcP∧q.procs[n]? =some y∧q.pure.procs[n]? =some y.toProcP):=⟨hbe,hy,hy0⟩
    have j0:(0:Int)≤(n:Int):=by omega
    have j1:(n:Int) < (q.procs.length:Int):=by omega
    obtain⟨gs,ha,hat⟩:=proc_at HW.out.2.at.1 hy
    have HG:Hid(q.procA=some⟨gs,0,none⟩):=ha
    have d3:=hat.2.2.2.1
    rw [ha] at m2
    have hdu:=(Wk.mem hbe)
    have hst:2≤y.state:=by have h5:=hdu.2; unfold dueB at h5; simp only [Bool.and_eq_true,decide_eq_true_eq] at h5; exact h5.1
    have hop:=HO.out.wk.op y.toProcP hdu.1 hst
    have hro:=HO.out.wk.room
    have hle:=HO.out.short y(List.mem_of_getElem? hy)
    have hcall:=fun code=>l4Wake_any q n base y code wr HW.out.2(by have:=HO.out.bel.size; have:=HA.out.2.size; have:=HB.out.2; omega)hy hop hle(by have h5:q.pure.next=q.next:=rfl; omega)
    clear hfl hz hbe hy hy0 hat ha hdu hst hop hro hle hn
    unfold PartD.cells at hcall
    simp only [HG.out] at hcall
    cases e2:(y.state == 2)
    ·skip
     replace hcall:=hcall 2
     have HCO:Hid(codeOf y.toProcP=2):=by show codeOf y.toProcP=_; unfold codeOf; rw [if_neg(by simpa using e2)]
     go_wp2_with fail
     clear m0 m1 m2 m3 m4 m5 m6 m7 d3 e2
     refine hcall.mono ?_
     clear hcall
     rintro e w2⟨q2,rfl,hq2,ho2,hb2,hk2⟩
     have HQ2:Hid(q2.pure=wakeStep q.pure y.toProcP∧q2.blocks=q.blocks∧(∀ x∈q2.procs,x.prog.length≤1048576)):=by rw [← HG.out] at hq2; rw [hq2]; exact wake_is HO.out.wk HD.out.2.1 HD.out.2.2 HCO.out HO.out.short
     clear hq2
     have hgl:=HO.out.low gs(by rw [show q.blocks=q.blocks from rfl]; exact proc_block HG.out)
     have hww:w.heap.size+1 < wr.heap.size:=(Array.getElem?_eq_some_iff.1 HZ0.out.1).1
     have H2:Hid(PartBox w2 w.heap.size q∧w2.heap[w.heap.size+1]? =some(.cells zero8 32(0,0))∧PartOwn w2 base q2∧Below base w w2):=⟨(hk2.same _(by omega)(by simp [blk]; omega)).trans HW.out.1,(hk2.same _(by omega)(by simp [blk]; omega)).trans HZ0.out.1,ho2,HZ0.out.2.trans hb2⟩
     clear ho2 hb2 hk2 hgl hww
     have HI:Hid(WokeI now base w q0(dueL now q2.pure.procs).length q2(w2.setRow w.heap.size q2.cells)∧(dueL now q2.pure.procs).length < gk):=by
      have hst:=HO.out.wk.step HD.out.1
      have hc:=HO.out.cnt
      have hbb:=HB.out.2
      rw [HQ2.out.1]
      refine⟨⟨setRow_heap _ _ _ _ _ _ H2.out.1,(setRow_other _ _ _ _(by omega)).trans H2.out.2.1,H2.out.2.2.1.same fun g hg=>setRow_other _ _ _ _(by rw [HQ2.out.2.1] at hg; have:=HO.out.low g hg; omega),below_setRow H2.out.2.2.2 hbb _,by rw [HQ2.out.1]; exact hst.1,by rw [HQ2.out.1,← HO.out.same]; exact(woken_some HO.out.wk HD.out.1).symm,by rw [HQ2.out.1],HQ2.out.2.2,fun g hg=>HO.out.low g(by rw [← HQ2.out.2.1]; exact hg)⟩,by omega⟩
     go_wp2_with (refine stP 2 59(w.heap.size)q2.cells H2.out.1 ?_)
     go_roundg(dueL now q2.pure.procs).length
     case rel=>exact⟨q2,HI.out.1⟩
     case measure=>exact HI.out.2
    ·skip
     replace hcall:=hcall 0
     have HCO:Hid(codeOf y.toProcP=0):=by show codeOf y.toProcP=_; unfold codeOf; rw [if_pos(by simpa using e2)]
     go_wp2_with fail
     clear m0 m1 m2 m3 m4 m5 m6 m7 d3 e2
     refine hcall.mono ?_
     clear hcall
     rintro e w2⟨q2,rfl,hq2,ho2,hb2,hk2⟩
     have HQ2:Hid(q2.pure=wakeStep q.pure y.toProcP∧q2.blocks=q.blocks∧(∀ x∈q2.procs,x.prog.length≤1048576)):=by rw [← HG.out] at hq2; rw [hq2]; exact wake_is HO.out.wk HD.out.2.1 HD.out.2.2 HCO.out HO.out.short
     clear hq2
     have hgl:=HO.out.low gs(by rw [show q.blocks=q.blocks from rfl]; exact proc_block HG.out)
     have hww:w.heap.size+1 < wr.heap.size:=(Array.getElem?_eq_some_iff.1 HZ0.out.1).1
     have H2:Hid(PartBox w2 w.heap.size q∧w2.heap[w.heap.size+1]? =some(.cells zero8 32(0,0))∧PartOwn w2 base q2∧Below base w w2):=⟨(hk2.same _(by omega)(by simp [blk]; omega)).trans HW.out.1,(hk2.same _(by omega)(by simp [blk]; omega)).trans HZ0.out.1,ho2,HZ0.out.2.trans hb2⟩
     clear ho2 hb2 hk2 hgl hww
     have HI:Hid(WokeI now base w q0(dueL now q2.pure.procs).length q2(w2.setRow w.heap.size q2.cells)∧(dueL now q2.pure.procs).length < gk):=by
      have hst:=HO.out.wk.step HD.out.1
      have hc:=HO.out.cnt
      have hbb:=HB.out.2
      rw [HQ2.out.1]
      refine⟨⟨setRow_heap _ _ _ _ _ _ H2.out.1,(setRow_other _ _ _ _(by omega)).trans H2.out.2.1,H2.out.2.2.1.same fun g hg=>setRow_other _ _ _ _(by rw [HQ2.out.2.1] at hg; have:=HO.out.low g hg; omega),below_setRow H2.out.2.2.2 hbb _,by rw [HQ2.out.1]; exact hst.1,by rw [HQ2.out.1,← HO.out.same]; exact(woken_some HO.out.wk HD.out.1).symm,by rw [HQ2.out.1],HQ2.out.2.2,fun g hg=>HO.out.low g(by rw [← HQ2.out.2.1]; exact hg)⟩,by omega⟩
     go_wp2_with (refine stP 2 59(w.heap.size)q2.cells H2.out.1 ?_)
     go_roundg(dueL now q2.pure.procs).length
     case rel=>exact⟨q2,HI.out.1⟩
     case measure=>exact HI.out.2
end Go.Proofs.YtkbcplnlehdjfaaGreat

namespace Go.Proofs.YtkbcplnlehdjfaaGreat
open Go.RowKit
section
variable {w W w':World} {M base n m gs:Nat} {q0 z q q2:PartD} {x y:ProcD}
theorem proc_in(ha:q.procA=some⟨gs,0,none⟩):gs∈q.blocks:=by unfold PartD.blocks; rw [ha]; simp [blk]
theorem TkS.of(ho:PartOwn w' base q2)(hk:KeptBut w w'(blk q.procA))(hb:q2.blocks=q.blocks):TkS w base q q2 w':=
 ⟨ho,hk.mono fun g hg=>by unfold PartD.blocks; exact List.mem_append_left _ hg,fun g hg=> .inl(hb ▸ hg)⟩
theorem TkS.refl(h:PartOwn w base q):TkS w base q q w:=⟨h,KeptBut.refl _ _,fun _ hg=> .inl hg⟩
theorem set_blocks {nx:Int} (hx:q.procs[n]? =some x)(hy:y.progA=x.progA):({ q with next:=nx,procs:=q.procs.set n y } :PartD).blocks=q.blocks:=by
 unfold PartD.blocks
 simp only [kids_set hx hy]
theorem set_cells {nx:Int} :({ q with next:=nx,procs:=q.procs.set n y } :PartD).cells=({ q with next:=nx } :PartD).cells:=by unfold PartD.cells; simp
theorem pure_at(hx:q.procs[n]? =some x):q.pure.procs[n]? =some x.toProcP:=by show (q.procs.map(·.toProcP))[n]? =_; rw [List.getElem?_map,hx]; rfl
theorem pure_mem(hx:q.procs[n]? =some x):x.toProcP∈q.pure.procs:=List.mem_of_getElem? (pure_at hx)
theorem set_pure {nx:Int} {f:ProcP→ProcP} (hr:q.pure.procs.Pairwise(fun x y=>x.id < y.id))(hx:q.procs[n]? =some x)(hy:y.toProcP=f x.toProcP):({ q with next:=nx,procs:=q.procs.set n y } :PartD).pure= { q.pure with next:=nx,procs:=turnP x.id f q.pure.procs } :=by
 rw [turn_set hr(pure_at hx)rfl,← hy]
 show ({ q.pure with next:=nx,procs:=(q.procs.set n y).map(·.toProcP) } :PartP)=_
 rw [List.map_set]
 rfl
theorem past_gives(code:Int)(h:PartOwn w base q)(hb:base≤w.heap.size)(hr:PartR q.pure)(hx:q.procs[n]? =some x)(h0: ¬ x.state=0):Calls Tryz.prog 219 #[.agg q.cells,.int .i64 n,.int .i64 code] w(Gives w base q(pastAt code x.id q.pure)):=by
 have h1:=(hr.proc(pure_mem hx)).2.1
 have h2:=op_of_state h1 h0
 have h3:=body_of h1
 unfold bodyB at h3
 simp only [Bool.and_eq_true] at h3
 have h4:=(prog_len h3.1.1.1.2).2
 refine(l4Past_any q n base x code w h hb hx h2(by omega)).mono ?_
 rintro e w'⟨rfl,ho,-,hk⟩
 exact⟨({ q with procs:=q.procs.set n(pastD code x) } :PartD),congrArg(fun c=>Ending.returned(.agg c))(set_cells(nx:=q.next)).symm,set_pure hr.rise hx(f:=pastP code)rfl,TkS.of ho hk(set_blocks hx rfl)⟩
theorem wake_gives(h:PartOwn w base q)(hb:base≤w.heap.size)(hr:PartR q.pure)(hx:q.procs[n]? =some x)(h0: ¬ x.state=0)(hn:q.next≤1000000000):Calls Tryz.prog 188 #[.agg q.cells,.int .i64 n,.int .i64 0] w(Gives w base q(wakeAt(fun y=>y)q.pure x.toProcP)):=by
 have h1:=(hr.proc(pure_mem hx)).2.1
 have h2:=op_of_state h1 h0
 have h3:=body_of h1
 unfold bodyB at h3
 simp only [Bool.and_eq_true] at h3
 have h4:=(prog_len h3.1.1.1.2).2
 have h5:=inB_iff.1 hr.next
 refine(l4Wake_any q n base x 0 w h hb hx h2(by omega)⟨by have:q.pure.next=q.next:=rfl; omega,hn⟩).mono ?_
 rintro e w'⟨q2,rfl,rfl,ho,-,hk⟩
 exact⟨_,rfl,set_pure hr.rise hx(f:=wakeF q.next 0)rfl,TkS.of ho hk(set_blocks hx rfl)⟩
theorem place_gives(h:PartOwn w base q)(hb:base≤w.heap.size)(hr:q.pure.procs.Pairwise(fun x y=>x.id < y.id))(hx:q.procs[n]? =some x)(hn:0≤q.next∧q.next≤1000000000):Calls Tryz.prog 98 #[.agg q.cells,.int .i64 n] w(Gives w base q { q.pure with next:=q.next+1,procs:=turnP x.id(fun y=> { y with since:=q.next })q.pure.procs }):=by
 refine(l4Place_kept q n base x w h hb hx hn).mono ?_
 rintro e w'⟨q2,rfl,rfl,ho,-,hk⟩
 exact⟨_,rfl,set_pure hr hx(f:=fun y=> { y with since:=q.next })rfl,TkS.of ho hk(set_blocks hx rfl)⟩
theorem Fr.setProc {j:Nat} {v:Value} (h:Fr w M base q0 z q W)(hx:q.procs[n]? =some x)(ha:q.procA=some⟨gs,0,none⟩)(hy:y.prog=x.prog∧y.progA=x.progA∧y.progC=x.progC)(hj:j < 12)
  (hv:procK.vals y=(procK.vals x).set j v):
  Fr w M base q0 z({ q with procs:=q.procs.set n y } :PartD)(W.setCell⟨gs,n * 12+j,none⟩v)∧(∀ X,w.heap.size≤X→X < M→(W.setCell⟨gs,n * 12+j,none⟩v).heap[X]? =W.heap[X]?)∧(∃ u,W.cell? ⟨gs,n * 12+j,none⟩=some u)∧W.frozen? ⟨gs,n * 12+j,none⟩=false:=by
 have h1:(procK.vals y)[j]? =some v:=by rw [hv,List.getElem?_set_self(by rw [procK.len]; exact hj)]
 have h2: ∀ r,r < 12→r≠j→(procK.vals y)[r]? =(procK.vals x)[r]? :=fun r _ hr=>by rw [hv,List.getElem?_set_ne(by omega)]
 have h3:=h.own.setProc(n:=n)(j:=j)(x:=x)(y:=y)(vs:= [v])hx ha hy(by simp; omega)(fun r hr=>by simp at hr; subst hr; rw [Nat.add_zero,h1]; rfl)(fun r hr hn=>h2 r hr(by simp at hn; omega))
 have hg:gs∈q.blocks:=proc_in ha
 have hs: ∀ X,w.heap.size≤X→X < M→(W.setCell⟨gs,n * 12+j,none⟩v).heap[X]? =W.heap[X]? :=fun X a b=>setCell_other fun e=>h.not_in a b(e ▸ hg)
 have hc:(∃ u,W.cell? ⟨gs,n * 12+j,none⟩=some u)∧W.frozen? ⟨gs,n * 12+j,none⟩=false:=by
  obtain⟨g,hg,hrow⟩:=RowAt.of_owns(K:=procK)h.own.procs(by have:=(List.getElem?_eq_some_iff.1 hx).1; omega)
  rw [ha] at hg
  cases hg
  have h7:=hrow.cell hx(r:=j)hj
  exact⟨⟨_,h7.1.trans(List.getElem?_eq_getElem(by rw [procK.len]; exact hj))⟩,h7.2⟩
 exact⟨⟨(hs _(Nat.le_refl _)h.sz.1).trans h.box,h3.1,⟨h.kept.os,h.kept.tape,h.kept.output,by simpa [World.setCell] using h.kept.size,fun g a b=>(setCell_other fun e=>by
  rcases h.far gs hg with c | c
  ·exact b(e ▸ c)
  ·have:=h.sz; omega).trans(h.kept.same g a b)⟩,fun g hg=>h.far g(h3.2.2 ▸ hg),h.lo,h.sz.1,by simpa [World.setCell] using h.sz.2.1,h.sz.2.2⟩,hs,hc⟩
theorem turn_turn {k:Int} {f g:ProcP→ProcP} (hf: ∀ y,(f y).id=y.id)(l:List ProcP):turnP k g(turnP k f l)=turnP k(fun y=>g(f y))l:=by
 unfold turnP
 rw [List.map_map]
 refine List.map_congr_left fun z _=> ?_
 simp only [Function.comp_def]
 by_cases e:z.id=k
 ·rw [if_pos e,if_pos e,if_pos(by rw [hf]; exact e)]
 ·rw [if_neg e,if_neg e,if_neg e]
theorem set_rise {nx:Int} (hr:q.pure.procs.Pairwise(fun x y=>x.id < y.id))(hx:q.procs[n]? =some x)(hy:y.id=x.id):({ q with next:=nx,procs:=q.procs.set n y } :PartD).pure.procs.Pairwise(fun x y=>x.id < y.id):=by
 rw [set_pure(f:=fun z=> { y.toProcP with id:=z.id })hr hx(by show y.toProcP= { y.toProcP with id:=x.id }; rw [← hy])]
 refine turn_rise(f:=fun z=> { y.toProcP with id:=z.id }) ?_ hr
 intro _; rfl
theorem set_same(hx:q.procs[n]? =some x):({ q with procs:=q.procs.set n x } :PartD)=q:=by
 have hn:=(List.getElem?_eq_some_iff.1 hx).1
 have e:q.procs.set n x=q.procs:=by
  rw [← (List.getElem?_eq_some_iff.1 hx).2]; simp
 rw [e]
theorem Fr.again {j:Nat} {v:Value} (h:Fr w M base q0 z { q with procs:=q.procs.set n x } W)(hn:n < q.procs.length)(ha:q.procA=some⟨gs,0,none⟩)(hy:y.prog=x.prog∧y.progA=x.progA∧y.progC=x.progC)(hj:j < 12)(hv:procK.vals y=(procK.vals x).set j v):
  Fr w M base q0 z({ q with procs:=q.procs.set n y } :PartD)(W.setCell⟨gs,n * 12+j,none⟩v)∧(∀ X,w.heap.size≤X→X < M→(W.setCell⟨gs,n * 12+j,none⟩v).heap[X]? =W.heap[X]?)∧(∃ u,W.cell? ⟨gs,n * 12+j,none⟩=some u)∧W.frozen? ⟨gs,n * 12+j,none⟩=false:=by
 have h1:=h.setProc(n:=n)(y:=y)(x:=x)(j:=j)(v:=v)(by show (q.procs.set n x)[n]? =_; rw [List.getElem?_set_self hn])ha hy hj hv
 simpa only [List.set_set] using h1
end
end Go.Proofs.YtkbcplnlehdjfaaGreat

namespace Go.Proofs.YtkbcplnlehdjfaaGreat
open Go.RowKit Go.Maps
attribute [local go_sem ↓] Go.wp_at_zero Go.wp_at_succ
theorem l4Room_any(p:PartD)(w:World):Calls Tryz.prog 105 #[.agg p.cells] w fun e w'=>e= .returned(.bool(decide(p.next≤999999980)))∧Below w.heap.size w w':=by
 have HB:Hid(PartBox(w.alloc(.cells p.cells 32))w.heap.size p∧Below w.heap.size w(w.alloc(.cells p.cells 32))):=⟨heap_alloc_new _ _,(Below.refl _ _).alloc(Nat.le_refl _)_⟩
 unfold PartD.cells at *
 obtain⟨-,m1,-⟩:=HB.out.1.cells
 go_enter Tryz.func105,Tryz.ntmps105
 go_wp2
 go_ret
 exact⟨rfl,HB.out.2⟩
end Go.Proofs.YtkbcplnlehdjfaaGreat

namespace Go.Proofs.YtkbcplnlehdjfaaGreat
open Go.RowKit
def opC(o:OpD):Array Value:= #[.int .i64 o.1,.int .i64 o.2.1,.int .i64 o.2.2.1,.string o.2.2.2]
def OpBox(W:World)(X:Nat)(o:OpD):Prop:=W.heap[X]? =some(.cells(opC o)134(0,0))
theorem OpBox.cells {W:World} {X:Nat} {o:OpD} (h:OpBox W X o):W.cell? ⟨X,0,none⟩=some(.int .i64 o.1)∧W.cell? ⟨X,1,none⟩=some(.int .i64 o.2.1)∧W.cell? ⟨X,2,none⟩=some(.int .i64 o.2.2.1)∧W.cell? ⟨X,3,none⟩=some(.string o.2.2.2):=by
 unfold OpBox at h
 simp [World.cell?,h,opC]
structure FO(w:World)(base:Nat)(q0 z q:PartD)(o:OpD)(W:World):Prop where
 fr:Fr w(w.heap.size+3)base q0 z q W
 op:OpBox W(w.heap.size+1)o
 an:W.heap[w.heap.size+2]? =some(.cells zero8 32(0,0))
section
variable {w W W2:World} {base:Nat} {q0 z q q2:PartD} {o:OpD}
theorem FO.start(h:PartOwn w base q)(hb:base≤w.heap.size):FO w base q q q o(((w.alloc(.cells q.cells 32)).alloc(.cells(opC o)134)).alloc(.cells zero8 32)):=by
 have h3:=alloc3_facts w(.cells q.cells 32)(.cells(opC o)134)(.cells zero8 32)
 exact⟨Fr.start h hb h3.1(alloc3_below _ _ _ _)⟨by omega,by rw [h3.2.2.2]; omega⟩,h3.2.1,h3.2.2.1⟩
theorem FO.call(h:FO w base q0 z q o W)(ht:TkS W base q q2 W2):FO w base q0 z q2 o W2:=by
 have h5:=h.fr.call ht
 exact⟨h5.1,(h5.2 _(by omega)(by omega)).trans h.op,(h5.2 _(by omega)(by omega)).trans h.an⟩
theorem FO.reads(h:FO w base q0 z q o W)(hb:Below W.heap.size W W2):FO w base q0 z q o W2:=by
 have h5:=h.fr.reads hb
 exact⟨h5.1,(h5.2 _(by omega)).trans h.op,(h5.2 _(by omega)).trans h.an⟩
theorem FO.put(h:FO w base q0 z q o W):FO w base q0 q q o(W.setRow w.heap.size q.cells):=⟨h.fr.put,(setRow_other _ _ _ _(by omega)).trans h.op,(setRow_other _ _ _ _(by omega)).trans h.an⟩
theorem FO.done(h:FO w base q0 z q o W)(cs:Array Value):TkS w base q0 q(W.setRow(w.heap.size+2)cs):=h.fr.ans(by omega)(by omega)cs
theorem FO.again {n gs j:Nat} {x y:ProcD} {v:Value} (h:FO w base q0 z { q with procs:=q.procs.set n x } o W)(hn:n < q.procs.length)(ha:q.procA=some⟨gs,0,none⟩)(hy:y.prog=x.prog∧y.progA=x.progA∧y.progC=x.progC)(hj:j < 12)(hv:procK.vals y=(procK.vals x).set j v):
  FO w base q0 z({ q with procs:=q.procs.set n y } :PartD)o(W.setCell⟨gs,n * 12+j,none⟩v)∧(∃ u,W.cell? ⟨gs,n * 12+j,none⟩=some u)∧W.frozen? ⟨gs,n * 12+j,none⟩=false:=by
 have h5:=h.fr.again hn ha hy hj hv
 exact⟨⟨h5.1,(h5.2.1 _(by omega)(by omega)).trans h.op,(h5.2.1 _(by omega)(by omega)).trans h.an⟩,h5.2.2⟩
theorem FO.low(h:FO w base q0 z q o W):base≤W.heap.size:=by have:=h.fr.sz; omega
theorem FO.m2 {gs:Nat} (h:FO w base q0 z q o W)(ha:z.procA=some⟨gs,0,none⟩):W.cell? ⟨w.heap.size,2,none⟩=some(.slice(some⟨gs,0,none⟩)z.procs.length z.procC):=by rw [← ha]; exact h.fr.box.cells.2.2.1
end
end Go.Proofs.YtkbcplnlehdjfaaGreat

namespace Go.Proofs.YtkbcplnlehdjfaaGreat
open Go.RowKit Go.Maps
attribute [local go_sem ↓] Go.wp_at_zero Go.wp_at_succ
theorem l5Block_any(q:PartD)(n base:Nat)(x:ProcD)(st on wait now:Int)(held:ByteArray)(w:World)(h:PartOwn w base q)(hb:base≤w.heap.size)(hr:PartR q.pure)(hx:q.procs[n]? =some x)(hn:q.next≤1000000000)(hnow:0≤now∧now≤1000000000)(hw: -1≤wait∧wait≤1000):
  Calls Tryz.prog 233 #[.agg q.cells,.int .i64 n,.int .i64 st,.int .i64 on,.string held,.int .i64 wait,.int .i64 now] w(Gives w base q(blockAt st on held(wakeOf now wait)x.id q.pure)):=by
 obtain⟨gs,ha,-⟩:=proc_at h.at.1 hx
 have hnl:n < q.procs.length:=(List.getElem?_eq_some_iff.1 hx).1
 have b1:=alloc2_below w(.cells q.cells 32)(.cells zero8 32)
 have h2:=alloc2_facts w(.cells q.cells 32)(.cells zero8 32)
 have S:Hid(Fr w(w.heap.size+2)base q q({ q with procs:=q.procs.set n x } :PartD)((w.alloc(.cells q.cells 32)).alloc(.cells zero8 32))∧((w.alloc(.cells q.cells 32)).alloc(.cells zero8 32)).heap[w.heap.size+1]? =some(.cells zero8 32(0,0))):=⟨by rw [set_same hx]; exact Fr.start h hb h2.1 b1⟨by omega,by have:=(Array.getElem?_eq_some_iff.1 h2.2).1; omega⟩,h2.2⟩
 have j0:(0:Int)≤(n:Int):=by omega
 have j1:(n:Int) < (q.procs.length:Int):=by omega
 have HR:Hid(PartR q.pure∧(0≤q.next∧q.next≤1000000000)∧q.procs[n]? =some x∧n < q.procs.length∧q.procA=some⟨gs,0,none⟩):=⟨hr,⟨by have h5:=inB_iff.1 hr.next; have:q.pure.next=q.next:=rfl; omega,hn⟩,hx,hnl,ha⟩
 obtain⟨n0,n1⟩:=hnow
 obtain⟨w0,w1⟩:=hw
 clear h hb hr hx hn b1 h2 ha hnl
 go_enter Tryz.func233,Tryz.ntmps233
 go_upto_region 1 with fail
 generalize (w.alloc(.cells q.cells 32)).alloc(.cells zero8 32)=A at *
 have m:=S.out.1.box.cells.2.2.1
 rw [HR.out.2.2.2.2] at m
 obtain⟨s,k,⟨u,c⟩,f⟩:=S.out.1.again(y:= { x with state:=st })(j:=3)(v:= .int .i64 st)HR.out.2.2.2.1 HR.out.2.2.2.2⟨rfl,rfl,rfl⟩(by decide)rfl
 replace S:=hided(And.intro s((k _(by omega)(by omega)).trans S.out.2))
 clear s k
 go_upto_region 2 with fail
 generalize A.setCell⟨gs,n * 12+3,none⟩(.int .i64 st)=A at *
 clear m c f u
 have m:=S.out.1.box.cells.2.2.1
 rw [HR.out.2.2.2.2] at m
 obtain⟨s,k,⟨u,c⟩,f⟩:=S.out.1.again(y:= { x with state:=st,on:=on })(j:=7)(v:= .int .i64 on)HR.out.2.2.2.1 HR.out.2.2.2.2⟨rfl,rfl,rfl⟩(by decide)rfl
 replace S:=hided(And.intro s((k _(by omega)(by omega)).trans S.out.2))
 clear s k
 go_upto_region 3 with fail
 generalize A.setCell⟨gs,n * 12+7,none⟩(.int .i64 on)=A at *
 clear m c f u
 have m:=S.out.1.box.cells.2.2.1
 rw [HR.out.2.2.2.2] at m
 obtain⟨s,k,⟨u,c⟩,f⟩:=S.out.1.again(y:= { x with state:=st,on:=on,held:=held })(j:=8)(v:= .string held)HR.out.2.2.2.1 HR.out.2.2.2.2⟨rfl,rfl,rfl⟩(by decide)rfl
 replace S:=hided(And.intro s((k _(by omega)(by omega)).trans S.out.2))
 clear s k
 go_upto_region 4 with fail
 generalize A.setCell⟨gs,n * 12+8,none⟩(.string held)=A at *
 clear m c f u
 have m:=S.out.1.box.cells.2.2.1
 rw [HR.out.2.2.2.2] at m
 obtain⟨s,k,⟨u,c⟩,f⟩:=S.out.1.again(y:= { x with state:=st,on:=on,held:=held,wake:= -1 })(j:=6)(v:= .int .i64(-1))HR.out.2.2.2.1 HR.out.2.2.2.2⟨rfl,rfl,rfl⟩(by decide)rfl
 replace S:=hided(And.intro s((k _(by omega)(by omega)).trans S.out.2))
 clear s k
 go_upto_region 5 with fail
 generalize A.setCell⟨gs,n * 12+6,none⟩(.int .i64(-1))=A at *
 clear m c f u
 by_cases hwt:0≤wait
 ·have dw:decide(wait≥0)=true:=decide_eq_true hwt
  have m:=S.out.1.box.cells.2.2.1
  rw [HR.out.2.2.2.2] at m
  obtain⟨s,k,⟨u,c⟩,f⟩:=S.out.1.again(y:= { x with state:=st,on:=on,held:=held,wake:=now+wait })(j:=6)(v:= .int .i64(now+wait))HR.out.2.2.2.1 HR.out.2.2.2.2⟨rfl,rfl,rfl⟩(by decide)rfl
  replace S:=hided(And.intro s((k _(by omega)(by omega)).trans S.out.2))
  clear s k
  go_upto_region 7 with fail
  generalize A.setCell⟨gs,n * 12+6,none⟩(.int .i64(now+wait))=A at *
  clear m c f u
  have hp:({ q with procs:=q.procs.set n { x with state:=st,on:=on,held:=held,wake:=now+wait } } :PartD).pure=_:=set_pure(nx:=q.next)(f:=fun y=> { y with state:=st,on:=on,held:=held,wake:=now+wait })HR.out.1.rise HR.out.2.2.1 rfl
  have hcall:=place_gives(n:=n)(x:= { x with state:=st,on:=on,held:=held,wake:=now+wait })S.out.1.own(by have:=S.out.1.sz; omega)(set_rise HR.out.1.rise HR.out.2.2.1 rfl)(by show (q.procs.set n _)[n]? =_; rw [List.getElem?_set_self HR.out.2.2.2.1])HR.out.2.1
  rw [set_cells(nx:=q.next),hp] at hcall
  have HE:Hid({ q.pure with next:=q.next+1,procs:=turnP x.id(fun y=> { y with since:=q.next })(turnP x.id(fun y=> { y with state:=st,on:=on,held:=held,wake:=now+wait })q.pure.procs) } =blockAt st on held(wakeOf now wait)x.id q.pure):=by show _=blockAt st on held(wakeOf now wait)x.id q.pure; rw [turn_turn(by intro _; rfl)]; unfold wakeOf; rw [if_pos hwt]; rfl
  clear hp hwt
  go_wp2_with (refine ldP 7 w.heap.size q.cells S.out.1.box ?_)
  refine hcall.mono ?_
  clear hcall
  rintro e W⟨q2,rfl,hp2,ht⟩
  have h5:=S.out.1.call ht
  have H5:=hided(And.intro h5.1((h5.2 _(by omega)(by omega)).trans S.out.2))
  have HP:Hid(q2.pure=_):=hp2
  clear hp2 ht h5
  go_wp2_with (refine stP 14 50(w.heap.size+1)q2.cells H5.out.2 ?_)
  refine rtP Tryz.results233(w.heap.size+1)q2.cells H5.out.2 ?_
  exact⟨q2,rfl,HP.out.trans HE.out,H5.out.1.ans(by omega)(by omega)_⟩
 ·have dw:decide(wait≥0)=false:=decide_eq_false hwt
  go_upto_region 7 with fail
  have hp:({ q with procs:=q.procs.set n { x with state:=st,on:=on,held:=held,wake:= -1 } } :PartD).pure=_:=set_pure(nx:=q.next)(f:=fun y=> { y with state:=st,on:=on,held:=held,wake:= -1 })HR.out.1.rise HR.out.2.2.1 rfl
  have hcall:=place_gives(n:=n)(x:= { x with state:=st,on:=on,held:=held,wake:= -1 })S.out.1.own(by have:=S.out.1.sz; omega)(set_rise HR.out.1.rise HR.out.2.2.1 rfl)(by show (q.procs.set n _)[n]? =_; rw [List.getElem?_set_self HR.out.2.2.2.1])HR.out.2.1
  rw [set_cells(nx:=q.next),hp] at hcall
  have HE:Hid({ q.pure with next:=q.next+1,procs:=turnP x.id(fun y=> { y with since:=q.next })(turnP x.id(fun y=> { y with state:=st,on:=on,held:=held,wake:= -1 })q.pure.procs) } =blockAt st on held(wakeOf now wait)x.id q.pure):=by show _=blockAt st on held(wakeOf now wait)x.id q.pure; rw [turn_turn(by intro _; rfl)]; unfold wakeOf; rw [if_neg hwt]; rfl
  clear hp hwt
  go_wp2_with (refine ldP 7 w.heap.size q.cells S.out.1.box ?_)
  refine hcall.mono ?_
  clear hcall
  rintro e W⟨q2,rfl,hp2,ht⟩
  have h5:=S.out.1.call ht
  have H5:=hided(And.intro h5.1((h5.2 _(by omega)(by omega)).trans S.out.2))
  have HP:Hid(q2.pure=_):=hp2
  clear hp2 ht h5
  go_wp2_with (refine stP 14 50(w.heap.size+1)q2.cells H5.out.2 ?_)
  refine rtP Tryz.results233(w.heap.size+1)q2.cells H5.out.2 ?_
  exact⟨q2,rfl,HP.out.trans HE.out,H5.out.1.ans(by omega)(by omega)_⟩
end Go.Proofs.YtkbcplnlehdjfaaGreat
