/- What the proof leans on, part 5: PPure, PImplPure, ProgL, ChPure, ShBase. -/
import Derived.Test.YtkbcplnlehdjfaaGreatOwnCh0
import Derived.Test.YtkbcplnlehdjfaaGreatOwnCh1
import Derived.Test.YtkbcplnlehdjfaaGreatOwnCh3
import Derived.Test.YtkbcplnlehdjfaaGreatOwnCh4
import Derived.Deep.RegionWith
import Derived.Deep.RegionHeld3
import Derived.Deep.DrawnRows
set_option maxRecDepth 100000
set_option maxHeartbeats 8000000

namespace Go.Proofs.YtkbcplnlehdjfaaGreat
open Go.RowKit
def noT:ByteArray:=⟨#[]⟩
def progL(l:List OpD):Bool:=progB l.length(kOf l)(nOf l)(mOf l)(sOf l)
def semB(x:SemD):Bool:=inB x.max 1 1000 && inB x.n 0 x.max
def eventB(_:EventD):Bool:=true
def boardB(x:BoardD):Bool:=plainB x.text && (x.shown || emptyB x.text)
def bufferB(x:BufferP):Bool:=inB x.max 1 5 && textsB x.items x.max
def portB(x:PortP):Bool:=inB x.max 1 5 && (x.queue || decide(x.max=1)) && textsB x.items x.max
def thingsB {α:Type} (num:α→Int)(ok:α→Bool):Int→List α→Bool
 | _,[] =>true
 | last,x :: r=>inB(num x)1 1000 && decide(last < num x) && ok x && thingsB num ok(num x)r
def lastOf {α:Type} (num:α→Int):Int→List α→Int
 | last,[] =>last
 | _,x :: r=>lastOf num(num x)r
section
variable {α:Type} {num:α→Int} {ok:α→Bool}
theorem thingsB_append: ∀ (l r:List α)(last:Int),thingsB num ok last(l ++ r)=(thingsB num ok last l && thingsB num ok(lastOf num last l)r)
 | [],r,last=>by simp [thingsB,lastOf]
 | x :: l,r,last=>by
  simp only [List.cons_append,thingsB,lastOf,thingsB_append l r(num x),Bool.and_assoc]
theorem lastOf_append: ∀ (l:List α)(x:α)(last:Int),lastOf num last(l ++ [x])=num x
 | [],_,_=>rfl
 | y :: l,x,_=>lastOf_append l x(num y)
theorem split_at {l:List α} {k:Nat} {x:α} (hx:l[k]? =some x):l=l.take k ++ x :: l.drop(k+1):=by
 have hk:k < l.length:=(List.getElem?_eq_some_iff.1 hx).1
 rw [List.getElem?_eq_getElem hk] at hx
 cases hx
 have:=List.take_append_drop k l
 rw [List.drop_eq_getElem_cons hk] at this
 exact this.symm
theorem take_up {l:List α} {k:Nat} {x:α} (hx:l[k]? =some x):l.take(k+1)=l.take k ++ [x] :=by
 have hk:k < l.length:=(List.getElem?_eq_some_iff.1 hx).1
 rw [List.getElem?_eq_getElem hk] at hx
 cases hx
 exact List.take_succ_eq_append_getElem hk
theorem lastOf_take {l:List α} {k:Nat} {x:α} (hx:l[k]? =some x)(last:Int):lastOf num last(l.take(k+1))=num x:=by
 rw [take_up hx,lastOf_append]
theorem things_yes {l:List α} {k:Nat} {x:α} {last:Int} (h:thingsB num ok last(l.take k)=true)(hx:l[k]? =some x)(h1:inB(num x)1 1000=true)(h2:lastOf num last(l.take k) < num x)(h3:ok x=true):thingsB num ok last(l.take(k+1))=true:=by
 rw [take_up hx,thingsB_append,h]
 simp [thingsB,h1,h2,h3]
theorem things_no {l:List α} {k:Nat} {x:α} {last:Int} (hx:l[k]? =some x)(h: ¬ (inB(num x)1 1000=true∧lastOf num last(l.take k) < num x∧ok x=true)):thingsB num ok last l=false:=by
 rw [split_at hx,thingsB_append]
 have:thingsB num ok(lastOf num last(l.take k))(x :: l.drop(k+1))=false:=by
  simp only [thingsB]
  cases h1:inB(num x)1 1000 <;> simp
  by_cases h2:lastOf num last(l.take k) < num x
  ·cases h3:ok x
   ·simp
   ·exact absurd⟨h1,h2,h3⟩h
  ·simp [h2]
 rw [this,Bool.and_false]
theorem things_all {l:List α} {last:Int} (h:thingsB num ok last l=true): ∀ x∈l,inB(num x)1 1000=true∧ok x=true:=by
 induction l generalizing last with
 | nil=>intro x hx; cases hx
 | cons y r ih=>
  simp only [thingsB,Bool.and_eq_true] at h
  intro x hx
  rcases List.mem_cons.1 hx with rfl | hx
  ·exact⟨h.1.1.1,h.1.2⟩
  ·exact ih h.2 x hx
theorem things_and {ok':α→Bool} {l:List α} {last:Int} :thingsB num(fun x=>ok x && ok' x)last l=(thingsB num ok last l && l.all ok'):=by
 induction l generalizing last with
 | nil=>rfl
 | cons y r ih=>
  simp only [thingsB,ih,List.all_cons]
  cases inB(num y)1 1000 <;> cases decide(last < num y) <;> cases ok y <;> cases ok' y <;> simp
end
theorem thingsB_map {α β:Type} (f:α→β)(num:β→Int)(ok:β→Bool)(l:List α)(last:Int):thingsB num ok last(l.map f)=thingsB(fun x=>num(f x))(fun x=>ok(f x))last l:=by
 induction l generalizing last with
 | nil=>rfl
 | cons y r ih=>simp only [List.map_cons,thingsB,ih]
def opAt(x:ProcP):OpD:=x.prog[x.pc.toNat]?.getD(0,0,0,noT)
def hasOpB(x:ProcP):Bool:=inB x.pc 0((x.prog.length:Int) - 1)
def leftB(x:ProcP):Bool:=if (opAt x).1=1 then decide(0≤x.left) && decide(x.left < (opAt x).2.1)else decide(x.left=0)
def wakeB(t:Int):Bool:=inB t 1 2000000000 || decide(t= -1)
def stateB(x:ProcP):Bool:=
 if x.state=0 then decide(x.pc=0) && decide(x.left=0) && decide(x.wake=0) && decide(x.on=0) && decide(x.since=0) && emptyB x.held
 else if x.state=1 then hasOpB x && leftB x && decide(x.wake=0) && decide(x.on=0) && emptyB x.held
 else if x.state=2 then hasOpB x && decide(x.left=0) && inB x.wake 1 2000000000 && decide(x.on=0) && emptyB x.held
 else if x.state=5 then hasOpB x && decide(x.left=0) && wakeB x.wake
 else if x.state=3∨x.state=4∨x.state=6∨x.state=7 then hasOpB x && decide(x.left=0) && wakeB x.wake && emptyB x.held
 else false
def procB(x:ProcP):Bool:=inB x.prio 1 50 && progL x.prog && plainB x.held && plainB x.got && inB x.code 0 3 && stateB x
def turnB(next:Int)(x:ProcP):Bool:=decide(x.state=0) || inB x.since 1(next - 1)
def waitB(p:PartP)(x:ProcP):Bool:=if 3≤x.state then hasB p x.state x.on else true
def Apart(l:List ProcP):Prop:=(l.map(·.since)).Pairwise(fun a b=> ¬ (a=b∧0 < b))
structure PartR(p:PartP):Prop where
 id:inB p.id 1 6=true
 next:inB p.next 1 1000000000=true
 nProc:p.procs.length≤6
 nSem:p.sems.length≤5
 nEvent:p.events.length≤5
 nBoard:p.boards.length≤5
 nBuffer:p.buffers.length≤5
 nPort:p.ports.length≤5
 procs:thingsB(·.id)(fun x=>procB x && turnB p.next x && waitB p x)0 p.procs=true
 sems:thingsB(·.id)semB 0 p.sems=true
 events:thingsB(·.id)eventB 0 p.events=true
 boards:thingsB(·.id)boardB 0 p.boards=true
 buffers:thingsB(·.id)bufferB 0 p.buffers=true
 ports:thingsB(·.id)portB 0 p.ports=true
 apart:Apart p.procs
def partB(p:PartP):Bool:=inB p.id 1 6 && inB p.next 1 1000000000 && decide(p.procs.length≤6) && decide(p.sems.length≤5) && decide(p.events.length≤5) && decide(p.boards.length≤5) && decide(p.buffers.length≤5) && decide(p.ports.length≤5) &&
 thingsB(·.id)(fun x=>procB x && turnB p.next x && waitB p x)0 p.procs && thingsB(·.id)semB 0 p.sems && thingsB(·.id)eventB 0 p.events && thingsB(·.id)boardB 0 p.boards && thingsB(·.id)bufferB 0 p.buffers && thingsB(·.id)portB 0 p.ports && decide((p.procs.map(·.since)).Pairwise(fun a b=> ¬ (a=b∧0 < b)))
theorem partB_iff(p:PartP):partB p=true↔PartR p:=by
 simp only [partB,Bool.and_eq_true,decide_eq_true_eq]
 constructor
 ·rintro ⟨⟨⟨⟨⟨⟨⟨⟨⟨⟨⟨⟨⟨⟨h1,h2⟩,h3⟩,h4⟩,h5⟩,h6⟩,h7⟩,h8⟩,h9⟩,h10⟩,h11⟩,h12⟩,h13⟩,h14⟩,h15⟩
  exact⟨h1,h2,h3,h4,h5,h6,h7,h8,h9,h10,h11,h12,h13,h14,h15⟩
 ·intro h
  exact⟨⟨⟨⟨⟨⟨⟨⟨⟨⟨⟨⟨⟨⟨h.id,h.next⟩,h.nProc⟩,h.nSem⟩,h.nEvent⟩,h.nBoard⟩,h.nBuffer⟩,h.nPort⟩,h.procs⟩,h.sems⟩,h.events⟩,h.boards⟩,h.buffers⟩,h.ports⟩,h.apart⟩
theorem partB_true {p:PartP} (h:PartR p):partB p=true:=(partB_iff p).2 h
theorem partB_false {p:PartP} (h: ¬ PartR p):partB p=false:=by
 cases hb:partB p with
 | false=>rfl
 | true=>exact absurd((partB_iff p).1 hb)h
end Go.Proofs.YtkbcplnlehdjfaaGreat

namespace Go.Proofs.YtkbcplnlehdjfaaGreat
open Go.RowKit
def upL(l:List ProcP):List Int:=(l.filter(fun x=> !decide(x.state=0))).map(·.since)
def TurnsR(next:Int)(l:List ProcP):Prop:=(∀ x∈l,¬ x.state=0→1≤x.since∧x.since < next)∧(upL l).Nodup
structure OpenR(p:PartP):Prop where
 id:inB p.id 1 6=true
 next:inB p.next 1 1000000000=true
 nProc:p.procs.length≤6
 nSem:p.sems.length≤5
 nEvent:p.events.length≤5
 nBoard:p.boards.length≤5
 nBuffer:p.buffers.length≤5
 nPort:p.ports.length≤5
 procs:thingsB(·.id)procB 0 p.procs=true
 sems:thingsB(·.id)semB 0 p.sems=true
 events:thingsB(·.id)eventB 0 p.events=true
 boards:thingsB(·.id)boardB 0 p.boards=true
 buffers:thingsB(·.id)bufferB 0 p.buffers=true
 ports:thingsB(·.id)portB 0 p.ports=true
 turns:TurnsR p.next p.procs
 waits:p.procs.all(waitB p)=true
theorem inB_iff {n lo hi:Int} :inB n lo hi=true↔lo≤n∧n≤hi:=by simp [inB]
theorem dormant_since {x:ProcP} (h:procB x=true)(h0:x.state=0):x.since=0:=by
 simp only [procB,Bool.and_eq_true] at h
 have:=h.2
 simp only [stateB,h0,if_true,Bool.and_eq_true,decide_eq_true_eq] at this
 exact this.1.2
theorem apart_of_turns {next:Int} {l:List ProcP} (hb: ∀ x∈l,procB x=true)(h:TurnsR next l):Apart l:=by
 induction l with
 | nil=>exact List.Pairwise.nil
 | cons x r ih=>
  have hr:TurnsR next r:=⟨fun y hy=>h.1 y(by simp [hy]),by
   have:=h.2
   unfold upL at this ⊢
   rw [List.filter_cons] at this
   split at this
   ·exact(List.nodup_cons.1 this).2
   ·exact this⟩
  refine List.pairwise_cons.2⟨fun b hbm hab=> ?_,ih(fun y hy=>hb y(by simp [hy]))hr⟩
  obtain⟨y,hy,rfl⟩:=List.mem_map.1 hbm
  have e1:x.since=y.since:=hab.1
  have e2:0 < y.since:=hab.2
  have hxs: ¬ x.state=0:=fun e=>by
   have:=dormant_since(hb x(by simp))e
   omega
  have hys: ¬ y.state=0:=fun e=>by
   have:=dormant_since(hb y(by simp [hy]))e
   omega
  have:=h.2
  unfold upL at this
  rw [List.filter_cons,if_pos(by simp [hxs]),List.map_cons,List.nodup_cons] at this
  exact this.1(List.mem_map.2⟨y,List.mem_filter.2⟨hy,by simp [hys]⟩,hab.1.symm⟩)
theorem turns_of_apart {next:Int} {l:List ProcP} (ht: ∀ x∈l,turnB next x=true)(h:Apart l):TurnsR next l:=by
 have h1: ∀ x∈l,¬ x.state=0→1≤x.since∧x.since < next:=fun x hx h0=>by
  have:=ht x hx
  simp only [turnB,h0,decide_false,Bool.false_or] at this
  have:=inB_iff.1 this
  omega
 refine⟨h1,?_⟩
 induction l with
 | nil=>exact List.nodup_nil
 | cons x r ih=>
  obtain⟨h2,h3⟩:=List.pairwise_cons.1 h
  have ih':=ih(fun y hy=>ht y(by simp [hy]))h3(fun y hy=>h1 y(by simp [hy]))
  unfold upL at ih' ⊢
  rw [List.filter_cons]
  split
  ·rename_i hx
   have hx0: ¬ x.state=0:=by simpa using hx
   rw [List.map_cons,List.nodup_cons]
   refine⟨fun hm=> ?_,ih'⟩
   obtain⟨y,hy,e⟩:=List.mem_map.1 hm
   have hy':=(List.mem_filter.1 hy).1
   have:=h1 x(by simp)hx0
   exact h2 y.since(List.mem_map.2⟨y,hy',rfl⟩)⟨e.symm,by omega⟩
  ·exact ih'
theorem openR_iff(p:PartP):OpenR p↔PartR p:=by
 constructor
 ·intro h
  refine⟨h.id,h.next,h.nProc,h.nSem,h.nEvent,h.nBoard,h.nBuffer,h.nPort,?_,h.sems,h.events,h.boards,h.buffers,h.ports,apart_of_turns(fun x hx=>(things_all h.procs x hx).2)h.turns⟩
  rw [things_and,things_and,h.procs,h.waits,Bool.true_and,Bool.and_true,List.all_eq_true]
  intro x hx
  by_cases h0:x.state=0
  ·simp [turnB,h0]
  ·have:=h.turns.1 x hx h0
   simp only [turnB,h0,decide_false,Bool.false_or]
   exact inB_iff.2(by omega)
 ·intro h
  have hp:=h.procs
  rw [things_and,things_and,Bool.and_eq_true,Bool.and_eq_true] at hp
  exact⟨h.id,h.next,h.nProc,h.nSem,h.nEvent,h.nBoard,h.nBuffer,h.nPort,hp.1.1,h.sems,h.events,h.boards,h.buffers,h.ports,turns_of_apart(fun x hx=>List.all_eq_true.1 hp.1.2 x hx)h.apart,hp.2⟩
end Go.Proofs.YtkbcplnlehdjfaaGreat

namespace Go.Proofs.YtkbcplnlehdjfaaGreat
open Go.RowKit
theorem opFlat_get(l:List OpD) {j:Nat} (hj:j < l.length * 4):(opK.flat l)[j]? =some(opV(kOf l)(nOf l)(mOf l)(sOf l)j):=by
 have hi:j / 4 < l.length:=by omega
 have hx:l[j / 4]? =some l[j / 4] :=List.getElem?_eq_getElem hi
 have hr:j % 4 < 4:=by omega
 have:=opK.flat_get hx(j:=j % 4)hr
 have e:j / 4 * opK.n+j % 4=j:=by show j / 4 * 4+j % 4=j; omega
 rw [e] at this
 rw [this]
 have h4:j % 4=0∨j % 4=1∨j % 4=2∨j % 4=3:=by omega
 rcases h4 with h | h | h | h <;> rw [h] <;> simp [opK,opVals,opV,h,kOf,nOf,mOf,sOf,hx]
theorem ops_of_row {w:World} {a:Option Addr} {l:List OpD} (h:Row w a(opK.flat l))(hl:0 < l.length): ∃ g,a=some⟨g,0,none⟩∧ListAt w g l:=by
 obtain⟨g,e,hc⟩:=h 0 _(opFlat_get l(j:=0)(by omega))
 refine⟨g,e,block_lt_of_cell hc,fun j hj=> ?_⟩
 obtain⟨g',e',hc'⟩:=h j _(opFlat_get l hj)
 rw [e] at e'
 cases e'
 exact hc'
theorem op_at {w:World} {a:Option Addr} {l:List OpD} (h:Row w a(opK.flat l)) {i:Nat} {x:OpD} (hx:l[i]? =some x): ∃ g,a=some⟨g,0,none⟩∧w.cell? ⟨g,i * 4,none⟩=some(.int .i64 x.1)∧w.cell? ⟨g,i * 4+1,none⟩=some(.int .i64 x.2.1)∧w.cell? ⟨g,i * 4+2,none⟩=some(.int .i64 x.2.2.1)∧w.cell? ⟨g,i * 4+3,none⟩=some(.string x.2.2.2):=by
 have h':opK.Lies w a l:=⟨h,fun _ _ r hr=>by cases hr⟩
 obtain⟨g,e,hc⟩:=h'.at hx
 exact⟨g,e,hc 0 _ rfl,hc 1 _ rfl,hc 2 _ rfl,hc 3 _ rfl⟩
theorem sOf_small {l:List OpD} (hs: ∀ o∈l,o.2.2.2.size≤1048576): ∀ i,i < l.length→(sOf l i).size≤1048576:=fun i hi=>by
 simp only [sOf,List.getElem?_eq_getElem hi,Option.getD_some]
 exact hs _(List.getElem_mem hi)
structure ProcD.Short(x:ProcD):Prop where
 prog:x.prog.length≤1048576
 ops: ∀ o∈x.prog,o.2.2.2.size≤1048576
 held:x.held.size≤1048576
 got:x.got.size≤1048576
theorem progL_nil:progL [] =false:=progB_false(fun h=>by have:=h.1; simp at this)
theorem specProgOk_none(a:Option Addr)(cap:Nat)(w:World):
  Calls Tryz.prog 183 #[.slice a 0 cap] w fun e w'=>e= .returned(.bool false)∧Below w.heap.size w w':=by
 go_enter Tryz.func183,Tryz.ntmps183
 go_wp2
 go_loop [3] (fun i=>i= .int .i64 0)(fun _=>0)
 case atStart=>rfl
 case round=>
  subst hrel
  go_wp2
  go_ret
  exact⟨rfl,Below.refl _ _⟩
theorem specProgL_any(a:Option Addr)(l:List OpD)(cap:Nat)(w:World)(hl:l.length≤1048576)(hs: ∀ o∈l,o.2.2.2.size≤1048576)(h:Row w a(opK.flat l)):
  Calls Tryz.prog 183 #[.slice a l.length cap] w fun e w'=>e= .returned(.bool(progL l))∧Below w.heap.size w w':=by
 cases l with
 | nil=>rw [progL_nil]; exact specProgOk_none a cap w
 | cons x r=>
  obtain⟨g,rfl,hr⟩:=ops_of_row h(by simp)
  exact specProgOk_any g _ cap _ _ _ _ w hl(sOf_small hs)hr
theorem implProgOk_none(a:Option Addr)(cap:Nat)(w:World):
  Calls Tryz.prog 284 #[.slice a 0 cap] w fun e w'=>e= .returned(.bool false)∧Below w.heap.size w w':=by
 go_enter Tryz.func284,Tryz.ntmps284
 go_wp2
 go_ret
 exact⟨rfl,Below.refl _ _⟩
theorem implProgL_any(a:Option Addr)(l:List OpD)(cap:Nat)(w:World)(hl:l.length≤1048576)(hs: ∀ o∈l,o.2.2.2.size≤1048576)(h:Row w a(opK.flat l)):
  Calls Tryz.prog 284 #[.slice a l.length cap] w fun e w'=>e= .returned(.bool(progL l))∧Below w.heap.size w w':=by
 cases l with
 | nil=>rw [progL_nil]; exact implProgOk_none a cap w
 | cons x r=>
  obtain⟨g,rfl,hr⟩:=ops_of_row h(by simp)
  exact implProgOk_any g _ cap _ _ _ _ w hl(sOf_small hs)hr
end Go.Proofs.YtkbcplnlehdjfaaGreat

namespace Go.Proofs.YtkbcplnlehdjfaaGreat
def aheadB(a b:ProcP):Bool:=if a.prio=b.prio then decide(a.since < b.since)else decide(b.prio < a.prio)
def bestStep(r:Option ProcP)(x:ProcP):Option ProcP:=match r with
 | none=>some x
 | some b=>if aheadB x b then some x else some b
def bestL(l:List ProcP):Option ProcP:=l.foldl bestStep none
theorem bestL_snoc(l:List ProcP)(x:ProcP):bestL(l ++ [x])=bestStep(bestL l)x:=by simp [bestL]
theorem bestStep_mem {r:Option ProcP} {x y:ProcP} (h:bestStep r x=some y):y=x∨r=some y:=by
 unfold bestStep at h
 split at h
 ·exact .inl(Option.some.inj h).symm
 ·split at h
  ·exact .inl(Option.some.inj h).symm
  ·exact .inr h
theorem bestStep_some(r:Option ProcP)(x:ProcP): ∃ y,bestStep r x=some y:=by
 unfold bestStep
 split
 ·exact⟨_,rfl⟩
 ·split <;> exact⟨_,rfl⟩
def BestIs(f:ProcP→Bool)(l:List ProcP)(k:Nat)(i:Int):Prop:=match bestL((l.take k).filter f)with
 | none=>i= -1
 | some x=> ∃ n:Nat,i=n∧n < k∧l[n]? =some x
section
variable {f:ProcP→Bool} {l:List ProcP} {k:Nat} {i:Int} {x:ProcP}
theorem BestIs.start(f:ProcP→Bool)(l:List ProcP):BestIs f l 0(-1):=by simp [BestIs,bestL]
theorem filter_up(hx:l[k]? =some x):(l.take(k+1)).filter f=(l.take k).filter f ++ (if f x then [x] else []):=by
 rw [take_up hx,List.filter_append]
 by_cases h:f x=true <;> simp [h]
theorem BestIs.skip(h:BestIs f l k i)(hx:l[k]? =some x)(hf:f x=false):BestIs f l(k+1)i:=by
 unfold BestIs at h ⊢
 rw [filter_up hx,hf]
 simp only [Bool.false_eq_true,if_false,List.append_nil]
 split at h
 ·exact h
 ·obtain⟨n,h1,h2,h3⟩:=h
  exact⟨n,h1,by omega,h3⟩
theorem BestIs.first(h:BestIs f l k i)(hi:i < 0)(hx:l[k]? =some x)(hf:f x=true):BestIs f l(k+1)k:=by
 unfold BestIs at h ⊢
 rw [filter_up hx,hf]
 simp only [if_true]
 rw [bestL_snoc]
 split at h
 ·rename_i e
  rw [e]
  exact⟨k,rfl,by omega,hx⟩
 ·obtain⟨n,h1,_⟩:=h
  omega
theorem BestIs.got(h:BestIs f l k i)(hi: ¬ i < 0): ∃ (n:Nat)(y:ProcP),i=n∧n < k∧l[n]? =some y∧bestL((l.take k).filter f)=some y:=by
 unfold BestIs at h
 split at h
 ·omega
 ·rename_i y e
  obtain⟨n,h1,h2,h3⟩:=h
  exact⟨n,y,h1,h2,h3,e⟩
theorem BestIs.next {n:Nat} {y:ProcP} (hn:n < k)(hy:l[n]? =some y)(he:bestL((l.take k).filter f)=some y)(hx:l[k]? =some x)(hf:f x=true):BestIs f l(k+1)(if aheadB x y then (k:Int)else (n:Int)):=by
 unfold BestIs
 rw [filter_up hx,hf]
 simp only [if_true]
 rw [bestL_snoc,he]
 simp only [bestStep]
 by_cases ha:aheadB x y=true
 ·simp only [ha,if_true]
  exact⟨k,rfl,by omega,hx⟩
 ·simp only [ha,Bool.false_eq_true,if_false]
  exact⟨n,rfl,by omega,hy⟩
end
def chosenL(l:List ProcP):Int:=match bestL(l.filter fun x=>decide(x.state=1))with
 | none=>0
 | some x=>x.id
def chosenB(p:PartP):Int:=if partB p then chosenL p.procs else 0
theorem ready_on {l:List ProcP} (h: ∀ x∈l,procB x=true):l.filter(fun x=>decide(x.state=1) && decide(x.on=0))=l.filter fun x=>decide(x.state=1):=by
 apply List.filter_congr
 intro x hx
 have h1:=h x hx
 simp only [procB,Bool.and_eq_true] at h1
 have h2:=h1.2
 by_cases hs:x.state=1
 ·unfold stateB at h2
  rw [if_neg(by rw [hs]; decide),if_pos hs] at h2
  simp only [Bool.and_eq_true,decide_eq_true_eq] at h2
  simp [hs,h2.1.2]
 ·simp [hs]
end Go.Proofs.YtkbcplnlehdjfaaGreat

namespace Go.Proofs.YtkbcplnlehdjfaaGreat
open Go.RowKit Go.Maps
structure TextsFit(w:World)(a:Option Addr)(l:List ByteArray):Prop where
 len:l.length≤1048576
 short: ∀ s∈l,s.size≤1048576
 row:Row w a(strK.flat l)
theorem TextsFit.below {w w':World} {a:Option Addr} {l:List ByteArray} (h:TextsFit w a l)(hb:Below w.heap.size w w'):TextsFit w' a l:=⟨h.len,h.short,h.row.below hb⟩
theorem itemsOk_any(a:Option Addr)(l:List ByteArray)(cap:Nat)(most:Int)(w:World)(h:TextsFit w a l):
  Calls Tryz.prog 299 #[.slice a l.length cap,.int .i64 most] w fun e w'=>e= .returned(.bool(inB most 1 5 && textsB l most))∧w'=w:=by
 have H:Hid(TextsFit w a l):=h
 have hl:=h.len
 clear h
 by_cases h1:most < 1
 ·go_enter Tryz.func299,Tryz.ntmps299
  go_wp2
  go_ret
  exact⟨ret_bool(by rw [inB_low h1]; rfl),rfl⟩
 by_cases h2:5 < most
 ·go_enter Tryz.func299,Tryz.ntmps299
  go_wp2
  go_ret
  exact⟨ret_bool(by rw [inB_high h2]; rfl),rfl⟩
 have HIn:Hid(inB most 1 5=true):=inB_true(by omega)(by omega)
 by_cases h3:most < (l.length:Int)
 ·have HT:Hid(textsB l most=false):=by show textsB l most=false; simp [textsB]; intro _; omega
  have e1:wrap64(l.length:Int)=l.length:=by unfold wrap64; omega
  go_enter Tryz.func299,Tryz.ntmps299
  go_wp2
  go_ret
  exact⟨ret_bool(by rw [HT.out,Bool.and_false]),rfl⟩
 have HL:Hid(decide((l.length:Int)≤most)=true):=decide_eq_true(by omega)
 have e1:wrap64(l.length:Int)=l.length:=by unfold wrap64; omega
 go_enter Tryz.func299,Tryz.ntmps299
 go_wp2_with fail
 go_loop [21] (fun i=> ∃ k:Nat,k≤l.length∧i= .int .i64 k∧Hid((l.take k).all plainB=true))(fun i=>l.length - (intOf i).toNat)
 case atStart=>exact⟨0,Nat.zero_le _,rfl,(by simp:(l.take 0).all plainB=true)⟩
 case round=>
  obtain⟨k,hk,rfl,HA⟩:=hrel
  by_cases hlt:k < l.length
  ·have i0:(0:Int)≤(k:Int):=by omega
   have i1:(k:Int) < (l.length:Int):=by omega
   obtain⟨x,hx⟩: ∃ x,l[k]? =some x:=⟨_,List.getElem?_eq_getElem hlt⟩
   have HX:Hid(l[k]? =some x):=hx
   obtain⟨g,rfl,c0⟩:=str_at H.out.row hx
   have hxs:=H.out.short x(List.mem_of_getElem? hx)
   clear hx
   go_wp2_with fail
   refine(isPlain_any x w hxs).mono ?_
   rintro e w'⟨rfl,rfl⟩
   cases hp:plainB x with
   | true=>
    have HP:Hid(plainB x=true):=hp
    clear hp
    go_wp2
    go_round
    case rel=>exact⟨k+1,by omega,by go_num,all_take_snoc HA.out HX.out HP.out⟩
    case measure=>simp [intOf]; omega
   | false=>
    have HP:Hid(plainB x=false):=hp
    clear hp
    go_wp2
    go_ret
    exact⟨ret_bool(by rw [textsB_no HX.out HP.out,Bool.and_false]),rfl⟩
  ·have i1: ¬ (k:Int) < (l.length:Int):=by omega
   have HT:Hid(l.all plainB=true):=by have:=HA.out; rwa [List.take_of_length_le(by omega)] at this
   go_wp2
   go_ret
   exact⟨ret_bool(by rw [HIn.out,textsB,HT.out,HL.out]; rfl),rfl⟩
theorem portB_false {id:Int} {out queue:Bool} {max:Int} {items:List ByteArray} (h:(inB max 1 5 && textsB items max)=false):portB⟨id,out,queue,max,items⟩=false:=by
 simp only [portB]
 cases h1:inB max 1 5 <;> cases h2:textsB items max <;> simp_all
theorem portB_true {id:Int} {out:Bool} {max:Int} {items:List ByteArray} (h:(inB max 1 5 && textsB items max)=true)(q:Bool):portB⟨id,out,q,max,items⟩=(q || decide(max=1)):=by
 simp only [Bool.and_eq_true] at h
 simp [portB,h.1,h.2]
def layB(most:Int)(m:MapL)(id:Int)(ok:Bool):Bool:= !(lookM m id).isSome && decide((m.length:Int) < most) && inB id 1 1000 && ok
def LayEnds(w:World)(b:Nat)(m:MapL)(ok:Bool)(id:Int)(cs:Array Value)(T:TypeId)(e:Ending)(w':World):Prop:=
 e= .returned(.bool ok)∧(ok=false→Below w.heap.size w w')∧(ok=true→ ∃ g,w.heap.size≤g∧w'.heap[g]? =some(.cells cs T(0,0))∧MapIs w' b(insM(id,g)m)∧w.grownBy w'(some b))
theorem layEnds_no {w w':World} {b:Nat} {m:MapL} {ok:Bool} {id:Int} {cs:Array Value} {T:TypeId} (h:ok=false)(hb:Below w.heap.size w w'):LayEnds w b m ok id cs T(.returned(.bool false))w':=by
 subst h
 exact⟨rfl,fun _=>hb,fun h=>by cases h⟩
structure LayIn(w W:World)(S X b:Nat)(m:MapL)(most:Int)(cs:Array Value)(T TS:TypeId):Prop where
 sh:W.heap[S]? =some(.cells #[.int .i64 most,.map(some b)] TS(0,0))
 bx:W.heap[X]? =some(.cells cs T(0,0))
 mp:MapIs W b m
 bel:Below w.heap.size w W
section
variable {w W W':World} {S X b:Nat} {m:MapL} {most:Int} {cs:Array Value} {T TS:TypeId}
theorem LayIn.below(h:LayIn w W S X b m most cs T TS)(hb:Below W.heap.size W W'):LayIn w W' S X b m most cs T TS:=
 ⟨(hb.block _(Array.getElem?_eq_some_iff.1 h.sh).1).trans h.sh,(hb.block _(Array.getElem?_eq_some_iff.1 h.bx).1).trans h.bx,h.mp.below hb,h.bel.trans(hb.mono h.bel.size)⟩
theorem LayIn.start(w:World) {b:Nat} {m:MapL} (h:MapIs w b m)(most:Int)(cs:Array Value)(T TS:TypeId):LayIn w((w.alloc(.cells #[.int .i64 most,.map(some b)] TS)).alloc(.cells cs T))w.heap.size(w.heap.size+1)b m most cs T TS:=by
 have b1:Below w.heap.size w(w.alloc(.cells #[.int .i64 most,.map(some b)] TS)):=(Below.refl _ _).alloc(Nat.le_refl _)_
 have b2:Below w.heap.size w((w.alloc(.cells #[.int .i64 most,.map(some b)] TS)).alloc(.cells cs T)):=b1.alloc b1.size _
 exact⟨(heap_alloc_old _ _(by simp)).trans(heap_alloc_new _ _),heap_alloc2_new _ _ _,h.below b2,b2⟩
theorem LayIn.drew(h:LayIn w W S X b m most cs T TS):LayIn w W.drew S X b m most cs T TS:=⟨h.sh,h.bx,h.mp.same rfl,h.bel.drew⟩
theorem LayIn.cells(h:LayIn w W S X b m most cs T TS):W.cell? ⟨S,0,none⟩=some(.int .i64 most)∧W.cell? ⟨S,1,none⟩=some(.map(some b)):=by
 have:=h.sh
 simp [World.cell?,this]
theorem LayIn.put(h:LayIn w W S X b m most cs T TS)(hX:w.heap.size≤X) {t e:TypeId} (ht:Tryz.prog.underlying t=some(.map 2 e)) {id:Int} (hid:(Lit.int .i64 id).wf=true)(hn:lookM m id=none)(hm:m.length≤1048576)(hXb: ¬ X=b):
  ∃ w',(Instr.mapUpdate t(.map(some b))(.int .i64 id)(.pointer(some⟨X,0,none⟩))).run Tryz.prog W= .ok()w'∧LayEnds w b m true id cs T(.returned(.bool true))w':=by
 obtain⟨w',hrun,hmp,htn⟩:=h.mp.put ht hid X hn hm
 refine⟨w',hrun,⟨rfl,(fun h=>by cases h),fun _=>⟨X,hX,?_,hmp,?_⟩⟩⟩
 ·have:=htn.grown
  exact(this.block X(Array.getElem?_eq_some_iff.1 h.bx).1(fun e=>hXb(Option.some.inj e))).trans h.bx
 ·have hg:=htn.grown
  exact⟨hg.os.trans h.bel.os,hg.tape.trans h.bel.tape,hg.output.trans h.bel.output,Nat.le_trans h.bel.size hg.size,fun k hk hne=>(hg.block k(Nat.lt_of_lt_of_le hk h.bel.size)hne).trans(h.bel.block k hk)⟩
end
end Go.Proofs.YtkbcplnlehdjfaaGreat
