/- What the proof leans on, part 26: WithP, TkPure, WithO, TkR, WithM, WpBuffer, WpSem, WpEvent, WpBoard, WpPort, WpProc. -/
import Derived.Test.YtkbcplnlehdjfaaGreatOwnCh5
import Derived.Test.YtkbcplnlehdjfaaGreatOwnCh24
import Derived.Test.YtkbcplnlehdjfaaGreatOwnCh25
set_option maxRecDepth 100000
set_option maxHeartbeats 8000000

namespace Go.Proofs.YtkbcplnlehdjfaaGreat
open Go.RowKit
section
variable {α:Type} {num:α→Int} {ok:α→Bool}
def insG(num:α→Int)(x:α):List α→List α
 | [] => [x]
 | y :: r=>if num x < num y then x :: y :: r else y :: insG num x r
def insF(num:α→Int)(x:α):List α→List α
 | [] => [x]
 | y :: r=>if num y < num x then y :: insF num x r else x :: y :: r
theorem insG_length(x:α): ∀ l:List α,(insG num x l).length=l.length+1
 | [] =>rfl
 | y :: r=>by
  simp only [insG]
  split
  ·rfl
  ·simp [insG_length x r]
theorem insG_mem {x z:α} : ∀ {l:List α},z∈insG num x l↔z=x∨z∈l
 | [] =>by simp [insG]
 | y :: r=>by
  simp only [insG]
  split
  ·simp
  ·simp only [List.mem_cons,insG_mem(l:=r)]
   constructor
   ·rintro (h | h | h)
    ·exact .inr(.inl h)
    ·exact .inl h
    ·exact .inr(.inr h)
   ·rintro (h | h | h)
    ·exact .inr(.inl h)
    ·exact .inl h
    ·exact .inr(.inr h)
theorem insF_mem {x z:α} : ∀ {l:List α},z∈insF num x l↔z=x∨z∈l
 | [] =>by simp [insF]
 | y :: r=>by
  simp only [insF]
  split
  ·simp only [List.mem_cons,insF_mem(l:=r)]
   constructor
   ·rintro (h | h | h)
    ·exact .inr(.inl h)
    ·exact .inl h
    ·exact .inr(.inr h)
   ·rintro (h | h | h)
    ·exact .inr(.inl h)
    ·exact .inl h
    ·exact .inr(.inr h)
  ·simp
theorem insF_length(x:α): ∀ l:List α,(insF num x l).length=l.length+1
 | [] =>rfl
 | y :: r=>by
  simp only [insF]
  split
  ·simp [insF_length x r]
  ·rfl
theorem insF_at {x:α} : ∀ {l:List α} {k:Nat},(∀ y∈l.take k,num y < num x)→(∀ y,l[k]? =some y→ ¬ num y < num x)→l.take k ++ x :: l.drop k=insF num x l
 | [],k,_,_=>by simp [insF]
 | y :: r,0,_,h2=>by
  have h3:=h2 y rfl
  simp [insF,h3]
 | y :: r,k+1,h1,h2=>by
  have h3:=h1 y(by simp)
  simp only [List.take_succ_cons,List.drop_succ_cons,List.cons_append,insF,if_pos h3]
  rw [insF_at(fun z hz=>h1 z(by simp [hz]))(fun z hz=>h2 z(by simpa using hz))]
end
def withR(p p':PartP):Option PartP:=if partB p && partB p' then some p' else none
end Go.Proofs.YtkbcplnlehdjfaaGreat

namespace Go.Proofs.YtkbcplnlehdjfaaGreat
def turnA {α:Type} (num:α→Int)(id:Int)(f:α→α)(l:List α):List α:=l.map fun x=>if num x=id then f x else x
def findA {α:Type} (num:α→Int)(id:Int)(l:List α):Option α:=l.find? fun x=>decide(num x=id)
def waitsB(st on:Int)(x:ProcP):Bool:=decide(x.state=st) && decide(x.on=on)
def bestW(st on:Int)(l:List ProcP):Option ProcP:=bestL(l.filter(waitsB st on))
def pastAt(code id:Int)(p:PartP):PartP:= { p with procs:=turnP id(pastP code)p.procs }
def gotP(t:ByteArray)(x:ProcP):ProcP:= { x with got:=t }
def gotAt(t:ByteArray)(id:Int)(p:PartP):PartP:= { p with procs:=turnP id(gotP t)p.procs }
def wakeAt(f:ProcP→ProcP)(p:PartP)(x:ProcP):PartP:= { p with next:=wakeN p.next x,procs:=turnP x.id(fun y=>wakeF p.next 0(f y))p.procs }
def wakeAllN(f:ProcP→ProcP)(st on:Int):Nat→PartP→PartP
 | 0,p=>p
 | n+1,p=>match bestW st on p.procs with
  | none=>p
  | some x=>wakeAllN f st on n(wakeAt f p x)
def wakeAll(f:ProcP→ProcP)(st on:Int)(p:PartP):PartP:=wakeAllN f st on(p.procs.filter(waitsB st on)).length p
def blockF(nx st on:Int)(held:ByteArray)(wake:Int)(y:ProcP):ProcP:= { y with state:=st,wake:=wake,on:=on,held:=held,since:=nx }
def blockAt(st on:Int)(held:ByteArray)(wake id:Int)(p:PartP):PartP:= { p with next:=p.next+1,procs:=turnP id(blockF p.next st on held wake)p.procs }
def wakeOf(now m:Int):Int:=if 0≤m then now+m else -1
def orAt(st:Int)(o:OpD)(now id:Int)(p:PartP):PartP:=if o.2.2.1=0 then pastAt 1 id p else blockAt st o.2.1 o.2.2.2(wakeOf now o.2.2.1)id p
def semUp(id d:Int)(p:PartP):PartP:= { p with sems:=turnA(·.id)id(fun y=> { y with n:=y.n+d })p.sems }
def eventUp(id:Int)(b:Bool)(p:PartP):PartP:= { p with events:=turnA(·.id)id(fun y=> { y with up:=b })p.events }
def boardUp(id:Int)(b:Bool)(t:ByteArray)(p:PartP):PartP:= { p with boards:=turnA(·.id)id(fun y=> { y with shown:=b,text:=t })p.boards }
def bufferUp(id:Int)(l:List ByteArray)(p:PartP):PartP:= { p with buffers:=turnA(·.id)id(fun y=> { y with items:=l })p.buffers }
def portUp(id:Int)(l:List ByteArray)(p:PartP):PartP:= { p with ports:=turnA(·.id)id(fun y=> { y with items:=l })p.ports }
def waitP(o:OpD)(now id:Int)(p:PartP):PartP:=match findA(·.id)o.2.1 p.sems with
 | none=>pastAt 3 id p
 | some s=>if s.n=0 then orAt 3 o now id p else pastAt 0 id(semUp o.2.1(-1)p)
def signalP(o:OpD)(id:Int)(p:PartP):PartP:=match findA(·.id)o.2.1 p.sems with
 | none=>pastAt 3 id p
 | some s=>match bestW 3 o.2.1 p.procs with
  | some y=>pastAt 0 id(wakeAt(fun y=>y)p y)
  | none=>if s.n=s.max then pastAt 1 id p else pastAt 0 id(semUp o.2.1 1 p)
def eventsP(o:OpD)(now id:Int)(p:PartP):PartP:=match findA(·.id)o.2.1 p.events with
 | none=>pastAt 3 id p
 | some e=>if o.1=5 then pastAt 0 id(wakeAll(fun y=>y)4 o.2.1(eventUp o.2.1 true p))
  else if o.1=6 then pastAt 0 id(eventUp o.2.1 false p)
  else if e.up then pastAt 0 id p else orAt 4 o now id p
def sendP(o:OpD)(now id:Int)(p:PartP):PartP:=match findA(·.id)o.2.1 p.buffers with
 | none=>pastAt 3 id p
 | some b=>match bestW 6 o.2.1 p.procs with
  | some y=>pastAt 0 id(wakeAt(gotP o.2.2.2)p y)
  | none=>if (b.items.length:Int)=b.max then orAt 5 o now id p else pastAt 0 id(bufferUp o.2.1(b.items ++ [o.2.2.2])p)
def takeP(o:OpD)(now id:Int)(p:PartP):PartP:=match findA(·.id)o.2.1 p.buffers with
 | none=>pastAt 3 id p
 | some b=>match b.items with
  | [] =>orAt 6 o now id(gotAt noT id p)
  | t :: r=>match bestW 5 o.2.1(gotAt t id p).procs with
   | none=>pastAt 0 id(bufferUp o.2.1 r(gotAt t id p))
   | some y=>pastAt 0 id(wakeAt(fun y=>y)(bufferUp o.2.1(r ++ [y.held])(gotAt t id p))y)
def boardsP(o:OpD)(now id:Int)(p:PartP):PartP:=match findA(·.id)o.2.1 p.boards with
 | none=>pastAt 3 id p
 | some b=>if o.1=10 then pastAt 0 id(wakeAll(gotP o.2.2.2)7 o.2.1(boardUp o.2.1 true o.2.2.2 p))
  else if o.1=11 then pastAt 0 id(boardUp o.2.1 false noT p)
  else if b.shown then pastAt 0 id(gotAt b.text id p)else orAt 7 o now id(gotAt b.text id p)
def writeP(o:OpD)(id:Int)(p:PartP):PartP:=match findA(·.id)o.2.1 p.ports with
 | none=>pastAt 3 id p
 | some q=>if q.out=false then pastAt 3 id p
  else if q.queue=false then pastAt 0 id(portUp o.2.1 [o.2.2.2] p)
  else if (q.items.length:Int)=q.max then pastAt 1 id p
  else pastAt 0 id(portUp o.2.1(q.items ++ [o.2.2.2])p)
def fetchP(o:OpD)(id:Int)(p:PartP):PartP:=match findA(·.id)o.2.1 p.ports with
 | none=>pastAt 3 id p
 | some q=>if q.out then pastAt 3 id p else match q.items with
  | [] =>pastAt 1 id(gotAt noT id p)
  | t :: r=>pastAt 0 id(if q.queue then portUp o.2.1 r(gotAt t id p)else gotAt t id p)
def startAt(id:Int)(p:PartP):PartP:= { p with next:=p.next+1,procs:=turnP id(fun y=> { y with state:=1,since:=p.next })p.procs }
def restAt(id:Int)(p:PartP):PartP:= { p with procs:=turnP id restP p.procs }
def startP(o:OpD)(id:Int)(p:PartP):PartP:=match findA(·.id)o.2.1 p.procs with
 | none=>pastAt 3 id p
 | some y=>if y.state=0 then pastAt 0 id(startAt o.2.1 p)else pastAt 1 id p
def stopP(o:OpD)(id:Int)(p:PartP):PartP:=match findA(·.id)o.2.1 p.procs with
 | none=>pastAt 3 id p
 | some y=>if y.state=0 then pastAt 1 id p else if o.2.1=id then restAt id p else pastAt 0 id(restAt o.2.1 p)
def runAt(x:ProcP)(o:OpD)(p:PartP):PartP:=
 if (if x.left=0 then o.2.1 else x.left)=1 then pastAt 0 x.id p
 else { p with procs:=turnP x.id(fun y=> { y with left:=(if x.left=0 then o.2.1 else x.left) - 1 })p.procs }
def opP(now:Int)(x:ProcP)(o:OpD)(p:PartP):PartP:=
 if o.1=1 then runAt x o p
 else if o.1=2 then blockAt 2 0 noT(now+o.2.1)x.id p
 else if o.1=3 then waitP o now x.id p
 else if o.1=4 then signalP o x.id p
 else if o.1=5∨o.1=6∨o.1=7 then eventsP o now x.id p
 else if o.1=8 then sendP o now x.id p
 else if o.1=9 then takeP o now x.id p
 else if o.1=10∨o.1=11∨o.1=12 then boardsP o now x.id p
 else if o.1=13 then writeP o x.id p
 else if o.1=14 then fetchP o x.id p
 else if o.1=15 then startP o x.id p
 else if o.1=16 then stopP o x.id p
 else { p with procs:=turnP x.id(fun y=> { y with pc:=0 })p.procs }
def tickL(now:Int)(p:PartP):PartP:=match bestW 1 0(wokenL now p).procs with
 | none=>wokenL now p
 | some x=>opP now x(opAt x)(wokenL now p)
def tickedP(p:PartP)(now:Int):Option PartP:=if partB p && inB now 0 1000000000 && decide(p.next≤999999980)then some(tickL now p)else none
section
variable {α:Type} {num:α→Int}
theorem turnA_set {l:List α} {f:α→α} {id:Int} {n:Nat} {y:α} (hr:l.Pairwise(fun x y=>num x < num y))(hn:l[n]? =some y)(hy:num y=id):turnA num id f l=l.set n(f y):=by
 induction l generalizing n with
 | nil=>simp at hn
 | cons x r ih=>
  obtain⟨h1,h2⟩:=List.pairwise_cons.1 hr
  cases n with
  | zero=>
   simp only [List.getElem?_cons_zero,Option.some.injEq] at hn
   subst hn
   have e:turnA num id f r=r:=by
    unfold turnA
    conv=>rhs; rw [← List.map_id r]
    refine List.map_congr_left fun z hz=> ?_
    rw [if_neg(by have:=h1 z hz; omega)]
    rfl
   simp only [List.set_cons_zero]
   show (if num x=id then f x else x) :: turnA num id f r=_
   rw [if_pos hy,e]
  | succ n=>
   simp only [List.getElem?_cons_succ] at hn
   have hlt:=h1 y(List.mem_of_getElem? hn)
   simp only [List.set_cons_succ]
   show (if num x=id then f x else x) :: turnA num id f r=_
   rw [if_neg(by omega),ih h2 hn]
theorem place_findA(id:Int): ∀ (l:List α)(k:Nat),(place(l.map num)id k= -1∧findA num id l=none)∨ ∃ n x,place(l.map num)id k=((k+n:Nat):Int)∧l[n]? =some x∧num x=id∧findA num id l=some x
 | [],k=> .inl⟨rfl,rfl⟩
 | x :: r,k=>by
  unfold findA
  by_cases h:num x=id
  ·refine .inr⟨0,x,?_,rfl,h,by simp [h]⟩
   simp [place,h]
  ·rcases place_findA id r(k+1)with ⟨h1,h2⟩ | ⟨n,y,h1,h2,h4,h3⟩
   ·exact .inl⟨by simp only [List.map_cons,place]; rw [if_neg h]; exact h1,by simp only [List.find?_cons,h,decide_false]; exact h2⟩
   ·refine .inr⟨n+1,y,?_,h2,h4,by simp only [List.find?_cons,h,decide_false]; exact h3⟩
    simp only [List.map_cons,place]
    rw [if_neg h,h1]
    omega
theorem findA_mem {id:Int} {l:List α} {x:α} (h:findA num id l=some x):x∈l∧num x=id:=by
 have h1:=List.find?_some h
 exact⟨List.mem_of_find?_eq_some h,by simpa using h1⟩
end
theorem fold_mem': ∀ (l:List ProcP)(r:Option ProcP) {y:ProcP},l.foldl bestStep r=some y→y∈l∨r=some y
 | [],_,_,h=> .inr h
 | x :: l,r,y,h=>by
  rcases fold_mem' l(bestStep r x)h with h1 | h1
  ·exact .inl(by simp [h1])
  ·rcases bestStep_mem h1 with h2 | h2
   ·exact .inl(by simp [h2])
   ·exact .inr h2
theorem bestW_mem {st on:Int} {l:List ProcP} {x:ProcP} (h:bestW st on l=some x):x∈l∧x.state=st∧x.on=on:=by
 have h1:x∈l.filter(waitsB st on):=(fold_mem' _ none h).elim(fun e=>e)(fun e=>by cases e)
 obtain⟨h2,h3⟩:=List.mem_filter.1 h1
 unfold waitsB at h3
 simp only [Bool.and_eq_true,decide_eq_true_eq] at h3
 exact⟨h2,h3⟩
theorem bestW_none {st on:Int} {l:List ProcP} (h:bestW st on l=none):l.filter(waitsB st on)= [] :=by
 unfold bestW bestL at h
 rcases List.eq_nil_or_concat(l.filter(waitsB st on))with e | ⟨l',x,e⟩
 ·exact e
 ·rw [e,List.concat_eq_append,List.foldl_append] at h
  simp only [List.foldl_cons,List.foldl_nil] at h
  obtain⟨y,hy⟩:=bestStep_some(l'.foldl bestStep none)x
  rw [hy] at h
  cases h
end Go.Proofs.YtkbcplnlehdjfaaGreat

namespace Go.Proofs.YtkbcplnlehdjfaaGreat
open Go.RowKit Go.Maps
theorem OpenAt.lt {w:World} {base o:Nat} {S:OpenD} (h:OpenAt w base o S): ∀ c∈o :: (S.boxes ++ S.kids),c < w.heap.size:=fun c hc=>by
 simp only [OpenD.boxes,OpenD.kids,List.mem_cons,List.mem_append] at hc
 rcases hc with rfl | ((hc | hc | hc | hc | hc | hc) | hc | hc | hc)
 ·exact(Array.getElem?_eq_some_iff.1 h.opn).1
 ·exact h.procs.lt c(List.mem_cons.2 hc)
 ·exact h.sems.lt c(List.mem_cons.2 hc)
 ·exact h.events.lt c(List.mem_cons.2 hc)
 ·exact h.boards.lt c(List.mem_cons.2 hc)
 ·exact h.buffers.lt c(List.mem_cons.2 hc)
 ·exact h.ports.lt c(List.mem_cons.2 hc)
 ·obtain⟨r,hr,hk⟩:=List.mem_filterMap.1 hc
  exact((h.mineP r hr).lt hk).2
 ·obtain⟨r,hr,hk⟩:=List.mem_filterMap.1 hc
  exact((h.mineF r hr).lt hk).2
 ·obtain⟨r,hr,hk⟩:=List.mem_filterMap.1 hc
  exact((h.mineQ r hr).lt hk).2
end Go.Proofs.YtkbcplnlehdjfaaGreat

namespace Go.Proofs.YtkbcplnlehdjfaaGreat
theorem things_mk {α:Type} {num:α→Int} {ok:α→Bool} : ∀ {l:List α} {last:Int},(∀ x∈l,inB(num x)1 1000=true∧ok x=true)→(∀ x∈l,last < num x)→l.Pairwise(fun x y=>num x < num y)→thingsB num ok last l=true
 | [],_,_,_,_=>rfl
 | x :: r,last,h1,h2,h3=>by
  obtain⟨h4,h5⟩:=List.pairwise_cons.1 h3
  simp only [thingsB,Bool.and_eq_true,decide_eq_true_eq]
  exact⟨⟨⟨(h1 x(by simp)).1,h2 x(by simp)⟩,(h1 x(by simp)).2⟩,things_mk(fun y hy=>h1 y(by simp [hy]))h4 h5⟩
theorem things_up {α:Type} {num:α→Int} {ok:α→Bool} {l:List α} {last id:Int} {f:α→α} (h:thingsB num ok last l=true)(hf: ∀ x,num(f x)=num x)(ho: ∀ x∈l,num x=id→ok(f x)=true):thingsB num ok last(turnA num id f l)=true:=by
 obtain⟨h1,h2⟩:=things_rise h
 have h3:=things_all h
 have e: ∀ z:α,num(if num z=id then f z else z)=num z:=fun z=>by split <;> simp [hf]
 refine things_mk(fun y hy=> ?_)(fun y hy=> ?_) ?_
 ·obtain⟨z,hz,rfl⟩:=List.mem_map.1 hy
  refine⟨by rw [e]; exact(h3 z hz).1,?_⟩
  split
  ·exact ho z hz ‹_›
  ·exact(h3 z hz).2
 ·obtain⟨z,hz,rfl⟩:=List.mem_map.1 hy
  rw [e]; exact h1 z hz
 ·unfold turnA
  rw [List.pairwise_map]
  exact h2.imp fun {a b} hab=>by rw [e,e]; exact hab
theorem up_ids {α:Type} {num:α→Int} {id:Int} {f:α→α} (hf: ∀ x,num(f x)=num x)(l:List α):(turnA num id f l).map num=l.map num:=by
 unfold turnA
 rw [List.map_map]
 refine List.map_congr_left fun z _=> ?_
 simp only [Function.comp_def]
 split <;> simp [hf]
section
variable {p:PartP}
theorem PartR.proc(h:PartR p) {x:ProcP} (hx:x∈p.procs):inB x.id 1 1000=true∧procB x=true∧turnB p.next x=true∧waitB p x=true:=by
 obtain⟨h1,h2⟩:=things_all h.procs x hx
 simp only [Bool.and_eq_true] at h2
 exact⟨h1,h2.1.1,h2.1.2,h2.2⟩
theorem PartR.rise(h:PartR p):p.procs.Pairwise(fun x y=>x.id < y.id):=(things_rise h.procs).2
theorem PartR.turn {id nx:Int} {f:ProcP→ProcP} (h:PartR p)(hid: ∀ x,(f x).id=x.id)(hn:p.next≤nx∧nx≤1000000000)
  (hx: ∀ x∈p.procs,x.id=id→procB(f x)=true∧turnB nx(f x)=true∧waitB p(f x)=true∧((f x).since=x.since∨(f x).since=0∨(f x).since=p.next)):PartR { p with next:=nx,procs:=turnP id f p.procs } :=by
 have hnx:=inB_iff.1 h.next
 have e: ∀ z:ProcP,(if z.id=id then f z else z).id=z.id:=fun z=>by split <;> simp [hid]
 refine⟨h.id,(show inB nx 1 1000000000=true from inB_true(by omega)hn.2),by simpa [turnP] using h.nProc,h.nSem,h.nEvent,h.nBoard,h.nBuffer,h.nPort,?_,h.sems,h.events,h.boards,h.buffers,h.ports,?_⟩
 ·obtain⟨h1,h2⟩:=things_rise h.procs
  refine things_mk(fun y hy=> ?_)(fun y hy=> ?_) ?_
  ·obtain⟨z,hz,rfl⟩:=List.mem_map.1 hy
   refine⟨by rw [e]; exact(h.proc hz).1,?_⟩
   simp only [Bool.and_eq_true]
   split
   ·rename_i hi
    obtain⟨k1,k2,k3,-⟩:=hx z hz hi
    exact⟨⟨k1,k2⟩,k3⟩
   ·obtain⟨-,k1,k2,k3⟩:=h.proc hz
    refine⟨⟨k1,?_⟩,k3⟩
    unfold turnB at k2 ⊢
    simp only [Bool.or_eq_true,decide_eq_true_eq] at k2 ⊢
    rcases k2 with k2 | k2
    ·exact .inl k2
    ·have:=inB_iff.1 k2; exact .inr(inB_true(by omega)(by show _≤nx - 1; omega))
  ·obtain⟨z,hz,rfl⟩:=List.mem_map.1 hy
   rw [e]; exact h1 z hz
  ·show (turnP id f p.procs).Pairwise _
   exact turn_rise hid h2
 ·have hs: ∀ z∈p.procs,z.since < p.next∧0≤z.since:=fun z hz=>by
   obtain⟨-,k1,k2,-⟩:=h.proc hz
   by_cases h0:z.state=0
   ·have:=dormant_since k1 h0; omega
   ·unfold turnB at k2
    simp only [Bool.or_eq_true,decide_eq_true_eq,h0,false_or] at k2
    have:=inB_iff.1 k2; omega
  have ha:=h.apart
  unfold Apart at ha ⊢
  show ((turnP id f p.procs).map(·.since)).Pairwise _
  unfold turnP
  rw [List.map_map,List.pairwise_map]
  rw [List.pairwise_map] at ha
  refine List.Pairwise.imp_of_mem(fun {a b} ham hbm hab=> ?_)(ha.and h.rise)
  obtain⟨h1,h2⟩:=hab
  have sa:=hs a ham
  have sb:=hs b hbm
  simp only [Function.comp_def]
  by_cases ea:a.id=id
  ·rw [if_pos ea,if_neg(by omega)]
   obtain⟨-,-,-,k⟩:=hx a ham ea
   rintro ⟨u,v⟩
   rcases k with k | k | k
   ·rw [k] at u; exact h1⟨u,v⟩
   ·omega
   ·omega
  ·rw [if_neg ea]
   by_cases eb:b.id=id
   ·rw [if_pos eb]
    obtain⟨-,-,-,k⟩:=hx b hbm eb
    rintro ⟨u,v⟩
    rcases k with k | k | k
    ·rw [k] at u v; exact h1⟨u,v⟩
    ·omega
    ·omega
   ·rw [if_neg eb]; exact h1
theorem PartR.withSems {l:List SemD} (h:PartR p)(hi:l.map(·.id)=p.sems.map(·.id))(hr:thingsB(·.id)semB 0 l=true):PartR { p with sems:=l } :=by
 have hw:waitB { p with sems:=l } =waitB p:=by funext x; simp only [waitB,hasB,hi]
 have hl:l.length=p.sems.length:=by simpa using congrArg List.length hi
 exact⟨h.id,h.next,h.nProc,by show l.length≤5; rw [hl]; exact h.nSem,h.nEvent,h.nBoard,h.nBuffer,h.nPort,by rw [hw]; exact h.procs,hr,h.events,h.boards,h.buffers,h.ports,h.apart⟩
theorem PartR.withEvents {l:List EventD} (h:PartR p)(hi:l.map(·.id)=p.events.map(·.id))(hr:thingsB(·.id)eventB 0 l=true):PartR { p with events:=l } :=by
 have hw:waitB { p with events:=l } =waitB p:=by funext x; simp only [waitB,hasB,hi]
 have hl:l.length=p.events.length:=by simpa using congrArg List.length hi
 exact⟨h.id,h.next,h.nProc,h.nSem,by show l.length≤5; rw [hl]; exact h.nEvent,h.nBoard,h.nBuffer,h.nPort,by rw [hw]; exact h.procs,h.sems,hr,h.boards,h.buffers,h.ports,h.apart⟩
theorem PartR.withBoards {l:List BoardD} (h:PartR p)(hi:l.map(·.id)=p.boards.map(·.id))(hr:thingsB(·.id)boardB 0 l=true):PartR { p with boards:=l } :=by
 have hw:waitB { p with boards:=l } =waitB p:=by funext x; simp only [waitB,hasB,hi]
 have hl:l.length=p.boards.length:=by simpa using congrArg List.length hi
 exact⟨h.id,h.next,h.nProc,h.nSem,h.nEvent,by show l.length≤5; rw [hl]; exact h.nBoard,h.nBuffer,h.nPort,by rw [hw]; exact h.procs,h.sems,h.events,hr,h.buffers,h.ports,h.apart⟩
theorem PartR.withBuffers {l:List BufferP} (h:PartR p)(hi:l.map(·.id)=p.buffers.map(·.id))(hr:thingsB(·.id)bufferB 0 l=true):PartR { p with buffers:=l } :=by
 have hw:waitB { p with buffers:=l } =waitB p:=by funext x; simp only [waitB,hasB,hi]
 have hl:l.length=p.buffers.length:=by simpa using congrArg List.length hi
 exact⟨h.id,h.next,h.nProc,h.nSem,h.nEvent,h.nBoard,by show l.length≤5; rw [hl]; exact h.nBuffer,h.nPort,by rw [hw]; exact h.procs,h.sems,h.events,h.boards,hr,h.ports,h.apart⟩
theorem PartR.withPorts {l:List PortP} (h:PartR p)(hi:l.map(·.id)=p.ports.map(·.id))(hr:thingsB(·.id)portB 0 l=true):PartR { p with ports:=l } :=by
 have hw:waitB { p with ports:=l } =waitB p:=by funext x; simp only [waitB,hasB]
 have hl:l.length=p.ports.length:=by simpa using congrArg List.length hi
 exact⟨h.id,h.next,h.nProc,h.nSem,h.nEvent,h.nBoard,h.nBuffer,by show l.length≤5; rw [hl]; exact h.nPort,by rw [hw]; exact h.procs,h.sems,h.events,h.boards,h.buffers,hr,h.apart⟩
end
def bodyB(x:ProcP):Bool:=inB x.prio 1 50 && progL x.prog && plainB x.held && plainB x.got && inB x.code 0 3
theorem procB_is(x:ProcP):procB x=(bodyB x && stateB x):=rfl
theorem plain_no:plainB noT=true:=by decide
theorem empty_no:emptyB noT=true:=by simp [emptyB,noT,ByteArray.toList_eq]
theorem op_of_state {x:ProcP} (h:procB x=true)(h0: ¬ x.state=0):0≤x.pc∧x.pc < x.prog.length:=by
 rw [procB_is,Bool.and_eq_true] at h
 have h3:=h.2
 unfold stateB at h3
 have h4:hasOpB x=true:=by
  rw [if_neg h0] at h3
  split at h3
  ·simp only [Bool.and_eq_true] at h3; exact h3.1.1.1.1
  ·split at h3
   ·simp only [Bool.and_eq_true] at h3; exact h3.1.1.1.1
   ·split at h3
    ·simp only [Bool.and_eq_true] at h3; exact h3.1.1
    ·split at h3
     ·simp only [Bool.and_eq_true] at h3; exact h3.1.1.1
     ·cases h3
 have h5:=inB_iff.1 h4
 omega
theorem prog_op {l:List OpD} (h:progL l=true) {i:Nat} {o:OpD} (ho:l[i]? =some o):opOk o=true:=by
 unfold progL progB at h
 have h1:=(of_decide_eq_true h).2.2 i(List.getElem?_eq_some_iff.1 ho).1
 unfold opAtB kOf nOf mOf sOf at h1
 rw [ho] at h1
 exact h1
theorem prog_len {l:List OpD} (h:progL l=true):1≤l.length∧l.length≤20:=by
 unfold progL progB at h
 have h1:=of_decide_eq_true h
 exact⟨h1.1,h1.2.1⟩
theorem ready_state {x:ProcP} (hp:progL x.prog=true)(hs:x.state=1)(hc:0≤x.pc∧x.pc < x.prog.length)(hl:x.left=0)(hw:x.wake=0)(ho:x.on=0)(hh:emptyB x.held=true):stateB x=true:=by
 unfold stateB
 rw [if_neg(by omega),if_pos hs,hw,ho,hh]
 have h1:hasOpB x=true:=inB_true hc.1(by omega)
 have h2:leftB x=true:=by
  unfold leftB
  rw [hl]
  split
  ·rename_i hk
   unfold opAt at hk ⊢
   have h3:x.pc.toNat < x.prog.length:=by omega
   rw [List.getElem?_eq_getElem h3] at hk ⊢
   simp only [Option.getD_some] at hk ⊢
   have h4:=prog_op hp(List.getElem?_eq_getElem h3)
   unfold opOk opB at h4
   rw [hk] at h4
   have h5:inB(x.prog[x.pc.toNat]).2.1 1 1000=true:=by simp at h4; exact h4.1.1
   have:=inB_iff.1 h5
   simp only [Bool.and_eq_true,decide_eq_true_eq]
   omega
  ·rfl
 rw [h1,h2]; rfl
theorem rest_right {x:ProcP} (h:bodyB x=true):procB(restP x)=true:=by
 rw [procB_is,Bool.and_eq_true]
 constructor
 ·unfold bodyB at h ⊢
  simp only [Bool.and_eq_true] at h ⊢
  exact⟨⟨⟨h.1.1.1,plain_no⟩,h.1.2⟩,h.2⟩
 ·unfold stateB restP
  simp [empty_no]
theorem gone_right {x:ProcP} {code s:Int} (h:bodyB x=true)(hc:inB code 0 3=true)(h0:0≤x.pc)(h1:x.pc+1 < x.prog.length):procB { goneP code x with since:=s } =true:=by
 rw [procB_is,Bool.and_eq_true]
 unfold bodyB at h ⊢
 simp only [Bool.and_eq_true] at h ⊢
 refine⟨⟨⟨⟨h.1.1.1,plain_no⟩,h.1.2⟩,hc⟩,ready_state(x:= { goneP code x with since:=s })h.1.1.1.2 rfl⟨by show 0≤x.pc+1; omega,h1⟩rfl rfl rfl empty_no⟩
end Go.Proofs.YtkbcplnlehdjfaaGreat

namespace Go.Proofs.YtkbcplnlehdjfaaGreat
open Go.RowKit Go.Maps
def SrcAt(w:World)(a:Option Addr)(xs:List Value):Prop:= ∀ j u,xs[j]? =some u→ ∃ ad,a=some ad∧w.cell? (ad.add j)=some u
theorem SrcAt.nil {w:World} {a:Option Addr} :SrcAt w a [] :=fun j u hu=>by cases hu
theorem SrcAt.none {w:World} {xs:List Value} (h:SrcAt w none xs):xs= [] :=by
 cases xs with
 | nil=>rfl
 | cons u r=>
  obtain⟨ad,e,_⟩:=h 0 u rfl
  cases e
theorem append_more {P:Program} (w:World)(base:Nat)(t ty e:TypeId)(i:TypeInfo)(z:Value)(size bytes:Nat)(ht:P.underlying t=some(.slice e))(hi:P.info? e=some i)(hz:i.zero=some z)
  (hsize:i.size=size)(hby:i.bytes=bytes)(hzs:z.cells.size=size)(hsz:0 < size)(a0:Option Addr)(n0 c0:Nat)(ys:List Value)(ho:w.ownsRow base e size(.slice a0 n0 c0)n0 ys)
  (a:Option Addr)(n cap:Nat)(xs:List Value)(h:SrcAt w a xs)(hl:xs.length=n * size)(h1: ∀ u∈xs,u.oneCell'=true)(h63:n0+n≤4000000)(hb:bytes≤1000)(hbw:base≤w.heap.size):
  ∃ a' cap' w',(Builtin.append_ #[t,t] ty #[.slice a0 n0 c0,.slice a n cap]).run P w= .ok(.slice a'(n0+n)cap')w'∧w'.ownsRow base e size(.slice a'(n0+n)cap')(n0+n)(ys ++ xs)∧w.grownBy w'(Value.slice a0 n0 c0).ownBlock∧ ∀ g∈blk a',g∈blk a0∨g=w.heap.size:=by
 cases a with
 | none=>
  have hx:=h.none
  subst hx
  have hn:n=0:=by
   cases n with
   | zero=>rfl
   | succ n=>simp only [List.length_nil,Nat.succ_mul] at hl; omega
  subst hn
  refine⟨a0,c0,w,?_,by simpa using ho,⟨rfl,rfl,rfl,Nat.le_refl _,fun _ _ _=>rfl⟩,fun g hg=> .inl hg⟩
  have hc:n0≤c0:=by
   obtain⟨-,⟨e1,e2⟩ | ⟨g,c,cur,e1,-,-,h5,-⟩⟩:=ho
   ·cases e1; exact Nat.le_refl _
   ·cases e1; exact h5
  cases a0 <;> simp [Builtin.append_,run_underlying ht,sizeOf,typeInfo,hi,Builtin.lenOf,Builtin.firstCells,storeCells,hc]
 | some ad=>
  have hnews: ∀ j u,xs[j]? =some u→w.cell? (ad.add j)=some u:=fun j u hu=>by
   obtain⟨ad',e',hc⟩:=h j u hu
   cases e'
   exact hc
  obtain⟨v',w',hr,ho',hgr,-,hbl⟩:=run_append_own_at(P:=P)w base t ty e i z size bytes ht hi hz hsize hby hzs hsz(.slice a0 n0 c0)n0 ys ho ad n cap xs hl hnews h1(by unfold maxLen; omega)(by have:=Nat.mul_le_mul h63 hb; omega)hbw
  obtain⟨a',cap',rfl,-⟩:=own_form ho'
  refine⟨a',cap',w',hr,ho',hgr,fun g hg=> ?_⟩
  rw [mem_blk] at hg ⊢
  cases a' with
  | none=>cases hg
  | some ad'=>
   simp only [Option.map_some,Option.some.injEq] at hg
   subst hg
   rcases hbl with hbl | hbl
   ·refine .inl ?_
    cases a0 with
    | none=>cases hbl
    | some ad0=>simpa [Value.ownBlock] using hbl.symm
   ·exact .inr(by simpa [Value.ownBlock] using hbl)
theorem nodup_swap {Z A A' R:List Nat} (h:(Z ++ (A ++ R)).Nodup)(hA:A'.Nodup)(h1: ∀ g∈A',g∉Z ++ (A ++ R)):(Z ++ (A' ++ R)).Nodup:=by
 simp only [List.mem_append,not_or] at h1
 simp only [List.nodup_append,List.mem_append] at h ⊢
 obtain⟨hz,⟨-,hR,-⟩,hzz⟩:=h
 refine⟨hz,⟨hA,hR,fun a ha b hb e=>(h1 a ha).2.2(e ▸ hb)⟩,fun a ha b hb e=> ?_⟩
 rcases hb with hb | hb
 ·exact(h1 b hb).1(e ▸ ha)
 ·exact hzz a ha b(.inr hb)e
theorem add_more(g m j:Nat):(⟨g,m,none⟩:Addr).add j=⟨g,m+j,none⟩:=by unfold Addr.add; split <;> simp_all
theorem drop_src {α:Type} {K:Kind α} {w:World} {a:Option Addr} {l:List α} (k:Nat)(h:Row w a(K.flat l)):SrcAt w(a.map(·.add(k * K.n)))(K.flat(l.drop k)):=fun j u hu=>by
 by_cases hk:k≤l.length
 ·have e:K.flat l=K.flat(l.take k) ++ K.flat(l.drop k):=by rw [← K.flat_append,List.take_append_drop]
  have hl:(K.flat(l.take k)).length=k * K.n:=by rw [K.flat_length,List.length_take,Nat.min_eq_left hk]
  have hu2:(K.flat l)[k * K.n+j]? =some u:=by
   rw [e,List.getElem?_append_right(by omega),hl,Nat.add_sub_cancel_left]
   exact hu
  obtain⟨g,rfl,hc⟩:=h _ u hu2
  exact⟨⟨g,k * K.n,none⟩,by rw [Option.map_some,add_off],by rw [add_more]; exact hc⟩
 ·rw [List.drop_eq_nil_of_le(by omega)] at hu
  cases hu
theorem row_src {w:World} {a:Option Addr} {xs:List Value} (h:Row w a xs):SrcAt w a xs:=fun j u hu=>by
 obtain⟨g,rfl,hc⟩:=h j u hu
 exact⟨_,rfl,by rw [add_off]; exact hc⟩
theorem take_src {α:Type} {K:Kind α} {w:World} {a:Option Addr} {l:List α} (k:Nat)(h:Row w a(K.flat l)):SrcAt w a(K.flat(l.take k)):=fun j u hu=>by
 have e:K.flat l=K.flat(l.take k) ++ K.flat(l.drop k):=by rw [← K.flat_append,List.take_append_drop]
 have hu2:(K.flat l)[j]? =some u:=by
  rw [e,List.getElem?_append_left(List.getElem?_eq_some_iff.1 hu).1]
  exact hu
 exact row_src h j u hu2
theorem own_cap {w:World} {base size n c:Nat} {e:TypeId} {a:Option Addr} {xs:List Value} (h:w.ownsRow base e size(.slice a n c)n xs):n≤c:=by
 obtain⟨-,⟨e1,e2⟩ | ⟨g,c',cur,e1,-,-,h5,-⟩⟩:=h
 ·cases e1; exact Nat.le_refl _
 ·cases e1; exact h5
theorem src_block {w:World} {g:Nat} {cs:Array Value} {t:TypeId} {fz:Nat × Nat} (h:w.heap[g]? =some(.cells cs t fz)):SrcAt w(some⟨g,0,none⟩)cs.toList:=fun j u hu=>⟨_,rfl,by rw [add_off]; simp only [World.cell?,h]; simpa using hu⟩
theorem setCell_size {w:World} {o i:Nat} {v:Value} :(w.setCell⟨o,i,none⟩v).heap.size=w.heap.size:=setAllW_size [v]
theorem tail_src {α:Type} {K:Kind α} {w:World} {a:Option Addr} {l:List α} {k c:Nat} (hk:l.length≤c)(h:Row w a(K.flat l)):SrcAt w(if c=k then a else Option.map(fun x=>x.add(k * K.n))a)(K.flat(l.drop k)):=by
 split
 ·rw [List.drop_eq_nil_of_le(by omega)]
  exact SrcAt.nil
 ·exact drop_src k h
theorem withR_ok {p p':PartP} (h:(partB p && partB p')=true):withR p p'=some p':=if_pos h
theorem withR_bad {p p':PartP} (h:(partB p && partB p')=false):withR p p'=none:=if_neg(by rw [h]; decide)
theorem at_ways {α:Type} (num:α→Int)(id:Int)(l:List α)(k:Nat):(∃ x,l[k]? =some x∧num x < id∧k < l.length)∨(∃ x,l[k]? =some x∧ ¬ num x < id∧k < l.length)∨ ¬ k < l.length:=by
 by_cases h:k < l.length
 ·by_cases h2:num l[k] < id
  ·exact .inl⟨_,List.getElem?_eq_getElem h,h2,h⟩
  ·exact .inr(.inl⟨_,List.getElem?_eq_getElem h,h2,h⟩)
 ·exact .inr(.inr h)
end Go.Proofs.YtkbcplnlehdjfaaGreat

namespace Go.Proofs.YtkbcplnlehdjfaaGreat
open Go.RowKit
theorem insBuffer_small {p:PartP} {x:BufferP} (h:p.Small)(hr:partB p=true)(hx:(Lit.int .i64 x.id).wf=true∧x.items.length≤1048576∧ ∀ s∈x.items,s.size≤1048576):PartP.Small { p with buffers:=insG(·.id)x p.buffers } :=by
 have h2:=((partB_iff _).1 hr).nBuffer
 exact⟨h.nProc,h.nSem,h.nEvent,h.nBoard,by show (insG(·.id)x p.buffers).length≤_; rw [insG_length]; omega,h.nPort,h.procs,h.sems,h.events,h.boards,fun y hy=>(insG_mem.1 hy).elim(fun e=>e ▸ hx)(h.buffers y),h.ports⟩
end Go.Proofs.YtkbcplnlehdjfaaGreat

namespace Go.Proofs.YtkbcplnlehdjfaaGreat
open Go.RowKit
theorem insSem_small {p:PartP} {x:SemD} (h:p.Small)(hr:partB p=true)(hx:(Lit.int .i64 x.id).wf=true):PartP.Small { p with sems:=insF(·.id)x p.sems } :=by
 have h2:=((partB_iff _).1 hr).nSem
 exact⟨h.nProc,by show (insF(·.id)x p.sems).length≤_; rw [insF_length]; omega,h.nEvent,h.nBoard,h.nBuffer,h.nPort,h.procs,fun y hy=>(insF_mem.1 hy).elim(fun e=>e ▸ hx)(h.sems y),h.events,h.boards,h.buffers,h.ports⟩
end Go.Proofs.YtkbcplnlehdjfaaGreat

namespace Go.Proofs.YtkbcplnlehdjfaaGreat
open Go.RowKit
theorem insEvent_small {p:PartP} {x:EventD} (h:p.Small)(hr:partB p=true)(hx:(Lit.int .i64 x.id).wf=true):PartP.Small { p with events:=insF(·.id)x p.events } :=by
 have h2:=((partB_iff _).1 hr).nEvent
 exact⟨h.nProc,h.nSem,by show (insF(·.id)x p.events).length≤_; rw [insF_length]; omega,h.nBoard,h.nBuffer,h.nPort,h.procs,h.sems,fun y hy=>(insF_mem.1 hy).elim(fun e=>e ▸ hx)(h.events y),h.boards,h.buffers,h.ports⟩
end Go.Proofs.YtkbcplnlehdjfaaGreat

namespace Go.Proofs.YtkbcplnlehdjfaaGreat
open Go.RowKit
theorem insBoard_small {p:PartP} {x:BoardD} (h:p.Small)(hr:partB p=true)(hx:(Lit.int .i64 x.id).wf=true∧x.text.size≤1048576):PartP.Small { p with boards:=insF(·.id)x p.boards } :=by
 have h2:=((partB_iff _).1 hr).nBoard
 exact⟨h.nProc,h.nSem,h.nEvent,by show (insF(·.id)x p.boards).length≤_; rw [insF_length]; omega,h.nBuffer,h.nPort,h.procs,h.sems,h.events,fun y hy=>(insF_mem.1 hy).elim(fun e=>e ▸ hx)(h.boards y),h.buffers,h.ports⟩
end Go.Proofs.YtkbcplnlehdjfaaGreat

namespace Go.Proofs.YtkbcplnlehdjfaaGreat
open Go.RowKit
theorem insPort_small {p:PartP} {x:PortP} (h:p.Small)(hr:partB p=true)(hx:(Lit.int .i64 x.id).wf=true∧x.items.length≤1048576∧ ∀ s∈x.items,s.size≤1048576):PartP.Small { p with ports:=insG(·.id)x p.ports } :=by
 have h2:=((partB_iff _).1 hr).nPort
 exact⟨h.nProc,h.nSem,h.nEvent,h.nBoard,h.nBuffer,by show (insG(·.id)x p.ports).length≤_; rw [insG_length]; omega,h.procs,h.sems,h.events,h.boards,h.buffers,fun y hy=>(insG_mem.1 hy).elim(fun e=>e ▸ hx)(h.ports y)⟩
end Go.Proofs.YtkbcplnlehdjfaaGreat

namespace Go.Proofs.YtkbcplnlehdjfaaGreat
open Go.RowKit
abbrev newP(id prio:Int)(l:List OpD):ProcP:=⟨id,prio,l,0,0,0,0,0,⟨#[]⟩,⟨#[]⟩,0,0⟩
section
variable {p:PartP} {id prio:Int} {l:List OpD}
theorem insProc_small(h:p.Small)(hr:partB p=true)(hx:l.length≤1048576∧ ∀ o∈l,o.2.2.2.size≤1048576)(hw:(Lit.int .i64 id).wf=true):PartP.Small { p with procs:=insG(·.id)(newP id prio l)p.procs } :=by
 have h2:=((partB_iff _).1 hr).nProc
 exact⟨by show (insG(·.id)(newP id prio l)p.procs).length≤_; rw [insG_length]; omega,h.nSem,h.nEvent,h.nBoard,h.nBuffer,h.nPort,fun y hy=>(insG_mem.1 hy).elim(fun e=>e ▸ ⟨⟨hx.1,hx.2,Nat.zero_le _,Nat.zero_le _⟩,hw,by show (Lit.int .i64 0).wf=true; decide,by show (Lit.int .i64 0).wf=true; decide⟩)(h.procs y),h.sems,h.events,h.boards,h.buffers,h.ports⟩
end
end Go.Proofs.YtkbcplnlehdjfaaGreat
