/- What the proof leans on, part 35: TkMem4, TkOr. -/
import Derived.Test.YtkbcplnlehdjfaaGreatOwnCh14
import Derived.Test.YtkbcplnlehdjfaaGreatOwnCh20
import Derived.Test.YtkbcplnlehdjfaaGreatOwnCh34
import Derived.Laws.Rows
import Derived.Deep.Cut
set_option maxRecDepth 100000
set_option maxHeartbeats 8000000

namespace Go.Proofs.YtkbcplnlehdjfaaGreat
open Go.RowKit
theorem row_set {α:Type} {K:Kind α} {T:TypeId} {w:World} {base cap n gs j:Nat} {a:Option Addr} {l:List α} {x y:α} {v:Value} (h:w.ownsRow base T K.n(.slice a l.length cap)l.length(K.flat l))(hx:l[n]? =some x)(ha:a=some⟨gs,0,none⟩)(hj:j < K.n)(hv:K.vals y=(K.vals x).set j v):
  (w.setCell⟨gs,n * K.n+j,none⟩v).ownsRow base T K.n(.slice a l.length cap)l.length(K.flat(l.set n y))∧KeptBut w(w.setCell⟨gs,n * K.n+j,none⟩v)(blk a)∧(∃ u,w.cell? ⟨gs,n * K.n+j,none⟩=some u)∧w.frozen? ⟨gs,n * K.n+j,none⟩=false:=by
 have hn:n < l.length:=(List.getElem?_eq_some_iff.1 hx).1
 obtain⟨g,hg,hrow⟩:=RowAt.of_owns(K:=K)h(by omega)
 rw [ha] at hg
 cases hg
 have h7:=hrow.cell hx(r:=j)hj
 have hsp:=split_at hx
 have hset:l.set n y=l.take n ++ y :: l.drop(n+1):=by rw [List.set_eq_take_append_cons_drop,if_pos hn]
 have hl:(l.take n).length=n:=by rw [List.length_take]; omega
 rw [hsp] at hrow
 have h5:=RowAt.part(K:=K)(x:=x)(y:=y)(j:=j)(vs:= [v])hrow(by simp; omega)(fun r hr=>by simp at hr; subst hr; rw [Nat.add_zero,hv,List.getElem?_set_self(by rw [K.len]; exact hj)]; rfl)(fun r hr hn=>by rw [hv,List.getElem?_set_ne(by simp at hn; omega)])
 rw [hl,← hset] at h5
 have h6:=h5.owns
 rw [List.length_set] at h6
 rw [ha]
 exact⟨h6,KeptBut.set(vs:= [v])(by simp [blk]),⟨_,h7.1.trans(List.getElem?_eq_getElem(by rw [K.len]; exact hj))⟩,h7.2⟩
theorem find_map {α β:Type} {num:β→Int} {num':α→Int} {g:α→β} (hg: ∀ x,num(g x)=num' x) {id:Int} : ∀ (l:List α),findA num id(l.map g)=(findA num' id l).map g
 | [] =>rfl
 | x :: r=>by
  have h:=find_map hg(id:=id)r
  unfold findA at h ⊢
  simp only [List.map_cons,List.find?_cons,hg]
  split
  ·rfl
  ·exact h
section
variable {W:World} {base n j gs:Nat} {q:PartD} {v:Value}
theorem sub_blocks {q:PartD} {g:Nat} (h:g∈blk q.procA∨g∈blk q.semA∨g∈blk q.eventA∨g∈blk q.boardA∨g∈blk q.bufferA∨g∈blk q.portA):g∈q.blocks:=by
 simp only [PartD.blocks,List.mem_append]
 rcases h with h | h | h | h | h | h <;> simp [h]
theorem own_setSem {x y:SemD} (h:PartOwn W base q)(hx:q.sems[n]? =some x)(ha:q.semA=some⟨gs,0,none⟩)(hj:j < 3)(hv:semK.vals y=(semK.vals x).set j v):
  TkS W base q({ q with sems:=q.sems.set n y } :PartD)(W.setCell⟨gs,n * 3+j,none⟩v)∧(∃ u,W.cell? ⟨gs,n * 3+j,none⟩=some u)∧W.frozen? ⟨gs,n * 3+j,none⟩=false:=by
 obtain⟨h1,h2,h3⟩:=row_set(K:=semK)h.sems hx ha hj hv
 obtain⟨h4,h5⟩:=h.turnSem h1(by simp)h2
 exact⟨⟨h4,h2.mono fun g hg=>sub_blocks(.inr(.inl hg)),fun g hg=> .inl(h5 ▸ hg)⟩,h3⟩
theorem own_setEvent {x y:EventD} (h:PartOwn W base q)(hx:q.events[n]? =some x)(ha:q.eventA=some⟨gs,0,none⟩)(hj:j < 2)(hv:eventK.vals y=(eventK.vals x).set j v):
  TkS W base q({ q with events:=q.events.set n y } :PartD)(W.setCell⟨gs,n * 2+j,none⟩v)∧(∃ u,W.cell? ⟨gs,n * 2+j,none⟩=some u)∧W.frozen? ⟨gs,n * 2+j,none⟩=false:=by
 obtain⟨h1,h2,h3⟩:=row_set(K:=eventK)h.events hx ha hj hv
 obtain⟨h4,h5⟩:=h.turnEvent h1(by simp)h2
 exact⟨⟨h4,h2.mono fun g hg=>sub_blocks(.inr(.inr(.inl hg))),fun g hg=> .inl(h5 ▸ hg)⟩,h3⟩
theorem own_setBoard {x y:BoardD} (h:PartOwn W base q)(hx:q.boards[n]? =some x)(ha:q.boardA=some⟨gs,0,none⟩)(hj:j < 3)(hv:boardK.vals y=(boardK.vals x).set j v):
  TkS W base q({ q with boards:=q.boards.set n y } :PartD)(W.setCell⟨gs,n * 3+j,none⟩v)∧(∃ u,W.cell? ⟨gs,n * 3+j,none⟩=some u)∧W.frozen? ⟨gs,n * 3+j,none⟩=false:=by
 obtain⟨h1,h2,h3⟩:=row_set(K:=boardK)h.boards hx ha hj hv
 obtain⟨h4,h5⟩:=h.turnBoard h1(by simp)h2
 exact⟨⟨h4,h2.mono fun g hg=>sub_blocks(.inr(.inr(.inr(.inl hg)))),fun g hg=> .inl(h5 ▸ hg)⟩,h3⟩
theorem best_is {st on i:Int} (h:BestIs(fun x:ProcP=>decide(x.state=st) && decide(x.on=on))q.pure.procs q.procs.length i):(i < 0∧bestW st on q.pure.procs=none)∨ ∃ (m:Nat)(y:ProcD),i=m∧q.procs[m]? =some y∧bestW st on q.pure.procs=some y.toProcP:=by
 have hl:q.procs.length=q.pure.procs.length:=by simp [PartD.pure]
 by_cases hi:i < 0
 ·refine .inl⟨hi,?_⟩
  unfold BestIs at h
  rw [hl,List.take_length] at h
  unfold bestW
  split at h
  ·assumption
  ·obtain⟨k,hk,-⟩:=h
   omega
 ·obtain⟨k,y,h1,h2,h3,h4⟩:=h.got hi
  rw [hl,List.take_length] at h4
  have h5:(q.procs.map(·.toProcP))[k]? =some y:=h3
  rw [List.getElem?_map,Option.map_eq_some_iff] at h5
  obtain⟨z,hz,rfl⟩:=h5
  exact .inr⟨k,z,h1,hz,h4⟩
theorem own_setProc {x y:ProcD} (h:PartOwn W base q)(hx:q.procs[n]? =some x)(ha:q.procA=some⟨gs,0,none⟩)(hy:y.prog=x.prog∧y.progA=x.progA∧y.progC=x.progC)(hj:j < 12)(hv:procK.vals y=(procK.vals x).set j v):
  TkS W base q({ q with procs:=q.procs.set n y } :PartD)(W.setCell⟨gs,n * 12+j,none⟩v)∧(∃ u,W.cell? ⟨gs,n * 12+j,none⟩=some u)∧W.frozen? ⟨gs,n * 12+j,none⟩=false:=by
 have h3:=h.setProc(n:=n)(j:=j)(x:=x)(y:=y)(vs:= [v])hx ha hy(by simp; omega)(fun r hr=>by simp at hr; subst hr; rw [Nat.add_zero,hv,List.getElem?_set_self(by rw [procK.len]; exact hj)]; rfl)(fun r hr hn=>by rw [hv,List.getElem?_set_ne(by simp at hn; omega)])
 refine⟨⟨h3.1,h3.2.1.mono fun g hg=> ?_,fun g hg=> .inl(h3.2.2 ▸ hg)⟩,?_⟩
 ·simp only [List.mem_cons,List.not_mem_nil,or_false] at hg
  rw [hg]
  exact proc_in ha
 ·obtain⟨g,hg,hrow⟩:=RowAt.of_owns(K:=procK)h.procs(by have:=(List.getElem?_eq_some_iff.1 hx).1; omega)
  rw [ha] at hg
  cases hg
  have h7:=hrow.cell hx(r:=j)hj
  exact⟨⟨_,h7.1.trans(List.getElem?_eq_getElem(by rw [procK.len]; exact hj))⟩,h7.2⟩
def restVs(x:ProcD):Array Value:= #[.int .i64 x.id,.int .i64 x.prio,.slice x.progA x.prog.length x.progC,.int .i64 0,.int .i64 0,.int .i64 0,.int .i64 0,.int .i64 0,.string⟨#[]⟩,.string x.got,.int .i64 x.code,.int .i64 0]
theorem own_rest {x:ProcD} (h:PartOwn W base q)(hx:q.procs[n]? =some x)(ha:q.procA=some⟨gs,0,none⟩):W.there gs(n * 12)12∧TkS W base q({ q with procs:=q.procs.set n(restD x) } :PartD)(W.setCells gs(n * 12)(restVs x).toList):=by
 constructor
 ·obtain⟨g,hg,hrow⟩:=RowAt.of_owns(K:=procK)h.procs(by have:=(List.getElem?_eq_some_iff.1 hx).1; omega)
  rw [ha] at hg
  cases hg
  exact fun j hj=>⟨by have h7:=(hrow.cell hx(r:=j)hj).1; rw [show procK.n=12 from rfl] at h7; rw [h7,List.getElem?_eq_getElem(by rw [procK.len]; exact hj)]; rfl,(hrow.cell hx(r:=j)hj).2⟩
 ·have hv:(restVs x).toList=procK.vals(restD x):=rfl
  have h3:=h.setProc(n:=n)(j:=0)(x:=x)(y:=restD x)(vs:=(restVs x).toList)hx ha⟨rfl,rfl,rfl⟩(by show 0+12≤12; omega)(fun r _=>by rw [Nat.zero_add,hv])(fun r hr hn=>absurd⟨Nat.zero_le _,by show r < 0+12; omega⟩hn)
  rw [Nat.add_zero,← setCells_is] at h3
  refine⟨h3.1,h3.2.1.mono fun g hg=> ?_,fun g hg=> .inl(h3.2.2 ▸ hg)⟩
  simp only [List.mem_cons,List.not_mem_nil,or_false] at hg
  rw [hg]
  exact proc_in ha
theorem got_facts {x:ProcD} {t:ByteArray} (hr:PartR q.pure)(hx:q.procs[n]? =some x)(ht:plainB t=true):
  ∃ q1:PartD,q1= { q with procs:=q.procs.set n { x with got:=t } } ∧q1.pure=gotAt t x.id q.pure∧q1.cells=q.cells∧PartR q1.pure∧q1.procs[n]? =some { x with got:=t } :=
 ⟨_,rfl,set_pure(nx:=q.next)hr.rise hx rfl,set_cells(nx:=q.next),by rw [show ({ q with procs:=q.procs.set n { x with got:=t } } :PartD).pure=gotAt t x.id q.pure from set_pure(nx:=q.next)hr.rise hx rfl]; exact gotAt_right hr ht,by show (q.procs.set n _)[n]? =_; rw [List.getElem?_set_self(List.getElem?_eq_some_iff.1 hx).1]⟩
theorem wake_got {p:PartP} {v:ProcP} {t:ByteArray} :wakeAt(fun y=>y)(gotAt t v.id p)(gotP t v)=wakeAt(gotP t)p v:=by
 unfold wakeAt gotAt
 show ({ p with next:=wakeN p.next v,procs:=turnP v.id(fun y=>wakeF p.next 0 y)(turnP v.id(gotP t)p.procs) } :PartP)=_
 rw [turn_turn(f:=gotP t)(fun _=>rfl)]
theorem FO.sync {w:World} {q0 z q1:PartD} {o:OpD} (h:FO w base q0 z q o W)(hc:q1.cells=z.cells):FO w base q0 q1 q o W:=⟨⟨by have h5:=h.fr.box; unfold PartBox at h5 ⊢; exact h5.trans(congrArg(fun c=>some(Obj.cells c 32(0,0)))hc.symm),h.fr.own,h.fr.kept,h.fr.far,h.fr.lo,h.fr.sz⟩,h.op,h.an⟩
theorem proc_of {y:ProcP} (h:q.pure.procs[n]? =some y): ∃ x,q.procs[n]? =some x∧x.toProcP=y:=by
 have h5:(q.procs.map(·.toProcP))[n]? =some y:=h
 rw [List.getElem?_map,Option.map_eq_some_iff] at h5
 exact h5
theorem one_of {p:PartP} {x y:ProcP} (h:PartR p)(hx:x∈p.procs)(hy:y∈p.procs)(e:y.id=x.id):y=x:=by
 have h5:=h.rise
 rw [List.pairwise_iff_getElem] at h5
 obtain⟨i,hi1,rfl⟩:=List.mem_iff_getElem.1 hy
 obtain⟨j,hj1,rfl⟩:=List.mem_iff_getElem.1 hx
 rcases Nat.lt_trichotomy i j with hlt | heq | hgt
 ·have:=h5 i j hi1 hj1 hlt; omega
 ·subst heq; rfl
 ·have:=h5 j i hj1 hi1 hgt; omega
theorem turn_at {l:List ProcP} {k:Int} {f:ProcP→ProcP} {x:ProcP} (h:l[n]? =some x)(hne: ¬ x.id=k):(turnP k f l)[n]? =some x:=by
 unfold turnP
 rw [List.getElem?_map,h]
 simp [hne]
theorem after_wake {q2:PartD} {m:Nat} {x v:ProcD} {f:ProcP→ProcP} (hr:PartR q.pure)(hx:q.procs[n]? =some x)(hs:x.state=1)(hv:q.procs[m]? =some v)(h1: ¬ v.state=1)(h0: ¬ v.state=0)(hf:f=(fun y=>y)∨ ∃ t,plainB t=true∧f=gotP t)(hn:q.next+1≤1000000000)(hp:q2.pure=wakeAt f q.pure v.toProcP):
  PartR q2.pure∧ ∃ x2,q2.procs[n]? =some x2∧x2.toProcP=x.toProcP:=by
 refine⟨by rw [hp]; exact wakeAt_right hr(pure_mem hv)h0 hf hn,proc_of ?_⟩
 rw [hp]
 refine turn_at(pure_at hx)fun e=>h1 ?_
 have:=one_of hr(pure_mem hv)(pure_mem hx)e
 have h2:x.toProcP.state=1:=hs
 rw [this] at h2
 exact h2
end
end Go.Proofs.YtkbcplnlehdjfaaGreat

namespace Go.Proofs.YtkbcplnlehdjfaaGreat
open Go.RowKit Go.Maps
attribute [local go_sem ↓] Go.wp_at_zero Go.wp_at_succ
theorem l5Or_any(q:PartD)(n base:Nat)(x:ProcD)(st now:Int)(o:OpD)(w:World)(h:PartOwn w base q)(hb:base≤w.heap.size)(hr:PartR q.pure)(hx:q.procs[n]? =some x)(h0: ¬ x.state=0)(hn:q.next≤1000000000)(hnow:0≤now∧now≤1000000000)(hw: -1≤o.2.2.1∧o.2.2.1≤1000):
  Calls Tryz.prog 247 #[.agg q.cells,.int .i64 n,.int .i64 st,.agg(opC o),.int .i64 now] w(Gives w base q(orAt st o now x.id q.pure)):=by
 have S:=hided(FO.start(o:=o)h hb)
 clear h hb
 go_enter Tryz.func247,Tryz.ntmps247
 go_upto_region 1 with fail
 generalize ((w.alloc(.cells q.cells 32)).alloc(.cells(opC o)134)).alloc(.cells zero8 32)=A at *
 obtain⟨-,o1,o2,o3⟩:=S.out.op.cells
 by_cases hz:o.2.2.1=0
 ·have HE:Hid(orAt st o now x.id q.pure=pastAt 1 x.id q.pure):=if_pos hz
  have e2:(o.2.2.1 == 0)=true:=by simp [hz]
  have hcall:=past_gives(n:=n)1 S.out.fr.own S.out.low hr hx h0
  clear hz hr hx h0 hn hnow hw
  go_wp2_with (refine ldP 5 w.heap.size q.cells S.out.fr.box ?_)
  refine hcall.mono ?_
  clear hcall
  rintro e A2⟨q2,rfl,hp,ht⟩
  replace S:=hided(S.out.call ht)
  have HP:Hid(q2.pure=_):=hp
  clear hp ht
  go_wp2_with (refine stP 10 16(w.heap.size+2)q2.cells S.out.an ?_)
  refine rtP Tryz.results247(w.heap.size+2)q2.cells S.out.an ?_
  exact⟨q2,rfl,HP.out.trans HE.out.symm,S.out.done _⟩
 ·have HE:Hid(orAt st o now x.id q.pure=blockAt st o.2.1 o.2.2.2(wakeOf now o.2.2.1)x.id q.pure):=if_neg hz
  have e2:(o.2.2.1 == 0)=false:=by simp [hz]
  have hcall:=l5Block_any q n base x st o.2.1 o.2.2.1 now o.2.2.2 A S.out.fr.own S.out.low hr hx hn hnow hw
  clear hz hr hx h0 hn hnow hw
  go_wp2_with (refine ldP 5 w.heap.size q.cells S.out.fr.box ?_)
  refine hcall.mono ?_
  clear hcall
  rintro e A2⟨q2,rfl,hp,ht⟩
  replace S:=hided(S.out.call ht)
  have HP:Hid(q2.pure=_):=hp
  clear hp ht
  go_wp2_with (refine stP 10 27(w.heap.size+2)q2.cells S.out.an ?_)
  refine rtP Tryz.results247(w.heap.size+2)q2.cells S.out.an ?_
  exact⟨q2,rfl,HP.out.trans HE.out.symm,S.out.done _⟩
end Go.Proofs.YtkbcplnlehdjfaaGreat
