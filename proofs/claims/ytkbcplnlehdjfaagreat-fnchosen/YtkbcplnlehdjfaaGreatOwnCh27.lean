/- What the proof leans on, part 27: OpenX, TkR2, L3Chk, WmSem, WmEvent, WmBoard, DlPure. -/
import Derived.Test.YtkbcplnlehdjfaaGreatOwnCh1
import Derived.Test.YtkbcplnlehdjfaaGreatOwnCh5
import Derived.Test.YtkbcplnlehdjfaaGreatOwnCh20
import Derived.Test.YtkbcplnlehdjfaaGreatOwnCh24
import Derived.Test.YtkbcplnlehdjfaaGreatOwnCh26
set_option maxRecDepth 100000
set_option maxHeartbeats 8000000

namespace Go.Proofs.YtkbcplnlehdjfaaGreat
open Go.RowKit Go.Maps
theorem OpenAt.drew {w:World} {base o:Nat} {S:OpenD} (h:OpenAt w base o S):OpenAt w.drew base o S:=
 ⟨h.opn,h.procs.same fun _ _=>rfl,h.sems.same fun _ _=>rfl,h.events.same fun _ _=>rfl,h.boards.same fun _ _=>rfl,h.buffers.same fun _ _=>rfl,h.ports.same fun _ _=>rfl,fun p hp=>(h.mineP p hp).same fun _ _=>rfl,fun p hp=>(h.mineF p hp).same fun _ _=>rfl,fun p hp=>(h.mineQ p hp).same fun _ _=>rfl,h.nodup,h.low⟩
end Go.Proofs.YtkbcplnlehdjfaaGreat

namespace Go.Proofs.YtkbcplnlehdjfaaGreat
section
variable {p:PartP} {x:ProcP}
theorem body_of(h:procB x=true):bodyB x=true:=by rw [procB_is,Bool.and_eq_true] at h; exact h.1
theorem past_right {code:Int} (h:procB x=true)(h0: ¬ x.state=0)(hc:inB code 0 3=true):procB(pastP code x)=true:=by
 obtain⟨h1,h2⟩:=op_of_state h h0
 unfold pastP
 split
 ·refine rest_right ?_
  have h3:=body_of h
  unfold bodyB at h3 ⊢
  simp only [Bool.and_eq_true] at h3 ⊢
  exact⟨⟨⟨h3.1.1.1,plain_no⟩,h3.1.2⟩,hc⟩
 ·have:=gone_right(s:=x.since)(body_of h)hc h1(by omega)
  exact this
theorem wakeF_right {code nx:Int} (h:procB x=true)(h0: ¬ x.state=0)(hc:inB code 0 3=true):procB(wakeF nx code x)=true:=by
 obtain⟨h1,h2⟩:=op_of_state h h0
 unfold wakeF
 split
 ·have:=past_right(code:=code)h h0 hc
  unfold pastP at this
  rw [if_pos ‹_›] at this
  exact this
 ·exact gone_right(body_of h)hc h1(by omega)
theorem pastAt_right {code id:Int} (h:PartR p)(h0: ∀ x∈p.procs,x.id=id→ ¬ x.state=0)(hc:inB code 0 3=true):PartR(pastAt code id p):=by
 have hn:=inB_iff.1 h.next
 refine h.turn(nx:=p.next)(f:=pastP code)(fun x=>by unfold pastP; split <;> rfl)⟨Int.le_refl _,hn.2⟩fun x hx hi=> ?_
 obtain⟨-,k1,k2,-⟩:=h.proc hx
 have k0:=h0 x hx hi
 refine⟨past_right k1 k0 hc,?_,?_,?_⟩
 ·unfold turnB at k2 ⊢
  simp only [Bool.or_eq_true,decide_eq_true_eq,k0,false_or] at k2 ⊢
  unfold pastP
  split
  ·exact .inl rfl
  ·exact .inr k2
 ·unfold waitB
  rw [if_neg]
  unfold pastP
  split <;> simp [restP,goneP]
 ·unfold pastP
  split
  ·exact .inr(.inl rfl)
  ·exact .inl rfl
theorem wakeTurn_right {code:Int} {f:ProcP→ProcP} (h:PartR p)(hx:x∈p.procs)(h0: ¬ x.state=0)(hc:inB code 0 3=true)(hf: ∀ y,(f y).id=y.id∧(f y).pc=y.pc∧(f y).prog=y.prog∧(f y).state=y.state)(hr:procB(f x)=true)(hn:p.next+1≤1000000000):
  PartR { p with next:=wakeN p.next x,procs:=turnP x.id(fun y=>wakeF p.next code(f y))p.procs } :=by
 have hnx:=inB_iff.1 h.next
 have hw:wakeN p.next x=if (f x).pc+1=(f x).prog.length then p.next else p.next+1:=by unfold wakeN; rw [(hf x).2.1,(hf x).2.2.1]
 refine h.turn(f:=fun y=>wakeF p.next code(f y))(fun y=>by rw [(wakeF_id _ _ _).1,(hf y).1]) ?_ fun y hy hi=> ?_
 ·rw [hw]; split <;> omega
 ·have e:y=x:=by
   have h5:=h.rise
   rw [List.pairwise_iff_getElem] at h5
   obtain⟨i,hi1,rfl⟩:=List.mem_iff_getElem.1 hy
   obtain⟨j,hj1,rfl⟩:=List.mem_iff_getElem.1 hx
   rcases Nat.lt_trichotomy i j with hlt | heq | hgt
   ·have:=h5 i j hi1 hj1 hlt; omega
   ·subst heq; rfl
   ·have:=h5 j i hj1 hi1 hgt; omega
  subst e
  have hs: ¬ (f y).state=0:=by rw [(hf y).2.2.2]; exact h0
  refine⟨wakeF_right hr hs hc,?_,?_,?_⟩
  ·unfold turnB
   rw [hw]
   simp only [Bool.or_eq_true,decide_eq_true_eq]
   unfold wakeF
   split
   ·exact .inl rfl
   ·exact .inr(inB_true(by show 1≤p.next; omega)(by show p.next≤_; omega))
  ·unfold waitB
   rw [if_neg]
   unfold wakeF
   split <;> simp [restP,goneP]
  ·unfold wakeF
   split
   ·exact .inr(.inl rfl)
   ·exact .inr(.inr rfl)
theorem wakeN_le(nx:Int)(x:ProcP):nx≤wakeN nx x∧wakeN nx x≤nx+1:=by unfold wakeN; split <;> omega
theorem wakeStep_right {now:Int} (h:PartR p)(hx:nextDue now p.procs=some x)(hn:p.next+1≤1000000000):PartR(wakeStep p x):=by
 obtain⟨hm,hd⟩:=Wk.mem hx
 unfold dueB at hd
 simp only [Bool.and_eq_true,decide_eq_true_eq] at hd
 exact wakeTurn_right(f:=fun y=>y)h hm(by omega)(by unfold codeOf; split <;> rfl)(fun _=>⟨rfl,rfl,rfl,rfl⟩)(h.proc hm).2.1 hn
theorem wokenN_right {now:Int} : ∀ (n:Nat)(p:PartP),PartR p→p.next+n≤1000000000→PartR(wokenN now n p)∧p.next≤(wokenN now n p).next∧(wokenN now n p).next≤p.next+n
 | 0,p,h,_=>⟨h,by simp [wokenN]⟩
 | n+1,p,h,hn=>by
  unfold wokenN
  split
  ·exact⟨h,by omega,by omega⟩
  ·rename_i x hx
   have h1:=wakeStep_right h hx(by omega)
   have h2:(wakeStep p x).next=wakeN p.next x:=rfl
   have h3:=wakeN_le p.next x
   obtain⟨h4,h5,h6⟩:=wokenN_right n(wakeStep p x)h1(by omega)
   exact⟨h4,by omega,by omega⟩
theorem wokenL_right {now:Int} (h:PartR p)(hn:p.next≤999999990):PartR(wokenL now p)∧p.next≤(wokenL now p).next∧(wokenL now p).next≤p.next+6:=by
 have h1:(dueL now p.procs).length≤p.procs.length:=List.length_filter_le _ _
 have h2:=h.nProc
 obtain⟨h3,h4,h5⟩:=wokenN_right(now:=now)(dueL now p.procs).length p h(by omega)
 exact⟨h3,h4,by unfold wokenL; omega⟩
theorem gotAt_right {t:ByteArray} {id:Int} (h:PartR p)(ht:plainB t=true):PartR(gotAt t id p):=by
 have hn:=inB_iff.1 h.next
 refine h.turn(nx:=p.next)(f:=gotP t)(fun _=>rfl)⟨Int.le_refl _,hn.2⟩fun x hx _=> ?_
 obtain⟨-,k1,k2,k3⟩:=h.proc hx
 refine⟨?_,k2,k3,.inl rfl⟩
 rw [procB_is,Bool.and_eq_true] at k1 ⊢
 refine⟨?_,k1.2⟩
 have k4:=k1.1
 unfold bodyB at k4 ⊢
 simp only [Bool.and_eq_true] at k4 ⊢
 exact⟨⟨k4.1.1,ht⟩,k4.2⟩
theorem wakeAt_right {f:ProcP→ProcP} (h:PartR p)(hx:x∈p.procs)(h0: ¬ x.state=0)(hf:f=(fun y=>y)∨ ∃ t,plainB t=true∧f=gotP t)(hn:p.next+1≤1000000000):PartR(wakeAt f p x):=by
 rcases hf with rfl | ⟨t,ht,rfl⟩
 ·exact wakeTurn_right h hx h0 rfl(fun _=>⟨rfl,rfl,rfl,rfl⟩)(h.proc hx).2.1 hn
 ·refine wakeTurn_right(f:=gotP t)h hx h0 rfl(fun _=>⟨rfl,rfl,rfl,rfl⟩) ?_ hn
  have k1:=(h.proc hx).2.1
  rw [procB_is,Bool.and_eq_true] at k1 ⊢
  refine⟨?_,k1.2⟩
  have k4:=k1.1
  unfold bodyB at k4 ⊢
  simp only [Bool.and_eq_true] at k4 ⊢
  exact⟨⟨k4.1.1,ht⟩,k4.2⟩
theorem wakeAllN_right {f:ProcP→ProcP} {st on:Int} (hst: ¬ st=0)(hf:f=(fun y=>y)∨ ∃ t,plainB t=true∧f=gotP t): ∀ (n:Nat)(p:PartP),PartR p→p.next+n≤1000000000→PartR(wakeAllN f st on n p)∧p.next≤(wakeAllN f st on n p).next∧(wakeAllN f st on n p).next≤p.next+n
 | 0,p,h,_=>⟨h,by simp [wakeAllN]⟩
 | n+1,p,h,hn=>by
  unfold wakeAllN
  split
  ·exact⟨h,by omega,by omega⟩
  ·rename_i x hx
   obtain⟨m1,m2,-⟩:=bestW_mem hx
   have h1:=wakeAt_right(f:=f)h m1(by omega)hf(by omega)
   have h2:(wakeAt f p x).next=wakeN p.next x:=rfl
   have h3:=wakeN_le p.next x
   obtain⟨h4,h5,h6⟩:=wakeAllN_right hst hf n(wakeAt f p x)h1(by omega)
   exact⟨h4,by omega,by omega⟩
theorem wakeAll_right {f:ProcP→ProcP} {st on:Int} (hst: ¬ st=0)(hf:f=(fun y=>y)∨ ∃ t,plainB t=true∧f=gotP t)(h:PartR p)(hn:p.next≤999999990):PartR(wakeAll f st on p)∧p.next≤(wakeAll f st on p).next∧(wakeAll f st on p).next≤p.next+6:=by
 have h1:(p.procs.filter(waitsB st on)).length≤p.procs.length:=List.length_filter_le _ _
 have h2:=h.nProc
 obtain⟨h3,h4,h5⟩:=wakeAllN_right(on:=on)hst hf(p.procs.filter(waitsB st on)).length p h(by omega)
 exact⟨h3,h4,by unfold wakeAll; omega⟩
end
end Go.Proofs.YtkbcplnlehdjfaaGreat

namespace Go.Proofs.YtkbcplnlehdjfaaGreat
open Go.RowKit Go.Maps
attribute [local go_sem ↓] Go.wp_at_zero Go.wp_at_succ
theorem l3Checked_any(p q:PartD)(w:World)(hp:p.Fit∧(∀ x∈p.procs,x.Short)∧PartD.At w p)(hq:partB p.pure=true→q.Fit∧(∀ x∈q.procs,x.Short)∧PartD.At w q):
  Calls Tryz.prog 87 #[.agg p.cells,.agg q.cells] w fun e w'=>Below w.heap.size w w'∧(((partB p.pure && partB q.pure)=true∧e= .returned(.tuple #[.agg q.cells,.bool true]))∨((partB p.pure && partB q.pure)=false∧e= .returned(.tuple #[.agg zero8,.bool false]))):=by
 have HB:Hid(Below w.heap.size w(((w.alloc(.cells p.row 32)).alloc(.cells q.row 32)).alloc(.cells zero8 32))∧PartBox(((w.alloc(.cells p.row 32)).alloc(.cells q.row 32)).alloc(.cells zero8 32))w.heap.size p∧PartBox(((w.alloc(.cells p.row 32)).alloc(.cells q.row 32)).alloc(.cells zero8 32))(w.heap.size+1)q∧(((w.alloc(.cells p.row 32)).alloc(.cells q.row 32)).alloc(.cells zero8 32)).heap[w.heap.size+2]? =some(.cells zero8 32(0,0))):=by
  refine⟨(((Below.refl _ _).alloc(Nat.le_refl _)_).alloc(by simp)_).alloc(by simp; omega)_,?_,?_,?_⟩
  ·exact(heap_alloc_old _ _(by simp; omega)).trans((heap_alloc_old _ _(by simp)).trans(heap_alloc_new _ _))
  ·exact(heap_alloc_old _ _(by simp)).trans(by simpa using heap_alloc_new(w.alloc(.cells p.row 32))_)
  ·simpa using heap_alloc_new((w.alloc(.cells p.row 32)).alloc(.cells q.row 32))_
 have HP:Hid(p.Fit∧(∀ x∈p.procs,x.Short)∧PartD.At w p):=hp
 have HQ:Hid(partB p.pure=true→q.Fit∧(∀ x∈q.procs,x.Short)∧PartD.At w q):=hq
 clear hp hq
 obtain⟨m0,m1,m2,m3,m4,m5,m6,m7⟩:=HB.out.2.1.cells
 obtain⟨k0,k1,k2,k3,k4,k5,k6,k7⟩:=HB.out.2.2.1.cells
 unfold PartD.cells
 go_enter Tryz.func87,Tryz.ntmps87
 go_wp2_with fail
 generalize ((w.alloc(.cells p.row 32)).alloc(.cells q.row 32)).alloc(.cells zero8 32)=W at *
 clear m0 m1 m2 m3 m4 m5 m6 m7 k0 k1 k2 k3 k4 k5 k6 k7
 refine(specPartOk_any p W HP.out.1 HP.out.2.1(HP.out.2.2.below HB.out.1)).mono ?_
 rintro e W1⟨rfl,hb⟩
 replace HB:Hid(Below w.heap.size w W1∧PartBox W1 w.heap.size p∧PartBox W1(w.heap.size+1)q∧W1.heap[w.heap.size+2]? =some(.cells zero8 32(0,0))):=⟨HB.out.1.trans(hb.mono HB.out.1.size),HB.out.2.1.below hb,HB.out.2.2.1.below hb,(hb.block _(Array.getElem?_eq_some_iff.1 HB.out.2.2.2).1).trans HB.out.2.2.2⟩
 clear hb
 obtain⟨k0,k1,k2,k3,k4,k5,k6,k7⟩:=HB.out.2.2.1.cells
 cases h4:partB p.pure
 ·have H4:Hid(partB p.pure=false):=h4
  clear h4
  go_wp2_with (refine stP 4 14(w.heap.size+2)zero8 HB.out.2.2.2 ?_)
  refine rtQ Tryz.results87(w.heap.size+2)zero8(.bool false)HB.out.2.2.2 ?_
  exact⟨below_setRow HB.out.1(by omega)_,.inr⟨by rw [H4.out]; rfl,rfl⟩⟩
 have H4:Hid(partB p.pure=true):=h4
 clear h4
 go_wp2_with fail
 clear k0 k1 k2 k3 k4 k5 k6 k7
 refine(specPartOk_any q W1(HQ.out H4.out).1(HQ.out H4.out).2.1((HQ.out H4.out).2.2.below HB.out.1)).mono ?_
 rintro e W2⟨rfl,hb⟩
 replace HB:Hid(Below w.heap.size w W2∧PartBox W2 w.heap.size p∧PartBox W2(w.heap.size+1)q∧W2.heap[w.heap.size+2]? =some(.cells zero8 32(0,0))):=⟨HB.out.1.trans(hb.mono HB.out.1.size),HB.out.2.1.below hb,HB.out.2.2.1.below hb,(hb.block _(Array.getElem?_eq_some_iff.1 HB.out.2.2.2).1).trans HB.out.2.2.2⟩
 clear hb
 obtain⟨k0,k1,k2,k3,k4,k5,k6,k7⟩:=HB.out.2.2.1.cells
 cases h5:partB q.pure
 ·have H5:Hid(partB q.pure=false):=h5
  clear h5
  go_wp2_with (refine stP 4 14(w.heap.size+2)zero8 HB.out.2.2.2 ?_)
  refine rtQ Tryz.results87(w.heap.size+2)zero8(.bool false)HB.out.2.2.2 ?_
  exact⟨below_setRow HB.out.1(by omega)_,.inr⟨by rw [H4.out,H5.out]; rfl,rfl⟩⟩
 have H5:Hid(partB q.pure=true):=h5
 clear h5
 go_wp2_with (refine stP 4 15(w.heap.size+2)q.row HB.out.2.2.2 ?_)
 refine rtQ Tryz.results87(w.heap.size+2)q.row(.bool true)HB.out.2.2.2 ?_
 exact⟨below_setRow HB.out.1(by omega)_,.inl⟨by rw [H4.out,H5.out]; rfl,rfl⟩⟩
end Go.Proofs.YtkbcplnlehdjfaaGreat

namespace Go.Proofs.YtkbcplnlehdjfaaGreat
open Go.RowKit Go.Maps
theorem more_sem(w:World)(base:Nat)(a0:Option Addr)(c0:Nat)(l0:List SemD)(ho:w.ownsRow base 49 3(.slice a0 l0.length c0)l0.length(semK.flat l0))(a:Option Addr)(l:List SemD)(cap:Nat)(h:SrcAt w a(semK.flat l))(hl:l0.length+l.length≤4000000)(hbw:base≤w.heap.size):
  ∃ a' cap' w',(Builtin.append_ #[26,26] 26 #[.slice a0 l0.length c0,.slice a l.length cap]).run Tryz.prog w= .ok(.slice a'(l0.length+l.length)cap')w'∧w'.ownsRow base 49 3(.slice a'(l0.length+l.length)cap')(l0.length+l.length)(semK.flat(l0 ++ l))∧w.grownBy w'(Value.slice a0 l0.length c0).ownBlock∧ ∀ g∈blk a',g∈blk a0∨g=w.heap.size:=by
 obtain⟨i,hi,e⟩:=Option.map_eq_some_iff.1 rinfSem
 simp only [Prod.mk.injEq] at e
 rw [semK.flat_append]
 exact append_more w base _ _ 49 i _ 3 24 Tryz.underlying26 hi e.1 e.2.1 e.2.2 rfl(by decide)a0 l0.length c0 _ ho a l.length cap _ h(semK.flat_length l)one_sem hl(by decide)hbw
theorem PartOwn.newSem {w w':World} {base B:Nat} {q:PartD} {l:List SemD} {a':Option Addr} {c':Nat} (h:PartOwn w base q)(hb:base≤B)(hB: ∀ g∈q.blocks,g < B)(hs: ∀ g∈q.blocks,w'.heap[g]? =w.heap[g]?)
  (ho:w'.ownsRow B 49 3(.slice a' l.length c')l.length(semK.flat l)):PartOwn w' base({ q with sems:=l,semA:=a',semC:=c' } :PartD):=by
 refine⟨own_same h.procs fun g hg=>hs g(by simp [PartD.blocks,hg]),own_low ho hb,own_same h.events fun g hg=>hs g(by simp [PartD.blocks,hg]),own_same h.boards fun g hg=>hs g(by simp [PartD.blocks,hg]),own_same h.buffers fun g hg=>hs g(by simp [PartD.blocks,hg]),own_same h.ports fun g hg=>hs g(by simp [PartD.blocks,hg]),fun x hx=>(h.mineP x hx).same fun g hg=>hs g ?_,fun x hx=>(h.mineF x hx).same fun g hg=>hs g ?_,fun x hx=>(h.mineQ x hx).same fun g hg=>hs g ?_,?_⟩
 ·simp only [PartD.blocks,List.mem_append,List.mem_filterMap]
  exact .inr(.inl⟨x,hx,hg⟩)
 ·simp only [PartD.blocks,List.mem_append,List.mem_filterMap]
  exact .inr(.inr(.inr(.inr(.inr(.inr(.inl⟨x,hx,hg⟩))))))
 ·simp only [PartD.blocks,List.mem_append,List.mem_filterMap]
  exact .inr(.inr(.inr(.inr(.inr(.inr(.inr(.inr⟨x,hx,hg⟩)))))))
 ·have h5:=h.nodup
  have h6: ∀ g∈blk a',g∉q.blocks:=fun g hg hm=>by have:=(own_lt ho hg).1; have:=hB g hm; omega
  have e1: ∀ (a2:Option Addr)(l2:List SemD)(c2:Nat),({ q with sems:=l2,semA:=a2,semC:=c2 } :PartD).blocks=(blk q.procA ++ q.procs.filterMap procN.kid) ++ (blk a2 ++ (blk q.eventA ++ (blk q.boardA ++ (blk q.bufferA ++ (q.buffers.filterMap bufferN.kid ++ (blk q.portA ++ q.ports.filterMap portN.kid)))))):=fun _ _ _=>by simp [PartD.blocks]
  have e2:=e1 q.semA q.sems q.semC
  rw [e1]
  have e3:q.blocks=(blk q.procA ++ q.procs.filterMap procN.kid) ++ (blk q.semA ++ (blk q.eventA ++ (blk q.boardA ++ (blk q.bufferA ++ (q.buffers.filterMap bufferN.kid ++ (blk q.portA ++ q.ports.filterMap portN.kid)))))):=e2
  rw [e3] at h5 h6
  exact nodup_swap h5(blk_nodup _)h6
end Go.Proofs.YtkbcplnlehdjfaaGreat

namespace Go.Proofs.YtkbcplnlehdjfaaGreat
open Go.RowKit Go.Maps
theorem more_event(w:World)(base:Nat)(a0:Option Addr)(c0:Nat)(l0:List EventD)(ho:w.ownsRow base 138 2(.slice a0 l0.length c0)l0.length(eventK.flat l0))(a:Option Addr)(l:List EventD)(cap:Nat)(h:SrcAt w a(eventK.flat l))(hl:l0.length+l.length≤4000000)(hbw:base≤w.heap.size):
  ∃ a' cap' w',(Builtin.append_ #[27,27] 27 #[.slice a0 l0.length c0,.slice a l.length cap]).run Tryz.prog w= .ok(.slice a'(l0.length+l.length)cap')w'∧w'.ownsRow base 138 2(.slice a'(l0.length+l.length)cap')(l0.length+l.length)(eventK.flat(l0 ++ l))∧w.grownBy w'(Value.slice a0 l0.length c0).ownBlock∧ ∀ g∈blk a',g∈blk a0∨g=w.heap.size:=by
 obtain⟨i,hi,e⟩:=Option.map_eq_some_iff.1 rinfEvent
 simp only [Prod.mk.injEq] at e
 rw [eventK.flat_append]
 exact append_more w base _ _ 138 i _ 2 16 Tryz.underlying27 hi e.1 e.2.1 e.2.2 rfl(by decide)a0 l0.length c0 _ ho a l.length cap _ h(eventK.flat_length l)one_event hl(by decide)hbw
theorem PartOwn.newEvent {w w':World} {base B:Nat} {q:PartD} {l:List EventD} {a':Option Addr} {c':Nat} (h:PartOwn w base q)(hb:base≤B)(hB: ∀ g∈q.blocks,g < B)(hs: ∀ g∈q.blocks,w'.heap[g]? =w.heap[g]?)
  (ho:w'.ownsRow B 138 2(.slice a' l.length c')l.length(eventK.flat l)):PartOwn w' base({ q with events:=l,eventA:=a',eventC:=c' } :PartD):=by
 refine⟨own_same h.procs fun g hg=>hs g(by simp [PartD.blocks,hg]),own_same h.sems fun g hg=>hs g(by simp [PartD.blocks,hg]),own_low ho hb,own_same h.boards fun g hg=>hs g(by simp [PartD.blocks,hg]),own_same h.buffers fun g hg=>hs g(by simp [PartD.blocks,hg]),own_same h.ports fun g hg=>hs g(by simp [PartD.blocks,hg]),fun x hx=>(h.mineP x hx).same fun g hg=>hs g ?_,fun x hx=>(h.mineF x hx).same fun g hg=>hs g ?_,fun x hx=>(h.mineQ x hx).same fun g hg=>hs g ?_,?_⟩
 ·simp only [PartD.blocks,List.mem_append,List.mem_filterMap]
  exact .inr(.inl⟨x,hx,hg⟩)
 ·simp only [PartD.blocks,List.mem_append,List.mem_filterMap]
  exact .inr(.inr(.inr(.inr(.inr(.inr(.inl⟨x,hx,hg⟩))))))
 ·simp only [PartD.blocks,List.mem_append,List.mem_filterMap]
  exact .inr(.inr(.inr(.inr(.inr(.inr(.inr(.inr⟨x,hx,hg⟩)))))))
 ·have h5:=h.nodup
  have h6: ∀ g∈blk a',g∉q.blocks:=fun g hg hm=>by have:=(own_lt ho hg).1; have:=hB g hm; omega
  have e1: ∀ (a2:Option Addr)(l2:List EventD)(c2:Nat),({ q with events:=l2,eventA:=a2,eventC:=c2 } :PartD).blocks=(blk q.procA ++ (q.procs.filterMap procN.kid ++ blk q.semA)) ++ (blk a2 ++ (blk q.boardA ++ (blk q.bufferA ++ (q.buffers.filterMap bufferN.kid ++ (blk q.portA ++ q.ports.filterMap portN.kid))))):=fun _ _ _=>by simp [PartD.blocks]
  have e2:=e1 q.eventA q.events q.eventC
  rw [e1]
  have e3:q.blocks=(blk q.procA ++ (q.procs.filterMap procN.kid ++ blk q.semA)) ++ (blk q.eventA ++ (blk q.boardA ++ (blk q.bufferA ++ (q.buffers.filterMap bufferN.kid ++ (blk q.portA ++ q.ports.filterMap portN.kid))))):=e2
  rw [e3] at h5 h6
  exact nodup_swap h5(blk_nodup _)h6
end Go.Proofs.YtkbcplnlehdjfaaGreat

namespace Go.Proofs.YtkbcplnlehdjfaaGreat
open Go.RowKit Go.Maps
theorem more_board(w:World)(base:Nat)(a0:Option Addr)(c0:Nat)(l0:List BoardD)(ho:w.ownsRow base 141 3(.slice a0 l0.length c0)l0.length(boardK.flat l0))(a:Option Addr)(l:List BoardD)(cap:Nat)(h:SrcAt w a(boardK.flat l))(hl:l0.length+l.length≤4000000)(hbw:base≤w.heap.size):
  ∃ a' cap' w',(Builtin.append_ #[28,28] 28 #[.slice a0 l0.length c0,.slice a l.length cap]).run Tryz.prog w= .ok(.slice a'(l0.length+l.length)cap')w'∧w'.ownsRow base 141 3(.slice a'(l0.length+l.length)cap')(l0.length+l.length)(boardK.flat(l0 ++ l))∧w.grownBy w'(Value.slice a0 l0.length c0).ownBlock∧ ∀ g∈blk a',g∈blk a0∨g=w.heap.size:=by
 obtain⟨i,hi,e⟩:=Option.map_eq_some_iff.1 rinfBoard
 simp only [Prod.mk.injEq] at e
 rw [boardK.flat_append]
 exact append_more w base _ _ 141 i _ 3 32 Tryz.underlying28 hi e.1 e.2.1 e.2.2 rfl(by decide)a0 l0.length c0 _ ho a l.length cap _ h(boardK.flat_length l)one_board hl(by decide)hbw
theorem PartOwn.newBoard {w w':World} {base B:Nat} {q:PartD} {l:List BoardD} {a':Option Addr} {c':Nat} (h:PartOwn w base q)(hb:base≤B)(hB: ∀ g∈q.blocks,g < B)(hs: ∀ g∈q.blocks,w'.heap[g]? =w.heap[g]?)
  (ho:w'.ownsRow B 141 3(.slice a' l.length c')l.length(boardK.flat l)):PartOwn w' base({ q with boards:=l,boardA:=a',boardC:=c' } :PartD):=by
 refine⟨own_same h.procs fun g hg=>hs g(by simp [PartD.blocks,hg]),own_same h.sems fun g hg=>hs g(by simp [PartD.blocks,hg]),own_same h.events fun g hg=>hs g(by simp [PartD.blocks,hg]),own_low ho hb,own_same h.buffers fun g hg=>hs g(by simp [PartD.blocks,hg]),own_same h.ports fun g hg=>hs g(by simp [PartD.blocks,hg]),fun x hx=>(h.mineP x hx).same fun g hg=>hs g ?_,fun x hx=>(h.mineF x hx).same fun g hg=>hs g ?_,fun x hx=>(h.mineQ x hx).same fun g hg=>hs g ?_,?_⟩
 ·simp only [PartD.blocks,List.mem_append,List.mem_filterMap]
  exact .inr(.inl⟨x,hx,hg⟩)
 ·simp only [PartD.blocks,List.mem_append,List.mem_filterMap]
  exact .inr(.inr(.inr(.inr(.inr(.inr(.inl⟨x,hx,hg⟩))))))
 ·simp only [PartD.blocks,List.mem_append,List.mem_filterMap]
  exact .inr(.inr(.inr(.inr(.inr(.inr(.inr(.inr⟨x,hx,hg⟩)))))))
 ·have h5:=h.nodup
  have h6: ∀ g∈blk a',g∉q.blocks:=fun g hg hm=>by have:=(own_lt ho hg).1; have:=hB g hm; omega
  have e1: ∀ (a2:Option Addr)(l2:List BoardD)(c2:Nat),({ q with boards:=l2,boardA:=a2,boardC:=c2 } :PartD).blocks=(blk q.procA ++ (q.procs.filterMap procN.kid ++ (blk q.semA ++ blk q.eventA))) ++ (blk a2 ++ (blk q.bufferA ++ (q.buffers.filterMap bufferN.kid ++ (blk q.portA ++ q.ports.filterMap portN.kid)))):=fun _ _ _=>by simp [PartD.blocks]
  have e2:=e1 q.boardA q.boards q.boardC
  rw [e1]
  have e3:q.blocks=(blk q.procA ++ (q.procs.filterMap procN.kid ++ (blk q.semA ++ blk q.eventA))) ++ (blk q.boardA ++ (blk q.bufferA ++ (q.buffers.filterMap bufferN.kid ++ (blk q.portA ++ q.ports.filterMap portN.kid)))):=e2
  rw [e3] at h5 h6
  exact nodup_swap h5(blk_nodup _)h6
end Go.Proofs.YtkbcplnlehdjfaaGreat

namespace Go.Proofs.YtkbcplnlehdjfaaGreat
theorem bestL_nil: ∀ {l:List ProcP},bestL l=none→l= [] :=by
 intro l h
 rcases List.eq_nil_or_concat l with rfl | ⟨r,x,rfl⟩
 ·rfl
 ·rw [List.concat_eq_append,bestL_snoc] at h
  obtain⟨y,hy⟩:=bestStep_some(bestL r)x
  rw [hy] at h; cases h
theorem ahead_not {x y b:ProcP} (h:aheadB x b=true)(hy:aheadB y b=false):aheadB y x=false:=by
 unfold aheadB at *
 split at h <;> split at hy <;> split <;> simp only [decide_eq_true_eq,decide_eq_false_iff_not] at * <;> omega
theorem ahead_self(x:ProcP):aheadB x x=false:=by simp [aheadB]
theorem bestL_top(n:Nat): ∀ (l:List ProcP)(b:ProcP),l.length=n→bestL l=some b→b∈l∧ ∀ y∈l,aheadB y b=false:=by
 induction n with
 | zero=>intro l b hn h; cases l with | nil=>cases h | cons=>cases hn
 | succ n ih=>
  intro l b hn h
  rcases List.eq_nil_or_concat l with rfl | ⟨r,x,rfl⟩
  ·cases hn
  ·rw [List.concat_eq_append] at h hn ⊢
   rw [bestL_snoc] at h
   have hr:r.length=n:=by simpa using hn
   cases hb:bestL r with
   | none=>
    rw [hb] at h
    obtain rfl:=bestL_nil hb
    obtain rfl:x=b:=Option.some.inj h
    exact⟨by simp,fun y hy=>by simp at hy; subst hy; exact ahead_self _⟩
   | some c=>
    obtain⟨h1,h2⟩:=ih r c hr hb
    rw [hb] at h
    change (if aheadB x c=true then some x else some c)=some b at h
    by_cases ha:aheadB x c=true
    ·rw [if_pos ha] at h
     obtain rfl:x=b:=Option.some.inj h
     refine⟨by simp,fun y hy=> ?_⟩
     rcases List.mem_append.1 hy with hy | hy
     ·exact ahead_not ha(h2 y hy)
     ·simp at hy; subst hy; exact ahead_self _
    ·rw [if_neg ha] at h
     obtain rfl:c=b:=Option.some.inj h
     refine⟨by simp [h1],fun y hy=> ?_⟩
     rcases List.mem_append.1 hy with hy | hy
     ·exact h2 y hy
     ·simp at hy; subst hy; simpa using ha
theorem find_one {p:PartP} (h:PartR p) {b:ProcP} (hb:b∈p.procs):p.procs.find? (fun x=>decide(x.id=b.id))=some b:=by
 have hr:=h.rise
 revert hr hb
 generalize p.procs=l
 induction l with
 | nil=>intro hb; cases hb
 | cons y r ih=>
  intro hb hr
  rw [List.pairwise_cons] at hr
  rcases List.mem_cons.1 hb with rfl | hb
  ·simp
  ·have:=hr.1 b hb
   rw [List.find?_cons,show decide(y.id=b.id)=false from decide_eq_false(by omega)]
   exact ih hb hr.2
theorem chosen_is {p:PartP} (h:partB p=true):((procOfP p(chosenB p)).isSome == decide(0 < chosenB p))=true∧((procOfP p(chosenB p)).isSome=true→((procOfP p(chosenB p)).getD zeroP).state=1)∧
  ∀ y∈p.procs,y.state=1→(procOfP p(chosenB p)).isSome=true∧aheadB y((procOfP p(chosenB p)).getD zeroP)=false:=by
 have hr:=(partB_iff p).1 h
 simp only [procOfP,chosenB,h,if_true]
 unfold chosenL
 cases hb:bestL(p.procs.filter fun x=>decide(x.state=1))with
 | none=>
  have hn:=bestL_nil hb
  have hf:p.procs.find? (fun x=>decide(x.id=0))=none:=by
   rw [List.find?_eq_none]
   intro x hx e
   have h1:=inB_iff.1(hr.proc hx).1
   have h2:=of_decide_eq_true e
   omega
  simp only [hf]
  refine⟨rfl,(fun e=>by cases e),fun y hy hs=> ?_⟩
  have:y∈p.procs.filter fun x=>decide(x.state=1):=List.mem_filter.2⟨hy,decide_eq_true hs⟩
  rw [hn] at this; cases this
 | some b=>
  obtain⟨h1,h2⟩:=bestL_top _ _ _ rfl hb
  obtain⟨h3,h4⟩:=List.mem_filter.1 h1
  have h5:=inB_iff.1(hr.proc h3).1
  simp only [find_one hr h3]
  refine⟨?_,fun _=>of_decide_eq_true h4,fun y hy hs=>⟨rfl,h2 y(List.mem_filter.2⟨hy,decide_eq_true hs⟩)⟩⟩
  rw [decide_eq_true(by omega:0 < b.id)]; rfl
theorem chosen_no {p:PartP} (h:partB p=false):chosenB p=0:=by simp [chosenB,h]
theorem chosen_wf {p:PartP} (h:p.Small):(Lit.int .i64(chosenB p)).wf=true:=by
 unfold chosenB
 split
 ·unfold chosenL
  cases hb:bestL(p.procs.filter fun x=>decide(x.state=1))with
  | none=>rfl
  | some b=>exact(h.procs b(List.mem_filter.1(bestL_top _ _ _ rfl hb).1).1).2.1
 ·rfl
end Go.Proofs.YtkbcplnlehdjfaaGreat
