/- What the proof leans on, part 28: WithSemS, WithN, LawZ. -/
import Derived.Test.YtkbcplnlehdjfaaGreatOwnCh1
import Derived.Test.YtkbcplnlehdjfaaGreatOwnCh20
import Derived.Test.YtkbcplnlehdjfaaGreatOwnCh24
import Derived.Test.YtkbcplnlehdjfaaGreatOwnCh26
import Derived.Test.YtkbcplnlehdjfaaGreatOwnCh27
set_option maxRecDepth 100000
set_option maxHeartbeats 8000000

namespace Go.Proofs.YtkbcplnlehdjfaaGreat
open Go.RowKit Go.Maps
attribute [local go_sem ↓] Go.wp_at_zero Go.wp_at_succ
theorem specWithSem_any(p:PartD)(z:SemD)(w:World)(b0:Nat)(hwf:(Lit.int .i64 z.id).wf=true)(hsm:p.pure.Small)(h:PartOwn w b0 p):
  Calls Tryz.prog 35 #[.agg p.cells,.agg #[.int .i64 z.id,.int .i64 z.n,.int .i64 z.max]] w fun e w'=>TurnRes w(withR p.pure { p.pure with sems:=insF(·.id)z p.pure.sems })e w':=by
 have HB:Hid(PartBox(((w.alloc(.cells p.cells 32)).alloc(.cells #[.int .i64 z.id,.int .i64 z.n,.int .i64 z.max] 49)).alloc(.cells zero8 32))w.heap.size p∧PartOwn(((w.alloc(.cells p.cells 32)).alloc(.cells #[.int .i64 z.id,.int .i64 z.n,.int .i64 z.max] 49)).alloc(.cells zero8 32))b0 p∧Below w.heap.size w(((w.alloc(.cells p.cells 32)).alloc(.cells #[.int .i64 z.id,.int .i64 z.n,.int .i64 z.max] 49)).alloc(.cells zero8 32))∧(((w.alloc(.cells p.cells 32)).alloc(.cells #[.int .i64 z.id,.int .i64 z.n,.int .i64 z.max] 49)).alloc(.cells zero8 32)).heap[w.heap.size+1+1]? =some(.cells zero8 32(0,0))):=by
  have b1:Below w.heap.size w(((w.alloc(.cells p.cells 32)).alloc(.cells #[.int .i64 z.id,.int .i64 z.n,.int .i64 z.max] 49)).alloc(.cells zero8 32)):=alloc3_below _ _ _ _
  have h3:=alloc3_facts w(.cells p.cells 32)(.cells #[.int .i64 z.id,.int .i64 z.n,.int .i64 z.max] 49)(.cells zero8 32)
  exact⟨h3.1,h.below b1,b1,h3.2.2.1⟩
 have HX0:Hid((((w.alloc(.cells p.cells 32)).alloc(.cells #[.int .i64 z.id,.int .i64 z.n,.int .i64 z.max] 49)).alloc(.cells zero8 32)).heap[w.heap.size+1]? =some(.cells #[.int .i64 z.id,.int .i64 z.n,.int .i64 z.max] 49(0,0))):=(alloc3_facts _ _ _ _).2.1
 have HFT:Hid(p.Fit∧(∀ x∈p.procs,x.Short)∧p.pure.Small∧(Lit.int .i64 z.id).wf=true):=⟨small_fit hsm,fun x hx=>(small_proc hsm hx).1,hsm,hwf⟩
 have hpl:=HFT.out.1.short.sems
 have hcap:p.sems.length≤p.semC:=own_cap h.sems
 have hpb0: ∀ g∈p.blocks,g < w.heap.size:=fun g hg=>(h.lt g hg).2
 clear h hsm hwf
 obtain⟨m0,m1,m2,m3,m4,m5,m6,m7⟩:=HB.out.1.cells
 unfold PartD.cells at *
 go_enter Tryz.func35,Tryz.ntmps35
 go_wp2_with fail
 generalize ((w.alloc(.cells p.row 32)).alloc(.cells #[.int .i64 z.id,.int .i64 z.n,.int .i64 z.max] 49)).alloc(.cells zero8 32)=W at *
 clear m0 m1 m2 m3 m4 m5 m6 m7
 refine(l3Copy_any p W HFT.out.1 HFT.out.2.1 HB.out.2.1.at).mono ?_
 rintro e W1⟨q,rfl,hown,hpu,hb1⟩
 have hb2:Below W1.heap.size W1(W1.alloc(.cells q.cells 32)):=(Below.refl _ _).alloc(Nat.le_refl _)_
 have hlt:w.heap.size+1+1 < W.heap.size:=(Array.getElem?_eq_some_iff.1 HB.out.2.2.2).1
 have hb3:Below W.heap.size W(W1.alloc(.cells q.cells 32)):=hb1.trans(hb2.mono hb1.size)
 have hq1: ∀ g∈q.blocks,g < W1.heap.size:=fun g hg=>(hown.lt g hg).2
 have HQ:Hid(PartBox(W1.alloc(.cells q.cells 32))W1.heap.size q∧PartOwn(W1.alloc(.cells q.cells 32))W.heap.size q∧q.pure=p.pure∧(∀ g∈q.blocks,g < W1.heap.size)∧W.heap.size≤W1.heap.size∧w.heap.size+1+1 < W.heap.size∧W1.heap.size < (W1.alloc(.cells q.cells 32)).heap.size):=⟨heap_alloc_new _ _,hown.below hb2,hpu,hq1,hb1.size,hlt,by simp⟩
 replace HB:Hid(PartBox(W1.alloc(.cells q.cells 32))w.heap.size p∧PartOwn(W1.alloc(.cells q.cells 32))b0 p∧Below w.heap.size w(W1.alloc(.cells q.cells 32))∧(W1.alloc(.cells q.cells 32)).heap[w.heap.size+1+1]? =some(.cells zero8 32(0,0))):=⟨HB.out.1.below hb3,HB.out.2.1.below hb3,HB.out.2.2.1.trans(hb3.mono HB.out.2.2.1.size),(hb3.block _ hlt).trans HB.out.2.2.2⟩
 replace HX0:Hid((W1.alloc(.cells q.cells 32)).heap[w.heap.size+1]? =some(.cells #[.int .i64 z.id,.int .i64 z.n,.int .i64 z.max] 49(0,0))):=(hb3.block _(by omega)).trans HX0.out
 have HPB:Hid(∀ g∈p.blocks,g < w.heap.size):=fun g hg=>hpb0 g hg
 clear hown hpu hb1 hb2 hb3 hq1 hlt hpb0
 obtain⟨m0,m1,m2,m3,m4,m5,m6,m7⟩:=HB.out.1.cells
 unfold PartD.cells at *
 go_wp2_with fail
 generalize W1.alloc(.cells q.row 32)=W2 at *
 clear m0 m1 m2 m4 m5 m6 m7
 generalize W1.heap.size=o at *
 clear m3
 go_loopw [7] (fun i wr=> ∃ k:Nat,k≤p.sems.length∧i= .int .i64 k∧Hid(∀ y∈p.sems.take k,y.id < z.id)∧Hid(Below W2.heap.size W2 wr))(fun i _=>p.sems.length - (Go.RowKit.intOf i).toNat)
 case atStart=>exact⟨0,Nat.zero_le _,rfl,fun y hy=>by simp at hy,Below.refl _ _⟩
 case round=>
  obtain⟨k,hk,rfl,HA,HBR⟩:=hrel
  have hbr:Below W2.heap.size W2 wr.drew.drew:=HBR.out.drew.drew
  have hsz:=hbr.size
  replace HBR:Hid(Below W2.heap.size W2 wr.drew):=HBR.out.drew
  have hq:=HQ.out
  have hzl:w.heap.size+1 < W2.heap.size:=by omega
  replace HB:Hid(PartBox wr.drew.drew w.heap.size p∧PartOwn wr.drew.drew b0 p∧Below w.heap.size w wr.drew.drew∧wr.drew.drew.heap[w.heap.size+1+1]? =some(.cells zero8 32(0,0))):=⟨HB.out.1.below hbr,HB.out.2.1.below hbr,HB.out.2.2.1.trans(hbr.mono HB.out.2.2.1.size),(hbr.block _(by omega)).trans HB.out.2.2.2⟩
  replace HQ:Hid(PartBox wr.drew.drew o q∧PartOwn wr.drew.drew W.heap.size q∧q.pure=p.pure∧(∀ g∈q.blocks,g < o)∧W.heap.size≤o∧w.heap.size+1+1 < W.heap.size∧o < wr.drew.drew.heap.size):=⟨hq.1.below hbr,hq.2.1.below hbr,hq.2.2.1,hq.2.2.2.1,hq.2.2.2.2.1,hq.2.2.2.2.2.1,by omega⟩
  replace HX0:Hid(wr.drew.drew.heap[w.heap.size+1]? =some(.cells #[.int .i64 z.id,.int .i64 z.n,.int .i64 z.max] 49(0,0))):=(hbr.block _ hzl).trans HX0.out
  clear hbr hsz hq hzl
  have m:wr.drew.cell? ⟨w.heap.size,3,none⟩=some(.slice p.semA p.sems.length p.semC):=HB.out.1.cells.2.2.2.1
  have z0:wr.drew.cell? ⟨w.heap.size+1,0,none⟩=some(.int .i64 z.id):=(sem_cells(x:=z)HX0.out).1
  have i0:(0:Int)≤(k:Int):=by omega
  have icap:(k:Int)≤(p.semC:Int):=by omega
  have i2:(k:Int)≤(p.sems.length:Int):=by omega
  rcases at_ways(fun y:SemD=>y.id)z.id p.sems k with ⟨x,hx,hc,hlt⟩ | ⟨x,hx,hc,hlt⟩ | hlt
  ·have HT:Hid(∀ y∈p.sems.take(k+1),y.id < z.id):=all_up hx HA.out hc
   have i1:(k:Int) < (p.sems.length:Int):=by omega
   have d1:decide((k:Int) < (p.sems.length:Int))=true:=decide_eq_true i1
   have d2:decide(x.id < z.id)=true:=decide_eq_true hc
   obtain⟨g,ha,hat⟩:=sem_at HB.out.2.1.at.2.1 hx
   have c0:wr.drew.cell? ⟨g,k * 3,none⟩=some(.int .i64 x.id):=hat.1
   have m2:=m
   rw [ha] at m2
   clear hat hx ha hc
   clear m
   go_wp2_with fail
   refine tame_region(fun w'=>w'=wr.drew)(by kernel_rfl)rfl ?_
   iterate 16(refine yl(v:= ?_) ?_ ?_; rotate_left; (intro w0 hS0; subst hS0; go_simp; try with_reducible rfl); simp only [pt,sb,s0,s1])
   refine tame_done(by kernel_rfl) ?_ _
   intro w1 hS1
   subst hS1
   go_wp2
   go_roundw
   case rel=>exact⟨k+1,by omega,by go_num,HT.out,HBR.out⟩
   case measure=>simp [Go.RowKit.intOf]; omega
  focus
   have HX:Hid(∀ y,p.sems[k]? =some y→ ¬ y.id < z.id):=fun y hy e=>by rw [hx] at hy; cases hy; exact hc e
   have i1:(k:Int) < (p.sems.length:Int):=by omega
   have d1:decide((k:Int) < (p.sems.length:Int))=true:=decide_eq_true i1
   have d2:decide(x.id < z.id)=false:=decide_eq_false hc
   obtain⟨g,ha,hat⟩:=sem_at HB.out.2.1.at.2.1 hx
   have c0:wr.drew.cell? ⟨g,k * 3,none⟩=some(.int .i64 x.id):=hat.1
   have m2:=m
   rw [ha] at m2
   clear hat hx ha hc
   clear m
   go_wp2_with fail
   refine tame_region(fun w'=>w'=wr.drew)(by kernel_rfl)rfl ?_
   iterate 16(refine yl(v:= ?_) ?_ ?_; rotate_left; (intro w0 hS0; subst hS0; go_simp; try with_reducible rfl); simp only [pt,sb,s0,s1])
   refine tame_done(by kernel_rfl) ?_ _
   intro w1 hS1
   subst hS1
   clear i1 d1 d2 c0 m2
  rotate_left
  focus
   have HX:Hid(∀ y,p.sems[k]? =some y→ ¬ y.id < z.id):=fun y hy=>absurd(List.getElem?_eq_some_iff.1 hy).1 hlt
   have d1:decide((k:Int) < (p.sems.length:Int))=false:=decide_eq_false(by omega)
   go_wp2_with fail
   refine tame_region(fun w'=>w'=wr.drew)(by kernel_rfl)rfl ?_
   iterate 6(refine yl(v:= ?_) ?_ ?_; rotate_left; (intro w0 hS0; subst hS0; go_simp; try with_reducible rfl); simp only [pt,sb,s0,s1])
   iterate 9(refine nl ?_; simp only [pt,sb,s0,s1])
   (refine yl(v:= ?_) ?_ ?_; rotate_left; (intro w0 hS0; subst hS0; go_simp; try with_reducible rfl); simp only [pt,sb,s0,s1])
   refine tame_done(by kernel_rfl) ?_ _
   intro w1 hS1
   subst hS1
   clear d1 m
  all_goals
   clear hlt z0 HBR
   go_wp2_with fail
   refine wp_region_held_drew(S:=fun w'=>PartBox w' w.heap.size p∧w'.heap[w.heap.size+1]? =some(.cells #[.int .i64 z.id,.int .i64 z.n,.int .i64 z.max] 49(0,0)))(by kernel_rfl)⟨HB.out.1,HX0.out⟩(fun hHeld=> ?_)
   generalize wr.drew.drew=V2 at *
   refine tk 1(v:= ?_) ?_ hHeld ?_; rotate_left; (intro w0 hS0; have q0:w0.cell? ⟨w.heap.size,3,none⟩=some(.slice p.semA p.sems.length p.semC):=hS0.1.cells.2.2.2.1; obtain⟨q1,q2,q3⟩:=sem_cells(x:=z)hS0.2; go_simp; try with_reducible rfl); simp only [pt,sb,s0,s1]
   refine tk 2(v:= ?_) ?_ hHeld ?_; rotate_left; (intro w0 hS0; have q0:w0.cell? ⟨w.heap.size,3,none⟩=some(.slice p.semA p.sems.length p.semC):=hS0.1.cells.2.2.2.1; obtain⟨q1,q2,q3⟩:=sem_cells(x:=z)hS0.2; go_simp; try with_reducible rfl); simp only [pt,sb,s0,s1]
   refine tk 3(v:= ?_) ?_ hHeld ?_; rotate_left; (intro w0 hS0; have q0:w0.cell? ⟨w.heap.size,3,none⟩=some(.slice p.semA p.sems.length p.semC):=hS0.1.cells.2.2.2.1; obtain⟨q1,q2,q3⟩:=sem_cells(x:=z)hS0.2; go_simp; try with_reducible rfl); simp only [pt,sb,s0,s1]
   refine tk 4(v:= ?_) ?_ hHeld ?_; rotate_left; (intro w0 hS0; have q0:w0.cell? ⟨w.heap.size,3,none⟩=some(.slice p.semA p.sems.length p.semC):=hS0.1.cells.2.2.2.1; obtain⟨q1,q2,q3⟩:=sem_cells(x:=z)hS0.2; go_simp; try with_reducible rfl); simp only [pt,sb,s0,s1]
   refine tk 6(v:= ?_) ?_ hHeld ?_; rotate_left; (intro w0 hS0; have q0:w0.cell? ⟨w.heap.size,3,none⟩=some(.slice p.semA p.sems.length p.semC):=hS0.1.cells.2.2.2.1; obtain⟨q1,q2,q3⟩:=sem_cells(x:=z)hS0.2; go_simp; try with_reducible rfl); simp only [pt,sb,s0,s1]
   clear hHeld
   have hkl:(p.sems.take k).length=k:=by rw [List.length_take]; omega
   have hq:=HQ.out
   have hS: ∀ W,Below V2.heap.size V2 W→PartBox W w.heap.size p∧W.heap[w.heap.size+1]? =some(.cells #[.int .i64 z.id,.int .i64 z.n,.int .i64 z.max] 49(0,0)):=fun W hb=>⟨(hb.block _(by omega)).trans HB.out.1,(hb.block _(by omega)).trans HX0.out⟩
   have HAP:Hid(∀ (W:World)(g:Nat),Below V2.heap.size V2 W→W.heap[g]? =some(.cells #[] 49(0,0))→V2.heap.size≤g→ ∃ a5 c5 w5,(Builtin.append_ #[26,26] 26 #[.slice(some⟨g,0,none⟩)0 0,.slice p.semA k p.semC]).run Tryz.prog W= .ok(.slice a5 k c5)w5∧w5.ownsRow V2.heap.size 49 3(.slice a5 k c5)k(semK.flat(p.sems.take k))∧Below V2.heap.size V2 w5∧Below V2.heap.size V2 w5∧ ∀ h,V2.heap.size≤h→h≠g→h < W.heap.size→w5.heap[h]? =W.heap[h]?):=fun W g hb hg hge=>by
    obtain⟨a5,c5,w5,hap,ho5,hg5,-⟩:=more_sem W V2.heap.size(some⟨g,0,none⟩)0 [] (own_empty hg hge)p.semA(p.sems.take k)p.semC(take_src k(HB.out.2.1.below hb).at.2.1.1)(by rw [hkl]; show 0+k≤_; omega)hb.size
    rw [hkl] at hap ho5
    simp only [List.length_nil,Nat.zero_add,List.nil_append] at hap ho5
    have hb5:Below V2.heap.size V2 w5:=hb.grown hg5 hb.size fun c e=>by cases e; exact hge
    exact⟨a5,c5,w5,hap,ho5,hb5,hb5,fun h _ hn hl=>hg5.block h hl(fun e=>hn(by cases e; rfl))⟩
   have bA: ∀ (W:World)(c:Obj),Below V2.heap.size V2 W→Below V2.heap.size V2(W.alloc c):=fun W c hb=>hb.alloc hb.size _
   refine wpAnyH_ready(rs:= [0,7])(by kernel_rfl)(by simp) ?_
   refine AllReadyH.cons rfl(fun K hK=> ?_)(AllReadyH.cons rfl(fun K hK=> ?_)AllReadyH.nil)
   focus
    have b1:Below V2.heap.size V2(V2.alloc(.cells #[] 49)):=bA _ _(Below.refl _ _)
    simp only [List.getElem_toArray,List.getElem_cons_zero]
    rw [if_pos(by rfl)]
    go_wp2_with fail
    refine hK.out _ _(hS _ b1)(fun hHeld=> ?_)
    clear hK K hHeld
    try simp only [pt,sb,s0,s1]
    have b7:Below V2.heap.size V2((V2.alloc(.cells #[] 49)).alloc(.cells #[.int .i64 z.id,.int .i64 z.n,.int .i64 z.max] 49)):=bA _ _ b1
    refine wpAnyH_ready(rs:= [5,7])(by kernel_rfl)(by simp) ?_
    refine AllReadyH.cons rfl(fun K hK=> ?_)(AllReadyH.cons rfl(fun K hK=> ?_)AllReadyH.nil)
    focus
     clear b7
     obtain⟨a5,c5,w5,hap,ho5,hb5,-,-⟩:=HAP.out _ _ b1(heap_alloc_new _ _)(Nat.le_refl _)
     simp only [List.getElem_toArray,List.getElem_cons_zero,List.getElem_cons_succ]
     rw [if_pos(by rfl)]
     refine oper_append _ _ _ rfl _ _ _ w5 rfl rfl hap ?_
     refine hK.out _ _(hS _ hb5)(fun hHeld=> ?_)
     clear hK K hHeld
     try simp only [pt,sb,s0,s1]
     refine wpAnyH_ready(rs:= [7])(by kernel_rfl)(by simp) ?_
     refine AllReadyH.cons rfl(fun K hK=> ?_)AllReadyH.nil
     simp only [List.getElem_toArray,List.getElem_cons_zero,List.getElem_cons_succ]
     rw [if_pos(by rfl)]
     go_wp2_with fail
     refine hK.out _ _(hS _(bA _ _ hb5))(fun hHeld=> ?_)
     clear hK K hHeld
     try simp only [pt,sb,s0,s1]
     have HO6:Hid((w5.alloc(.cells #[.int .i64 z.id,.int .i64 z.n,.int .i64 z.max] 49)).ownsRow V2.heap.size 49 3(.slice a5 k c5)k(semK.flat(p.sems.take k))∧(w5.alloc(.cells #[.int .i64 z.id,.int .i64 z.n,.int .i64 z.max] 49)).heap[w5.heap.size]? =some(.cells #[.int .i64 z.id,.int .i64 z.n,.int .i64 z.max] 49(0,0))∧Below V2.heap.size V2(w5.alloc(.cells #[.int .i64 z.id,.int .i64 z.n,.int .i64 z.max] 49))):=⟨own_below ho5((Below.refl _ _).alloc(Nat.le_refl _)_),heap_alloc_new _ _,bA _ _ hb5⟩
     clear hap ho5 hb5 b1 bA hS
     generalize w5.alloc(.cells #[.int .i64 z.id,.int .i64 z.n,.int .i64 z.max] 49)=w6 at *
     generalize w5.heap.size=gx at *
    rotate_left
    focus
     obtain⟨a5,c5,w6,hap6,ho6,hb6,-,hk6⟩:=HAP.out _ _ b7((heap_alloc_old _ _(by simp)).trans(heap_alloc_new _ _))(Nat.le_refl _)
     simp only [List.getElem_toArray,List.getElem_cons_zero,List.getElem_cons_succ]
     rw [if_pos(by rfl)]
     go_wp2_with fail
     refine hK.out _ _(hS _ b7)(fun hHeld=> ?_)
     clear hK K hHeld
     try simp only [pt,sb,s0,s1]
     refine wpAnyH_ready(rs:= [5])(by kernel_rfl)(by simp) ?_
     refine AllReadyH.cons rfl(fun K hK=> ?_)AllReadyH.nil
     simp only [List.getElem_toArray,List.getElem_cons_zero,List.getElem_cons_succ]
     rw [if_pos(by rfl)]
     refine oper_append _ _ _ rfl _ _ _ w6 rfl rfl hap6 ?_
     refine hK.out _ _(hS _ hb6)(fun hHeld=> ?_)
     clear hK K hHeld
     try simp only [pt,sb,s0,s1]
     have HO6:Hid(w6.ownsRow V2.heap.size 49 3(.slice a5 k c5)k(semK.flat(p.sems.take k))∧w6.heap[(V2.heap.size+1)]? =some(.cells #[.int .i64 z.id,.int .i64 z.n,.int .i64 z.max] 49(0,0))∧Below V2.heap.size V2 w6):=⟨ho6,(hk6 _(by omega)(by omega)(by simp <;> omega)).trans(by have h5:=heap_alloc_new(V2.alloc(.cells #[] 49))(.cells #[.int .i64 z.id,.int .i64 z.n,.int .i64 z.max] 49); simpa using h5),hb6⟩
     clear hap6 ho6 hb6 hk6 b1 b7 bA hS
   rotate_left 2
   focus
    have b7:Below V2.heap.size V2(V2.alloc(.cells #[.int .i64 z.id,.int .i64 z.n,.int .i64 z.max] 49)):=bA _ _(Below.refl _ _)
    simp only [List.getElem_toArray,List.getElem_cons_zero,List.getElem_cons_succ]
    rw [if_pos(by rfl)]
    go_wp2_with fail
    refine hK.out _ _(hS _ b7)(fun hHeld=> ?_)
    clear hK K hHeld
    try simp only [pt,sb,s0,s1]
    have b1:Below V2.heap.size V2((V2.alloc(.cells #[.int .i64 z.id,.int .i64 z.n,.int .i64 z.max] 49)).alloc(.cells #[] 49)):=bA _ _ b7
    refine wpAnyH_ready(rs:= [0])(by kernel_rfl)(by simp) ?_
    refine AllReadyH.cons rfl(fun K hK=> ?_)AllReadyH.nil
    simp only [List.getElem_toArray,List.getElem_cons_zero]
    rw [if_pos(by rfl)]
    go_wp2_with fail
    refine hK.out _ _(hS _ b1)(fun hHeld=> ?_)
    clear hK K hHeld
    try simp only [pt,sb,s0,s1]
    obtain⟨a5,c5,w6,hap6,ho6,hb6,-,hk6⟩:=HAP.out((V2.alloc(.cells #[.int .i64 z.id,.int .i64 z.n,.int .i64 z.max] 49)).alloc(.cells #[] 49))(V2.heap.size+1)b1(heap_alloc2_new _ _ _)(by omega)
    refine wpAnyH_ready(rs:= [5])(by kernel_rfl)(by simp) ?_
    refine AllReadyH.cons rfl(fun K hK=> ?_)AllReadyH.nil
    simp only [List.getElem_toArray,List.getElem_cons_zero,List.getElem_cons_succ]
    rw [if_pos(by rfl)]
    refine oper_append _ _ _ rfl _ _ _ w6 rfl rfl hap6 ?_
    refine hK.out _ _(hS _ hb6)(fun hHeld=> ?_)
    clear hK K hHeld
    try simp only [pt,sb,s0,s1]
    have HO6:Hid(w6.ownsRow V2.heap.size 49 3(.slice a5 k c5)k(semK.flat(p.sems.take k))∧w6.heap[V2.heap.size]? =some(.cells #[.int .i64 z.id,.int .i64 z.n,.int .i64 z.max] 49(0,0))∧Below V2.heap.size V2 w6):=⟨ho6,(hk6 _(by omega)(by omega)(by simp <;> omega)).trans((heap_alloc_old _ _(by simp)).trans(heap_alloc_new _ _)),hb6⟩
    clear hap6 ho6 hb6 hk6 b1 b7 bA hS
   all_goals
    have ho6:w6.ownsRow V2.heap.size 49 3(.slice a5(p.sems.take k).length c5)(p.sems.take k).length(semK.flat(p.sems.take k)):=by rw [hkl]; exact HO6.out.1
    obtain⟨a7,c7,w7,hap2,ho7,hg7,-⟩:=more_sem w6 V2.heap.size a5 c5(p.sems.take k)ho6 _ [z] 1(src_block HO6.out.2.1)(by rw [hkl]; show k+1≤_; omega)HO6.out.2.2.size
    have hl7:(p.sems.take k ++ [z]).length=k+1:=by rw [List.length_append,hkl]; rfl
    rw [hkl] at hap2 ho7
    simp only [List.length_cons,List.length_nil,Nat.zero_add] at hap2 ho7
    have hb7:Below V2.heap.size V2 w7:=HO6.out.2.2.grown hg7 HO6.out.2.2.size fun c e=>(own_lt HO6.out.1(own_block e)).1
    have HO7:Hid(w7.ownsRow V2.heap.size 49 3(.slice a7(k+1)c7)(k+1)(semK.flat(p.sems.take k ++ [z]))∧Below V2.heap.size V2 w7∧(p.sems.take k ++ [z]).length=k+1):=⟨ho7,hb7,hl7⟩
    refine wpAnyH_ready(rs:= [8])(by kernel_rfl)(by simp) ?_
    refine AllReadyH.cons rfl(fun K hK=> ?_)AllReadyH.nil
    simp only [List.getElem_toArray,List.getElem_cons_zero,List.getElem_cons_succ]
    rw [if_pos(by rfl)]
    refine oper_append _ _ _ rfl _ _ _ w7 rfl rfl hap2 ?_
    refine hK.out _ _⟨(hb7.block _(by omega)).trans HB.out.1,(hb7.block _(by omega)).trans HX0.out⟩(fun hHeld=> ?_)
    clear hK K hHeld
    try simp only [pt,sb,s0,s1]
    have H8:Hid(((PartBox(w7.setCell⟨o,3,none⟩(.slice a7(k+1)c7))w.heap.size p∧PartOwn(w7.setCell⟨o,3,none⟩(.slice a7(k+1)c7))b0 p∧Below w.heap.size w(w7.setCell⟨o,3,none⟩(.slice a7(k+1)c7))∧(w7.setCell⟨o,3,none⟩(.slice a7(k+1)c7)).heap[w.heap.size+1+1]? =some(.cells zero8 32(0,0)))∧(w7.setCell⟨o,3,none⟩(.slice a7(k+1)c7)).heap[o]? =some(.cells #[.int .i64 q.id,.int .i64 q.next,.slice q.procA q.procs.length q.procC,.slice a7(k+1)c7,.slice q.eventA q.events.length q.eventC,.slice q.boardA q.boards.length q.boardC,.slice q.bufferA q.buffers.length q.bufferC,.slice q.portA q.ports.length q.portC] 32(0,0))∧PartOwn(w7.setCell⟨o,3,none⟩(.slice a7(k+1)c7))W.heap.size q)∧(w7.setCell⟨o,3,none⟩(.slice a7(k+1)c7)).ownsRow V2.heap.size 49 3(.slice a7(k+1)c7)(k+1)(semK.flat(p.sems.take k ++ [z]))∧V2.heap.size≤(w7.setCell⟨o,3,none⟩(.slice a7(k+1)c7)).heap.size):=by
     have hbw:Below w.heap.size w w7:=HB.out.2.2.1.trans(hb7.mono(by have:=HB.out.2.2.1.size; omega))
     refine⟨⟨⟨(setCell_other(by omega)).trans(HB.out.1.below hb7),(HB.out.2.1.below hb7).same fun g hg=>setCell_other(fun e=> ?_),below_setCell hbw(by omega),(setCell_other(by omega)).trans((hb7.block _(by omega)).trans HB.out.2.2.2)⟩,setCell_block(HQ.out.1.below hb7),(HQ.out.2.1.below hb7).same fun g hg=>setCell_other(by have:=HQ.out.2.2.2.1 g hg; omega)⟩,own_same HO7.out.1 fun g hg=>setCell_other(by have:=(own_lt HO7.out.1 hg).1; omega),?_⟩
     ·have:=HPB.out g hg; omega
     ·rw [setCell_size]; exact hb7.size
    have HX8:Hid((w7.setCell⟨o,3,none⟩(.slice a7(k+1)c7)).heap[w.heap.size+1]? =some(.cells #[.int .i64 z.id,.int .i64 z.n,.int .i64 z.max] 49(0,0))):=(setCell_other(by omega)).trans((hb7.block _(by omega)).trans HX0.out)
    obtain⟨⟨u,co⟩,fo⟩:(∃ u,w7.cell? ⟨o,3,none⟩=some u)∧w7.frozen? ⟨o,3,none⟩=false:=⟨⟨_,(HQ.out.1.below hb7).cells.2.2.2.1⟩,frozen_of_row _ _ _ _ _(HQ.out.1.below hb7)⟩
    have hS7:PartBox w7 w.heap.size p∧w7.heap[w.heap.size+1]? =some(.cells #[.int .i64 z.id,.int .i64 z.n,.int .i64 z.max] 49(0,0)):=⟨(hb7.block _(by omega)).trans HB.out.1,(hb7.block _(by omega)).trans HX0.out⟩
    clear ho6 hap2 ho7 hg7 hb7 hl7 HO6 HAP
    refine tk 9(v:= ?_) ?_ hS7 ?_; rotate_left; (intro w0 hS0; go_simp; try with_reducible rfl); simp only [pt,sb,s0,s1]
    refine wpAnyH_ready(rs:= [10])(by kernel_rfl)(by simp) ?_
    refine AllReadyH.cons rfl(fun K hK=> ?_)AllReadyH.nil
    simp only [List.getElem_toArray,List.getElem_cons_zero,List.getElem_cons_succ]
    rw [if_pos(by rfl)]
    go_wp2_with fail
    refine hK.out _ _⟨H8.out.1.1.1,HX8.out⟩(fun hHeld=> ?_)
    clear hK K hHeld
    try simp only [pt,sb,s0,s1]
    refine wpAnyH_done(by kernel_rfl) ?_ _
    clear co fo hS7 hq HX8 HX0
    go_wp2_with fail
    generalize w7.setCell⟨o,3,none⟩(.slice a7(k+1)c7)=W8 at *
    have HS:Hid(W8.cell? ⟨w.heap.size,3,none⟩=some(.slice p.semA p.sems.length p.semC)):=H8.out.1.1.1.cells.2.2.2.1
    have co8:W8.drew.cell? ⟨o,3,none⟩=some(.slice a7(k+1)c7):=by rw [cell_of_row _ _ _ _ _ _(show W8.drew.heap[o]? =_ from H8.out.1.2.1)]; rfl
    obtain⟨aS,haS⟩: ∃ aS,(if p.semC=k then p.semA else Option.map(fun x=>x.add(k * 3))p.semA)=aS:=⟨_,rfl⟩
    refine wp_region_held_drew(S:=fun w'=>w'.cell? ⟨w.heap.size,3,none⟩=some(.slice p.semA p.sems.length p.semC))(by kernel_rfl)HS.out(fun hHeld=> ?_)
    refine tk 0(v:= ?_) ?_ hHeld ?_; rotate_left; (intro w0 hS0; have hS1:=hS0; go_simp; try with_reducible rfl); simp only [pt,sb,s0,s1]
    refine tk 2(v:= ?_) ?_ hHeld ?_; rotate_left; (intro w0 hS0; have hS1:=hS0; go_simp; try with_reducible rfl); simp only [pt,sb,s0,s1]
    refine tk 3(v:= ?_) ?_ hHeld ?_; rotate_left; (intro w0 hS0; have hS1:=hS0; go_simp; try with_reducible rfl); simp only [pt,sb,s0,s1]
    refine tk 4(v:= ?_) ?_ hHeld ?_; rotate_left; (intro w0 hS0; have hS1:=hS0; go_simp; try with_reducible rfl); simp only [pt,sb,s0,s1]
    refine tk 5(v:= ?_) ?_ hHeld ?_; rotate_left; (intro w0 hS0; have hS1:=hS0; go_simp; try with_reducible rfl); simp only [pt,sb,s0,s1]
    refine wpAnyH_ready(rs:= [1])(by kernel_rfl)(by simp) ?_
    refine AllReadyH.cons rfl(fun K hK=> ?_)AllReadyH.nil
    simp only [List.getElem_toArray,List.getElem_cons_zero,List.getElem_cons_succ]
    rw [if_pos(by rfl)]
    go_wp2_with fail
    refine hK.out _ _ HS.out(fun hHeld=> ?_)
    clear hK K
    try simp only [pt,sb,s0,s1]
    have hbd:Below W8.heap.size W8 W8.drew:=(Below.refl _ _).drew
    have hl7:=HO7.out.2.2
    have hkd:(p.sems.drop k).length=p.sems.length - k:=List.length_drop
    obtain⟨a9,c9,w9,hr,ho9,hg9,-⟩:=more_sem W8.drew V2.heap.size a7 c7(p.sems.take k ++ [z])(by rw [hl7]; exact own_below H8.out.2.1 hbd)aS(p.sems.drop k)(p.semC - k)(by rw [← haS]; exact tail_src hcap(H8.out.1.1.2.1.below hbd).at.2.1.1)(by rw [hl7,hkd]; omega)H8.out.2.2
    rw [hl7,hkd] at hr ho9
    have hb9:Below V2.heap.size W8.drew w9:=(Below.refl _ _).grown(a:=W8.drew)hg9 H8.out.2.2 fun c e=>(own_lt H8.out.2.1(own_block e)).1
    have hq:=HQ.out
    have h8:=H8.out
    have hol:o < V2.heap.size:=hq.2.2.2.2.2.2
    have hwl:w.heap.size+1 < o:=by omega
    have ho10:w9.heap[o]? =some(.cells #[.int .i64 q.id,.int .i64 q.next,.slice q.procA q.procs.length q.procC,.slice a7(k+1)c7,.slice q.eventA q.events.length q.eventC,.slice q.boardA q.boards.length q.boardC,.slice q.bufferA q.buffers.length q.bufferC,.slice q.portA q.ports.length q.portC] 32(0,0)):=(hb9.block _ hol).trans h8.1.2.1
    have H9:Hid(w9.cell? ⟨w.heap.size,3,none⟩=some(.slice p.semA p.sems.length p.semC)∧(w9.setCell⟨o,3,none⟩(.slice a9(k+1+(p.sems.length - k))c9)).cell? ⟨w.heap.size,3,none⟩=some(.slice p.semA p.sems.length p.semC)):=by
     have e1:w9.cell? ⟨w.heap.size,3,none⟩=some(.slice p.semA p.sems.length p.semC):=(World.cell?_of_block(hb9.block _(by show w.heap.size < _; omega))).trans HS.out
     exact⟨e1,(World.cell?_of_block(setCell_other(by show w.heap.size≠o; omega))).trans e1⟩
    have hln:((p.sems.take k ++ [z]) ++ p.sems.drop k).length=k+1+(p.sems.length - k):=by rw [List.length_append,hl7,hkd]
    have hpu:({ q with sems:=(p.sems.take k ++ [z]) ++ p.sems.drop k,semA:=a9,semC:=c9 } :PartD).pure= { p.pure with sems:=insF(·.id)z p.pure.sems } :=by
     have e1:(p.sems.take k ++ [z]) ++ p.sems.drop k=insF(·.id)z p.pure.sems:=by
      rw [List.append_assoc]
      exact insF_at HA.out(fun y hy=>by have h5:=HX.out y hy; show ¬ y.id < z.id; omega)
     have e2:=HQ.out.2.2.1
     show ({ q.pure with sems:=(p.sems.take k ++ [z]) ++ p.sems.drop k } :PartP)=_
     rw [e1,e2]
    have H10:Hid(PartBox(w9.setCell⟨o,3,none⟩(.slice a9(k+1+(p.sems.length - k))c9))w.heap.size p∧PartOwn(w9.setCell⟨o,3,none⟩(.slice a9(k+1+(p.sems.length - k))c9))b0 p∧Below w.heap.size w(w9.setCell⟨o,3,none⟩(.slice a9(k+1+(p.sems.length - k))c9))∧(w9.setCell⟨o,3,none⟩(.slice a9(k+1+(p.sems.length - k))c9)).heap[w.heap.size+1+1]? =some(.cells zero8 32(0,0))∧PartBox(w9.setCell⟨o,3,none⟩(.slice a9(k+1+(p.sems.length - k))c9))o({ q with sems:=(p.sems.take k ++ [z]) ++ p.sems.drop k,semA:=a9,semC:=c9 } :PartD)∧PartOwn(w9.setCell⟨o,3,none⟩(.slice a9(k+1+(p.sems.length - k))c9))W.heap.size({ q with sems:=(p.sems.take k ++ [z]) ++ p.sems.drop k,semA:=a9,semC:=c9 } :PartD)∧({ q with sems:=(p.sems.take k ++ [z]) ++ p.sems.drop k,semA:=a9,semC:=c9 } :PartD).pure= { p.pure with sems:=insF(·.id)z p.pure.sems }):=by
     have hpb: ∀ g∈p.blocks,g < w.heap.size:=HPB.out
     have hqb: ∀ g∈q.blocks,g < o:=hq.2.2.2.1
     have sm: ∀ g,g < V2.heap.size→g≠o→(w9.setCell⟨o,3,none⟩(.slice a9(k+1+(p.sems.length - k))c9)).heap[g]? =W8.heap[g]? :=fun g hg hne=>(setCell_other hne).trans(hb9.block _ hg)
     have hbw:Below w.heap.size w(w9.setCell⟨o,3,none⟩(.slice a9(k+1+(p.sems.length - k))c9)):=below_setCell(h8.1.1.2.2.1.drew.trans(hb9.mono(by omega)))(by omega)
     refine⟨(sm _(by omega)(by omega)).trans h8.1.1.1,h8.1.1.2.1.same fun g hg=>sm g(by have:=hpb g hg; omega)(by have:=hpb g hg; omega),hbw,(sm _(by omega)(by omega)).trans h8.1.1.2.2.2,?_,?_,hpu⟩
     ·have h5:=setCell_block(i:=3)(v:= .slice a9(k+1+(p.sems.length - k))c9)ho10
      unfold PartBox
      simp only [hln]
      exact h5
     ·refine h8.1.2.2.newSem(B:=V2.heap.size)(by omega)(fun g hg=>by have:=hqb g hg; omega)(fun g hg=>sm g(by have:=hqb g hg; omega)(by have:=hqb g hg; omega)) ?_
      rw [hln]
      exact own_same ho9 fun g hg=>setCell_other(by have:=(own_lt ho9 hg).1; omega)
    refine wpAnyH_ready(rs:= [6])(by kernel_rfl)(by simp) ?_
    refine AllReadyH.cons rfl(fun K hK=> ?_)AllReadyH.nil
    simp only [List.getElem_toArray,List.getElem_cons_zero,List.getElem_cons_succ]
    rw [if_pos(by rfl)]
    refine oper_append _ _ _ rfl _ _ _ w9 rfl rfl hr ?_
    refine hK.out _ _ H9.out.1(fun hHeld=> ?_)
    clear hK K
    try simp only [pt,sb,s0,s1]
    obtain⟨⟨u,co⟩,fo⟩:(∃ u,w9.cell? ⟨o,3,none⟩=some u)∧w9.frozen? ⟨o,3,none⟩=false:=⟨⟨_,by rw [cell_of_row _ _ _ _ _ _ ho10]; rfl⟩,frozen_of_row _ _ _ _ _ ho10⟩
    clear hr ho9 hg9 hb9 hq h8 hol hwl ho10 hbd
    refine tk 7(v:= ?_) ?_ hHeld ?_; rotate_left; (intro w0 hS0; have hS1:=hS0; go_simp; try with_reducible rfl); simp only [pt,sb,s0,s1]
    refine wpAnyH_ready(rs:= [8])(by kernel_rfl)(by simp) ?_
    refine AllReadyH.cons rfl(fun K hK=> ?_)AllReadyH.nil
    simp only [List.getElem_toArray,List.getElem_cons_zero,List.getElem_cons_succ]
    rw [if_pos(by rfl)]
    go_wp2_with fail
    refine hK.out _ _ H9.out.2(fun hHeld=> ?_)
    clear hK K
    try simp only [pt,sb,s0,s1]
    refine wpAnyH_done(by kernel_rfl) ?_ _
    clear hHeld co fo H9 HS co8
    generalize w9.setCell⟨o,3,none⟩(.slice a9(k+1+(p.sems.length - k))c9)=W10 at *
    have hcall:=l3Checked_any p({ q with sems:=(p.sems.take k ++ [z]) ++ p.sems.drop k,semA:=a9,semC:=c9 } :PartD)W10⟨HFT.out.1,HFT.out.2.1,H10.out.2.1.at⟩(fun hr=>by
     have h5:PartP.Small({ q with sems:=(p.sems.take k ++ [z]) ++ p.sems.drop k,semA:=a9,semC:=c9 } :PartD).pure:=by rw [H10.out.2.2.2.2.2.2]; exact insSem_small HFT.out.2.2.1 hr HFT.out.2.2.2
     exact⟨small_fit h5,fun x hx=>(small_proc h5 hx).1,H10.out.2.2.2.2.2.1.at⟩)
    obtain⟨m0,m1,m2,m3,m4,m5,m6,m7⟩:=H10.out.1.cells
    obtain⟨k0,k1,k2,k3,k4,k5,k6,k7⟩:=H10.out.2.2.2.2.1.cells
    unfold PartD.cells at hcall
    simp only [hln] at hcall k0 k1 k2 k3 k4 k5 k6 k7
    have HLN:Hid(((p.sems.take k ++ [z]) ++ p.sems.drop k).length=k+1+(p.sems.length - k)):=hln
    clear hln hl7 hkd haS hpu
    go_wp2_with fail
    refine hcall.mono ?_
    clear hcall m0 m1 m2 m3 m4 m5 m6 m7 k0 k1 k2 k3 k4 k5 k6 k7
    rintro e w11⟨hb11,hok⟩
    have hq:=HQ.out.2.2.2.2
    have HZ:Hid(Below w.heap.size w w11∧w11.heap[w.heap.size+1+1]? =some(.cells zero8 32(0,0))∧PartOwn w11 W.heap.size({ q with sems:=(p.sems.take k ++ [z]) ++ p.sems.drop k,semA:=a9,semC:=c9 } :PartD)∧w.heap.size+1+1 < W.heap.size):=⟨H10.out.2.2.1.trans(hb11.mono H10.out.2.2.1.size),(hb11.block _(Array.getElem?_eq_some_iff.1 H10.out.2.2.2.1).1).trans H10.out.2.2.2.1,H10.out.2.2.2.2.2.1.below hb11,hq.2.1⟩
    clear hb11 hq
    rw [H10.out.2.2.2.2.2.2] at hok
    rcases hok with ⟨hok,rfl⟩ | ⟨hok,rfl⟩
    ·have HN:Hid(withR p.pure { p.pure with sems:=insF(·.id)z p.pure.sems } =some { p.pure with sems:=insF(·.id)z p.pure.sems }):=withR_ok hok
     clear hok
     go_wp2_with (refine stP 4 49(w.heap.size+1+1) #[.int .i64 q.id,.int .i64 q.next,.slice q.procA q.procs.length q.procC,.slice a9(k+1+(p.sems.length - k))c9,.slice q.eventA q.events.length q.eventC,.slice q.boardA q.boards.length q.boardC,.slice q.bufferA q.buffers.length q.bufferC,.slice q.portA q.ports.length q.portC] HZ.out.2.1 ?_)
     refine rtQ Tryz.results35(w.heap.size+1+1) #[.int .i64 q.id,.int .i64 q.next,.slice q.procA q.procs.length q.procC,.slice a9(k+1+(p.sems.length - k))c9,.slice q.eventA q.events.length q.eventC,.slice q.boardA q.boards.length q.boardC,.slice q.bufferA q.buffers.length q.bufferC,.slice q.portA q.ports.length q.portC] (.bool true)HZ.out.2.1 ?_
     have hl:=HZ.out.2.2.2
     rw [HN.out]
     refine⟨({ q with sems:=(p.sems.take k ++ [z]) ++ p.sems.drop k,semA:=a9,semC:=c9 } :PartD),by unfold PartD.cells; simp only [HLN.out]; rfl,(HZ.out.2.2.1.lower(by omega)).same fun g hg=>setRow_other _ _ _ _(by have:=(HZ.out.2.2.1.lt g hg).1; omega),H10.out.2.2.2.2.2.2,below_setRow HZ.out.1(by omega)_⟩
    ·have HN:Hid(withR p.pure { p.pure with sems:=insF(·.id)z p.pure.sems } =none):=withR_bad hok
     clear hok
     go_wp2_with (refine stP 4 49(w.heap.size+1+1)zero8 HZ.out.2.1 ?_)
     refine rtQ Tryz.results35(w.heap.size+1+1)zero8(.bool false)HZ.out.2.1 ?_
     exact turnRes_no HN.out(below_setRow HZ.out.1(by omega)_)
end Go.Proofs.YtkbcplnlehdjfaaGreat

namespace Go.Proofs.YtkbcplnlehdjfaaGreat
open Go.RowKit Go.Maps
section
variable {α:Type} {num:α→Int}
theorem insG_map {β:Type} {num':β→Int} (f:α→β)(hf: ∀ y,num'(f y)=num y)(x:α): ∀ l:List α,(insG num x l).map f=insG num'(f x)(l.map f)
 | [] =>rfl
 | y :: r=>by
  simp only [insG,List.map_cons,hf]
  split
  ·simp
  ·simp [insG_map f hf x r]
theorem insG_all {x:α} : ∀ {l:List α},(∀ y∈l,¬ num x < num y)→insG num x l=l ++ [x]
 | [],_=>rfl
 | y :: r,h=>by
  simp only [insG,if_neg(h y(by simp)),List.cons_append]
  rw [insG_all fun z hz=>h z(by simp [hz])]
theorem insG_more {x:α} : ∀ {l r:List α},(∃ y∈l,num x < num y)→insG num x(l ++ r)=insG num x l ++ r
 | [],_,h=>by obtain⟨y,hy,_⟩:=h; cases hy
 | y :: l,r,h=>by
  simp only [List.cons_append,insG]
  split
  ·rfl
  ·rename_i hn
   rw [insG_more,List.cons_append]
   obtain⟨z,hz,hlt⟩:=h
   rcases List.mem_cons.1 hz with rfl | hz
   ·exact absurd hlt hn
   ·exact⟨z,hz,hlt⟩
theorem insG_first {x y:α} {l:List α} (h: ∀ z∈l,¬ num x < num z)(hy:num x < num y):insG num x(l ++ [y])=l ++ [x] ++ [y] :=by
 induction l with
 | nil=>simp [insG,hy]
 | cons z r ih=>
  simp only [List.cons_append,insG,if_neg(h z(by simp))]
  rw [ih fun u hu=>h u(by simp [hu])]
theorem insG_perm(x:α): ∀ l:List α,(insG num x l).Perm(x :: l)
 | [] =>List.Perm.refl _
 | y :: r=>by
  simp only [insG]
  split
  ·exact List.Perm.refl _
  ·exact(List.Perm.cons y(insG_perm x r)).trans(List.Perm.swap x y r)
def AccIs(num:α→Int)(x:α)(l:List α)(k:Nat)(dn:Bool)(acc:List α):Prop:=
 (dn=false∧acc=l.take k∧ ∀ y∈l.take k,¬ num x < num y)∨(dn=true∧acc=insG num x(l.take k)∧ ∃ y∈l.take k,num x < num y)
theorem AccIs.start(x:α)(l:List α):AccIs num x l 0 false [] := .inl⟨rfl,by simp,fun y hy=>by simp at hy⟩
theorem AccIs.on {x y:α} {l:List α} {k:Nat} {acc:List α} (h:AccIs num x l k true acc)(hy:l[k]? =some y):AccIs num x l(k+1)true(acc ++ [y]):=by
 rcases h with ⟨h,-⟩ | ⟨-,rfl,z,hz,hlt⟩
 ·cases h
 ·rw [AccIs,take_up hy]
  exact .inr⟨rfl,(insG_more⟨z,hz,hlt⟩).symm,z,List.mem_append_left _ hz,hlt⟩
theorem AccIs.past {x y:α} {l:List α} {k:Nat} {acc:List α} (h:AccIs num x l k false acc)(hy:l[k]? =some y)(hn: ¬ num x < num y):AccIs num x l(k+1)false(acc ++ [y]):=by
 rcases h with ⟨-,rfl,h⟩ | ⟨h,-⟩
 ·rw [AccIs,take_up hy]
  refine .inl⟨rfl,rfl,fun z hz=> ?_⟩
  rcases List.mem_append.1 hz with hz | hz
  ·exact h z hz
  ·rw [List.mem_singleton.1 hz]; exact hn
 ·cases h
theorem AccIs.here {x y:α} {l:List α} {k:Nat} {acc:List α} (h:AccIs num x l k false acc)(hy:l[k]? =some y)(hn:num x < num y):AccIs num x l(k+1)true(acc ++ [x] ++ [y]):=by
 rcases h with ⟨-,rfl,h⟩ | ⟨h,-⟩
 ·rw [AccIs,take_up hy]
  exact .inr⟨rfl,(insG_first h hn).symm,y,by simp,hn⟩
 ·cases h
theorem AccIs.done {x:α} {l:List α} {k:Nat} {acc:List α} (h:AccIs num x l k true acc)(hk: ¬ k < l.length):acc=insG num x l:=by
 rcases h with ⟨h,-⟩ | ⟨-,rfl,-⟩
 ·cases h
 ·rw [List.take_of_length_le(by omega)]
theorem AccIs.last {x:α} {l:List α} {k:Nat} {acc:List α} (h:AccIs num x l k false acc)(hk: ¬ k < l.length):acc ++ [x] =insG num x l:=by
 rcases h with ⟨-,rfl,h⟩ | ⟨h,-⟩
 ·rw [List.take_of_length_le(by omega)] at h ⊢
  exact(insG_all h).symm
 ·cases h
theorem AccIs.le {x:α} {l:List α} {k:Nat} {dn:Bool} {acc:List α} (h:AccIs num x l k dn acc):acc.length≤l.length+1:=by
 rcases h with ⟨-,rfl,-⟩ | ⟨-,rfl,-⟩
 ·rw [List.length_take]; omega
 ·rw [insG_length,List.length_take]; omega
end
structure ListIn {α:Type} (K:Kind α)(T:TypeId)(XV:Array Value)(W w:World)(acc:List α)(a:Option Addr)(c:Nat):Prop where
 own:w.ownsRow W.heap.size T K.n(.slice a acc.length c)acc.length(K.flat acc)
 ne: ∀ g∈blk a,g≠W.heap.size+1
 bel:Below W.heap.size W w
 box:w.heap[W.heap.size+1]? =some(.cells XV T(0,0))
theorem ListIn.start {α:Type} {K:Kind α} {T:TypeId} {XV:Array Value} {W:World} :ListIn K T XV W((W.alloc(.cells #[] T)).alloc(.cells XV T)) [] (some⟨W.heap.size,0,none⟩)0:=by
 have b1:Below W.heap.size W(W.alloc(.cells #[] T)):=(Below.refl _ _).alloc(Nat.le_refl _)_
 refine⟨own_empty((heap_alloc_old _ _(by simp)).trans(heap_alloc_new _ _))(Nat.le_refl _),fun g hg=>by simp [blk] at hg; omega,b1.alloc b1.size _,heap_alloc2_new _ _ _⟩
theorem ListIn.add {α:Type} {K:Kind α} {T:TypeId} {XV:Array Value} {W w:World} {acc:List α} {a:Option Addr} {c:Nat} (h:ListIn K T XV W w acc a c)(t:TypeId)(bytes:Nat) {z0:Value} {P:Program} (ht:P.underlying t=some(.slice T))
  (hi:(P.info? T).map(fun i=>(i.zero,i.size,i.bytes))=some(some z0,K.n,bytes))(hz:z0.cells.size=K.n)(hn:0 < K.n)(hby:bytes≤1000)(z:α)(zs:Array Value)(hzs:zs.toList=K.vals z)(h1: ∀ u∈K.vals z,u.oneCell'=true)(hl:acc.length≤2000000):
  ∃ a' c' w',(Builtin.append_ #[t,t] t #[.slice a acc.length c,.slice(some⟨w.heap.size,0,none⟩)1 1]).run P(w.alloc(.cells zs T))= .ok(.slice a'(acc.length+1)c')w'∧ListIn K T XV W w'(acc ++ [z])a' c':=by
 obtain⟨i,hi,e⟩:=Option.map_eq_some_iff.1 hi
 simp only [Prod.mk.injEq] at e
 have b1:Below w.heap.size w(w.alloc(.cells zs T)):=(Below.refl _ _).alloc(Nat.le_refl _)_
 have b2:=h.bel.trans(b1.mono h.bel.size)
 have hlt:=(Array.getElem?_eq_some_iff.1 h.box).1
 obtain⟨a',c',w',hr,ho,hg,hq⟩:=append_more(P:=P)(w.alloc(.cells zs T))W.heap.size t t T i z0 K.n bytes ht hi e.1 e.2.1 e.2.2 hz hn a acc.length c _(own_below h.own b1)(some⟨w.heap.size,0,none⟩)1 1(K.vals z)(by rw [← hzs]; exact src_block(heap_alloc_new _ _))(by rw [K.len,Nat.one_mul])h1(by omega)hby b2.size
 refine⟨a',c',w',hr,⟨?_,fun g hg2=> ?_,b2.grown hg b2.size fun k e=>(own_lt h.own(own_block e)).1,?_⟩⟩
 ·have e1:(acc ++ [z]).length=acc.length+1:=by simp
  rw [e1,K.flat_append]
  have e2:K.flat [z] =K.vals z:=by simp [Kind.flat]
  rw [e2]
  exact ho
 ·rcases hq g hg2 with h5 | h5
  ·exact h.ne g h5
  ·rw [h5]; have:=b1.size; omega
 ·refine(hg.block _(by simp; omega)(fun e=> ?_)).trans((b1.block _ hlt).trans h.box)
  exact h.ne _(own_block e.symm)rfl
theorem nodup_swap2 {Z A A' C C' R:List Nat} (h:(Z ++ (A ++ (C ++ R))).Nodup)(hA:A'.Nodup)(hC:C'.Nodup)(h1: ∀ g∈A',g∉Z ++ (A ++ (C ++ R))∧g∉C')(h2: ∀ g∈C',g∈C∨g∉Z ++ (A ++ (C ++ R))):(Z ++ (A' ++ (C' ++ R))).Nodup:=by
 simp only [List.mem_append,not_or] at h1 h2
 simp only [List.nodup_append,List.mem_append] at h ⊢
 obtain⟨hz,⟨-,⟨-,hR,hCR⟩,-⟩,hzz⟩:=h
 refine⟨hz,⟨hA,⟨hC,hR,fun a ha b hb e=> ?_⟩,fun a ha b hb e=> ?_⟩,fun a ha b hb e=> ?_⟩
 ·rcases h2 a ha with h5 | h5
  ·exact hCR a h5 b hb e
  ·exact h5.2.2.2(e ▸ hb)
 ·rcases hb with hb | hb
  ·exact(h1 a ha).2(e ▸ hb)
  ·exact(h1 a ha).1.2.2.2(e ▸ hb)
 ·rcases hb with hb | hb | hb
  ·exact(h1 b hb).1.1(e ▸ ha)
  ·rcases h2 b hb with h5 | h5
   ·exact hzz a ha b(.inr(.inl h5))e
   ·exact h5.1(e ▸ ha)
  ·exact hzz a ha b(.inr(.inr hb))e
theorem one_proc {x:ProcD} : ∀ u∈procK.vals x,u.oneCell'=true:=fun u hu=>by
 simp only [procK,procVals,List.mem_cons,List.not_mem_nil,or_false] at hu
 rcases hu with rfl | rfl | rfl | rfl | rfl | rfl | rfl | rfl | rfl | rfl | rfl | rfl <;> rfl
theorem PartOwn.newProc {w w':World} {base B:Nat} {q:PartD} {l:List ProcD} {a':Option Addr} {c':Nat} (h:PartOwn w base q)(hb:base≤B)(hB: ∀ g∈q.blocks,g < B)(hs: ∀ g∈q.blocks,w'.heap[g]? =w.heap[g]?)
  (ho:w'.ownsRow B 43 12(.slice a' l.length c')l.length(procK.flat l))(hm: ∀ x∈l,procN.Mine w' base x)(hn:(l.filterMap procN.kid).Nodup)(hk: ∀ g∈l.filterMap procN.kid,g∈q.procs.filterMap procN.kid∨g∉q.blocks)(hk2: ∀ g∈l.filterMap procN.kid,g < B):PartOwn w' base({ q with procs:=l,procA:=a',procC:=c' } :PartD):=by
 refine⟨own_low ho hb,own_same h.sems fun g hg=>hs g(by simp [PartD.blocks,hg]),own_same h.events fun g hg=>hs g(by simp [PartD.blocks,hg]),own_same h.boards fun g hg=>hs g(by simp [PartD.blocks,hg]),own_same h.buffers fun g hg=>hs g(by simp [PartD.blocks,hg]),own_same h.ports fun g hg=>hs g(by simp [PartD.blocks,hg]),hm,fun x hx=>(h.mineF x hx).same fun g hg=>hs g ?_,fun x hx=>(h.mineQ x hx).same fun g hg=>hs g ?_,?_⟩
 ·simp only [PartD.blocks,List.mem_append,List.mem_filterMap]
  exact .inr(.inr(.inr(.inr(.inr(.inr(.inl⟨x,hx,hg⟩))))))
 ·simp only [PartD.blocks,List.mem_append,List.mem_filterMap]
  exact .inr(.inr(.inr(.inr(.inr(.inr(.inr(.inr⟨x,hx,hg⟩)))))))
 ·have h5:=h.nodup
  have h6: ∀ g∈blk a',g∉q.blocks∧g∉l.filterMap procN.kid:=fun g hg=>⟨fun hm=>by have:=(own_lt ho hg).1; have:=hB g hm; omega,fun hm=>by have:=(own_lt ho hg).1; have:=hk2 g hm; omega⟩
  have e1:({ q with procs:=l,procA:=a',procC:=c' } :PartD).blocks=([] :List Nat) ++ (blk a' ++ (l.filterMap procN.kid ++ (blk q.semA ++ (blk q.eventA ++ (blk q.boardA ++ (blk q.bufferA ++ (q.buffers.filterMap bufferN.kid ++ (blk q.portA ++ (q.ports.filterMap portN.kid))))))))):=by simp [PartD.blocks]
  have e3:q.blocks=([] :List Nat) ++ (blk q.procA ++ (q.procs.filterMap procN.kid ++ (blk q.semA ++ (blk q.eventA ++ (blk q.boardA ++ (blk q.bufferA ++ (q.buffers.filterMap bufferN.kid ++ (blk q.portA ++ (q.ports.filterMap portN.kid))))))))):=by simp [PartD.blocks]
  rw [e1]
  rw [e3] at h5 h6 hk
  exact nodup_swap2 h5(blk_nodup _)hn h6 hk
theorem one_buffer {x:BufferD} : ∀ u∈bufferK.vals x,u.oneCell'=true:=fun u hu=>by
 simp only [bufferK,bufferVals,List.mem_cons,List.not_mem_nil,or_false] at hu
 rcases hu with rfl | rfl | rfl <;> rfl
theorem PartOwn.newBuffer {w w':World} {base B:Nat} {q:PartD} {l:List BufferD} {a':Option Addr} {c':Nat} (h:PartOwn w base q)(hb:base≤B)(hB: ∀ g∈q.blocks,g < B)(hs: ∀ g∈q.blocks,w'.heap[g]? =w.heap[g]?)
  (ho:w'.ownsRow B 144 3(.slice a' l.length c')l.length(bufferK.flat l))(hm: ∀ x∈l,bufferN.Mine w' base x)(hn:(l.filterMap bufferN.kid).Nodup)(hk: ∀ g∈l.filterMap bufferN.kid,g∈q.buffers.filterMap bufferN.kid∨g∉q.blocks)(hk2: ∀ g∈l.filterMap bufferN.kid,g < B):PartOwn w' base({ q with buffers:=l,bufferA:=a',bufferC:=c' } :PartD):=by
 refine⟨own_same h.procs fun g hg=>hs g(by simp [PartD.blocks,hg]),own_same h.sems fun g hg=>hs g(by simp [PartD.blocks,hg]),own_same h.events fun g hg=>hs g(by simp [PartD.blocks,hg]),own_same h.boards fun g hg=>hs g(by simp [PartD.blocks,hg]),own_low ho hb,own_same h.ports fun g hg=>hs g(by simp [PartD.blocks,hg]),fun x hx=>(h.mineP x hx).same fun g hg=>hs g ?_,hm,fun x hx=>(h.mineQ x hx).same fun g hg=>hs g ?_,?_⟩
 ·simp only [PartD.blocks,List.mem_append,List.mem_filterMap]
  exact .inr(.inl⟨x,hx,hg⟩)
 ·simp only [PartD.blocks,List.mem_append,List.mem_filterMap]
  exact .inr(.inr(.inr(.inr(.inr(.inr(.inr(.inr⟨x,hx,hg⟩)))))))
 ·have h5:=h.nodup
  have h6: ∀ g∈blk a',g∉q.blocks∧g∉l.filterMap bufferN.kid:=fun g hg=>⟨fun hm=>by have:=(own_lt ho hg).1; have:=hB g hm; omega,fun hm=>by have:=(own_lt ho hg).1; have:=hk2 g hm; omega⟩
  have e1:({ q with buffers:=l,bufferA:=a',bufferC:=c' } :PartD).blocks=(blk q.procA ++ (q.procs.filterMap procN.kid ++ (blk q.semA ++ (blk q.eventA ++ (blk q.boardA))))) ++ (blk a' ++ (l.filterMap bufferN.kid ++ (blk q.portA ++ (q.ports.filterMap portN.kid)))):=by simp [PartD.blocks]
  have e3:q.blocks=(blk q.procA ++ (q.procs.filterMap procN.kid ++ (blk q.semA ++ (blk q.eventA ++ (blk q.boardA))))) ++ (blk q.bufferA ++ (q.buffers.filterMap bufferN.kid ++ (blk q.portA ++ (q.ports.filterMap portN.kid)))):=by simp [PartD.blocks]
  rw [e1]
  rw [e3] at h5 h6 hk
  exact nodup_swap2 h5(blk_nodup _)hn h6 hk
theorem one_port {x:PortD} : ∀ u∈portK.vals x,u.oneCell'=true:=fun u hu=>by
 simp only [portK,portVals,List.mem_cons,List.not_mem_nil,or_false] at hu
 rcases hu with rfl | rfl | rfl | rfl | rfl <;> rfl
theorem PartOwn.newPort {w w':World} {base B:Nat} {q:PartD} {l:List PortD} {a':Option Addr} {c':Nat} (h:PartOwn w base q)(hb:base≤B)(hB: ∀ g∈q.blocks,g < B)(hs: ∀ g∈q.blocks,w'.heap[g]? =w.heap[g]?)
  (ho:w'.ownsRow B 61 5(.slice a' l.length c')l.length(portK.flat l))(hm: ∀ x∈l,portN.Mine w' base x)(hn:(l.filterMap portN.kid).Nodup)(hk: ∀ g∈l.filterMap portN.kid,g∈q.ports.filterMap portN.kid∨g∉q.blocks)(hk2: ∀ g∈l.filterMap portN.kid,g < B):PartOwn w' base({ q with ports:=l,portA:=a',portC:=c' } :PartD):=by
 refine⟨own_same h.procs fun g hg=>hs g(by simp [PartD.blocks,hg]),own_same h.sems fun g hg=>hs g(by simp [PartD.blocks,hg]),own_same h.events fun g hg=>hs g(by simp [PartD.blocks,hg]),own_same h.boards fun g hg=>hs g(by simp [PartD.blocks,hg]),own_same h.buffers fun g hg=>hs g(by simp [PartD.blocks,hg]),own_low ho hb,fun x hx=>(h.mineP x hx).same fun g hg=>hs g ?_,fun x hx=>(h.mineF x hx).same fun g hg=>hs g ?_,hm,?_⟩
 ·simp only [PartD.blocks,List.mem_append,List.mem_filterMap]
  exact .inr(.inl⟨x,hx,hg⟩)
 ·simp only [PartD.blocks,List.mem_append,List.mem_filterMap]
  exact .inr(.inr(.inr(.inr(.inr(.inr(.inl⟨x,hx,hg⟩))))))
 ·have h5:=h.nodup
  have h6: ∀ g∈blk a',g∉q.blocks∧g∉l.filterMap portN.kid:=fun g hg=>⟨fun hm=>by have:=(own_lt ho hg).1; have:=hB g hm; omega,fun hm=>by have:=(own_lt ho hg).1; have:=hk2 g hm; omega⟩
  have e1:({ q with ports:=l,portA:=a',portC:=c' } :PartD).blocks=(blk q.procA ++ (q.procs.filterMap procN.kid ++ (blk q.semA ++ (blk q.eventA ++ (blk q.boardA ++ (blk q.bufferA ++ (q.buffers.filterMap bufferN.kid))))))) ++ (blk a' ++ (l.filterMap portN.kid ++ ([] :List Nat))):=by simp [PartD.blocks]
  have e3:q.blocks=(blk q.procA ++ (q.procs.filterMap procN.kid ++ (blk q.semA ++ (blk q.eventA ++ (blk q.boardA ++ (blk q.bufferA ++ (q.buffers.filterMap bufferN.kid))))))) ++ (blk q.portA ++ (q.ports.filterMap portN.kid ++ ([] :List Nat))):=by simp [PartD.blocks]
  rw [e1]
  rw [e3] at h5 h6 hk
  exact nodup_swap2 h5(blk_nodup _)hn h6 hk
end Go.Proofs.YtkbcplnlehdjfaaGreat

namespace Go.Proofs.YtkbcplnlehdjfaaGreat
open Go Go.RowKit
theorem pn(a:Act)(v:Value):a.put none v=a:=rfl
def BoxAt(cs:Array Value)(T:TypeId)(X:Nat)(W:World):Prop:=W.heap[X]? =some(.cells cs T(0,0))
section
variable {cs:Array Value} {T:TypeId} {X:Nat} {W W':World} {bs:List Nat}
theorem BoxAt.lt(h:BoxAt cs T X W):X < W.heap.size:=(Array.getElem?_eq_some_iff.1 h).1
theorem BoxAt.below(h:BoxAt cs T X W)(hb:Below W.heap.size W W'):BoxAt cs T X W':=(hb.block _ h.lt).trans h
theorem BoxAt.kept(h:BoxAt cs T X W)(hk:KeptBut W W' bs)(hs:X∉bs):BoxAt cs T X W':=(hk.same _ h.lt hs).trans h
end
theorem ga {α : Type} {l : List α} {i : Nat} (h : i < l.toArray.size) : l.toArray[i]'h = l[i]'(by simpa using h) := by simp
theorem gs {α : Type} {a : α} {l : List α} {i : Nat} (h : i + 1 < (a :: l).length) : (a :: l)[i + 1]'h = l[i]'(Nat.lt_of_succ_lt_succ h) := rfl
section
variable {p q:PartD} {w W U V:World} {B X b:Nat} {cs:Array Value} {T:TypeId} {Y:Prop}
end
end Go.Proofs.YtkbcplnlehdjfaaGreat
