/- What the proof leans on, part 8: LySem, LyEvent. -/
import Derived.Test.YtkbcplnlehdjfaaGreatOwnCh1
import Derived.Test.YtkbcplnlehdjfaaGreatOwnCh6
set_option maxRecDepth 100000
set_option maxHeartbeats 8000000

namespace Go.Proofs.YtkbcplnlehdjfaaGreat
open Go.RowKit
attribute [local go_sem ↓] Go.wp_at_zero Go.wp_at_succ
def LaySSem(w:World)(b:Nat)(m:MapL)(most:Int)(x:SemD)(w':World):Prop:=(w'.cell? ⟨w.heap.size,0,none⟩=some(.int .i64 most)∧w'.cell? ⟨w.heap.size,1,none⟩=some(.map(some b))∧(∀ ty,(Builtin.len_ #[111] ty #[.map(some b)]).run Tryz.prog w'= .ok(.int .i64(m.length:Int))w')∧w'.cell? ⟨w.heap.size+1,0,none⟩=some(.int .i64 x.id)∧w'.cell? ⟨w.heap.size+1,1,none⟩=some(.int .i64 x.n)∧w'.cell? ⟨w.heap.size+1,2,none⟩=some(.int .i64 x.max))∧Hid(LayIn w w' w.heap.size(w.heap.size+1)b m most(semVs x)49 113)∧Hid(SemFit w' x)
theorem laySSem_of {w w':World} {b:Nat} {m:MapL} {most:Int} {x:SemD} (h:LayIn w w' w.heap.size(w.heap.size+1)b m most(semVs x)49 113)(hf:SemFit w' x):LaySSem w b m most x w':=
 ⟨⟨h.cells.1,h.cells.2,fun ty=>h.mp.len Tryz.underlying111 ty,sem_cells h.bx⟩,h,hf⟩
theorem laySem_any(most:Int)(b:Nat)(m:MapL)(x:SemD)(w:World)(h:MapIs w b m)(hw:(Lit.int .i64 x.id).wf=true)(hm:m.length≤1048576)(hf:SemFit w x):
  Calls Tryz.prog 89 #[.agg #[.int .i64 most,.map(some b)],.agg(semVs x)] w fun e w'=>LayEnds w b m(layB most m x.id(semB x))x.id(semVs x)49 e w':=by
 have HF:Hid(LayIn w((w.alloc(.cells #[.int .i64 most,.map(some b)] 113)).alloc(.cells(semVs x)49))w.heap.size(w.heap.size+1)b m most(semVs x)49 113):=LayIn.start w h most _ _ _
 have HW:Hid((Lit.int .i64 x.id).wf=true∧ ¬ w.heap.size+1=b∧m.length≤1048576):=⟨hw,by have:=h.lt; omega,hm⟩
 have HI:Hid(SemFit((w.alloc(.cells #[.int .i64 most,.map(some b)] 113)).alloc(.cells(semVs x)49))x):=hf.below((((Below.refl _ w).alloc(Nat.le_refl _)_)).alloc(by simp)_)
 have hmn:=meth_numberSem
 have hmr:=meth_rightSem
 obtain⟨s0,s1⟩:=HF.out.cells
 obtain⟨c0,c1,c2⟩:=sem_cells HF.out.bx
 clear h hw hf hm
 unfold semVs at *
 go_enter Tryz.func89,Tryz.ntmps89
 go_wp2_with fail
 clear s0 s1 c0 c1 c2
 obtain⟨vA,hA⟩: ∃ v,(lookM m x.id).isSome=v:=⟨_,rfl⟩
 obtain⟨vB,hBd⟩: ∃ v,decide(most≤(m.length:Int))=v:=⟨_,rfl⟩
 obtain⟨vC,hC⟩: ∃ v,inB x.id 1 1000=v:=⟨_,rfl⟩
 obtain⟨vD,hD⟩: ∃ v,semB x=v:=⟨_,rfl⟩
 have HL:Hid(layB most m x.id(semB x)=(!vA && !vB && vC && vD)∧(vA=false→lookM m x.id=none)):=⟨layB_of hA hBd hC hD,fun e=>Option.isNone_iff_eq_none.1(Option.isSome_eq_false_iff.1(hA.trans e))⟩
 have HA:Hid(Ending.returned(.bool(lookM m x.id).isSome)= .returned(.bool vA)):=ret_bool hA
 have HC:Hid(Ending.returned(.bool(inB x.id 1 1000))= .returned(.bool vC)):=ret_bool hC
 have HD:Hid(Ending.returned(.bool(semB x))= .returned(.bool vD)):=ret_bool hD
 clear hA hC hD
 refine tame_region(LaySSem w b m most x)(by kernel_rfl)(laySSem_of HF.out.drew(HI.out.below(Below.refl _ _).drew)) ?_
 iterate 3(refine yl(v:= ?_) ?_ ?_; rotate_left; (intro w0 hS0; obtain⟨⟨q0,q1,q2,q3,q4,q5⟩,hH⟩:=hS0; go_simp; try with_reducible rfl); simp only [pt,sb,s0,s1])
 (refine cl(.int .i64 x.id)294 #[.agg #[.int .i64 x.id,.int .i64 x.n,.int .i64 x.max]] ?_ ?_ ?_; (intro w0 hS0; obtain⟨⟨q0,q1,q2,q3,q4,q5⟩,hH⟩:=hS0; go_simp; try with_reducible rfl); (intro w0 hS0; refine(numberSem_any x w0).mono ?_; rintro e w2⟨rfl,hb2⟩; exact⟨rfl,laySSem_of(hS0.2.1.out.below hb2)(hS0.2.2.out.below hb2)⟩); simp only [pt,sb,s0,s1])
 (refine cl(.bool vA)175 #[.agg #[.int .i64 most,.map(some b)],.int .i64 x.id] ?_ ?_ ?_; (intro w0 hS0; obtain⟨⟨q0,q1,q2,q3,q4,q5⟩,hH⟩:=hS0; go_simp; try with_reducible rfl); (intro w0 hS0; refine(hasSem_any most b m x.id w0 hS0.2.1.out.mp HW.out.1).mono ?_; rintro e w2⟨rfl,hb2⟩; exact⟨HA.out,laySSem_of(hS0.2.1.out.below hb2)(hS0.2.2.out.below hb2)⟩); simp only [pt,sb,s0,s1])
 (refine yl(v:= ?_) ?_ ?_; rotate_left; (intro w0 hS0; obtain⟨⟨q0,q1,q2,q3,q4,q5⟩,hH⟩:=hS0; go_simp; try with_reducible rfl); simp only [pt,sb,s0,s1])
 rcases vA.eq_false_or_eq_true with rfl | rfl
 focus iterate 6(refine nl ?_; simp only [pt,sb,s0,s1])
 rotate_left
 focus iterate 6(refine yl(v:= ?_) ?_ ?_; rotate_left; (intro w0 hS0; obtain⟨⟨q0,q1,q2,q3,q4,q5⟩,hH⟩:=hS0; go_simp; try with_reducible rfl); simp only [pt,sb,s0,s1])
 all_goals iterate 2(refine yl(v:= ?_) ?_ ?_; rotate_left; (intro w0 hS0; obtain⟨⟨q0,q1,q2,q3,q4,q5⟩,hH⟩:=hS0; go_simp; try with_reducible rfl); simp only [pt,sb,s0,s1])
 rcases vB.eq_false_or_eq_true with rfl | rfl
 focus iterate 5(refine nl ?_; simp only [pt,sb,s0,s1])
 rotate_left
 focus
  iterate 2(refine yl(v:= ?_) ?_ ?_; rotate_left; (intro w0 hS0; obtain⟨⟨q0,q1,q2,q3,q4,q5⟩,hH⟩:=hS0; go_simp; try with_reducible rfl); simp only [pt,sb,s0,s1])
  (refine cl(.int .i64 x.id)294 #[.agg #[.int .i64 x.id,.int .i64 x.n,.int .i64 x.max]] ?_ ?_ ?_; (intro w0 hS0; obtain⟨⟨q0,q1,q2,q3,q4,q5⟩,hH⟩:=hS0; go_simp; try with_reducible rfl); (intro w0 hS0; refine(numberSem_any x w0).mono ?_; rintro e w2⟨rfl,hb2⟩; exact⟨rfl,laySSem_of(hS0.2.1.out.below hb2)(hS0.2.2.out.below hb2)⟩); simp only [pt,sb,s0,s1])
  (refine cl(.bool vC)164 #[.int .i64 x.id] ?_ ?_ ?_; (intro w0 hS0; obtain⟨⟨q0,q1,q2,q3,q4,q5⟩,hH⟩:=hS0; go_simp; try with_reducible rfl); (intro w0 hS0; refine(isNumber_any x.id w0).mono ?_; rintro e w2⟨rfl,rfl⟩; exact⟨HC.out,hS0⟩); simp only [pt,sb,s0,s1])
  (refine yl(v:= ?_) ?_ ?_; rotate_left; (intro w0 hS0; obtain⟨⟨q0,q1,q2,q3,q4,q5⟩,hH⟩:=hS0; go_simp; try with_reducible rfl); simp only [pt,sb,s0,s1])
 rotate_left
 focus iterate 5(refine nl ?_; simp only [pt,sb,s0,s1])
 all_goals iterate 2(refine yl(v:= ?_) ?_ ?_; rotate_left; (intro w0 hS0; obtain⟨⟨q0,q1,q2,q3,q4,q5⟩,hH⟩:=hS0; go_simp; try with_reducible rfl); simp only [pt,sb,s0,s1])
 rotate_right
 rcases vC.eq_false_or_eq_true with rfl | rfl
 focus
  iterate 2(refine yl(v:= ?_) ?_ ?_; rotate_left; (intro w0 hS0; obtain⟨⟨q0,q1,q2,q3,q4,q5⟩,hH⟩:=hS0; go_simp; try with_reducible rfl); simp only [pt,sb,s0,s1])
  (refine cl(.bool vD)295 #[.agg #[.int .i64 x.id,.int .i64 x.n,.int .i64 x.max]] ?_ ?_ ?_; (intro w0 hS0; obtain⟨⟨q0,q1,q2,q3,q4,q5⟩,hH⟩:=hS0; go_simp; try with_reducible rfl); (intro w0 hS0; refine(rightSem_any x w0 hS0.2.2.out).mono ?_; rintro e w2⟨rfl,hb2⟩; exact⟨HD.out,laySSem_of(hS0.2.1.out.below hb2)(hS0.2.2.out.below hb2)⟩); simp only [pt,sb,s0,s1])
  (refine yl(v:= ?_) ?_ ?_; rotate_left; (intro w0 hS0; obtain⟨⟨q0,q1,q2,q3,q4,q5⟩,hH⟩:=hS0; go_simp; try with_reducible rfl); simp only [pt,sb,s0,s1])
 rotate_left
 focus iterate 4(refine nl ?_; simp only [pt,sb,s0,s1])
 rotate_left
 focus iterate 4(refine nl ?_; simp only [pt,sb,s0,s1])
 rotate_left
 focus iterate 4(refine nl ?_; simp only [pt,sb,s0,s1])
 rotate_left
 all_goals (refine yl(v:= ?_) ?_ ?_; rotate_left; (intro w0 hS0; obtain⟨⟨q0,q1,q2,q3,q4,q5⟩,hH⟩:=hS0; go_simp; try with_reducible rfl); simp only [pt,sb,s0,s1])
 all_goals refine tame_done(by kernel_rfl) ?_ _
 all_goals intro w1 hS1
 rcases vD.eq_false_or_eq_true with rfl | rfl
 rotate_left
 iterate 4
  go_wp2
  go_ret
  exact layEnds_no HL.out.1 hS1.2.1.out.bel
 go_wp2_with fail
 refine last_region(LaySSem w b m most x)5(by kernel_rfl)(laySSem_of hS1.2.1.out.drew(hS1.2.2.out.below(Below.refl _ _).drew)) ?_
 iterate 4(refine ly 6(v:= ?_)(some _)rfl rfl(by kernel_rfl)(fun _ _ _ h=>h)(does_yield(by kernel_rfl) ?_) ?_; rotate_left; (intro w0 hS0; obtain⟨⟨q0,q1,q2,q3,q4,q5⟩,hH⟩:=hS0; go_simp; try with_reducible rfl); simp only [pt,sb,s0,s1])
 refine ly 6(v:= .int .i64 x.id)(some _)rfl rfl(by kernel_rfl)(fun _ _ _ h=>h)(does_call(f:=294)(args:= #[.agg #[.int .i64 x.id,.int .i64 x.n,.int .i64 x.max]])(by kernel_rfl) ?_ ?_) ?_
 ·intro w0 hS0
  obtain⟨⟨q0,q1,q2,q3,q4,q5⟩,hH⟩:=hS0
  go_simp
  try with_reducible rfl
 ·intro w0 hS0
  refine(numberSem_any x w0).mono ?_
  rintro e w2⟨rfl,hb2⟩
  exact⟨rfl,laySSem_of(hS0.2.1.out.below hb2)(hS0.2.2.out.below hb2)⟩
 simp only [pt,sb,s0,s1]
 refine last_done rfl(by kernel_rfl)(by kernel_rfl)(by kernel_rfl) ?_
 intro w1 hS1
 obtain⟨w2,hput,hend⟩:=hS1.2.1.out.put(by omega)Tryz.underlying111 HW.out.1(HL.out.2(by trivial))HW.out.2.2 HW.out.2.1
 have HE:Hid(LayEnds w b m true x.id(semVs x)49(.returned(.bool true))w2):=hend
 clear hend hS1
 go_simp
 go_wp2
 go_ret
 rw [HL.out.1]
 exact HE.out
end Go.Proofs.YtkbcplnlehdjfaaGreat

namespace Go.Proofs.YtkbcplnlehdjfaaGreat
open Go.RowKit
attribute [local go_sem ↓] Go.wp_at_zero Go.wp_at_succ
def LaySEvent(w:World)(b:Nat)(m:MapL)(most:Int)(x:EventD)(w':World):Prop:=(w'.cell? ⟨w.heap.size,0,none⟩=some(.int .i64 most)∧w'.cell? ⟨w.heap.size,1,none⟩=some(.map(some b))∧(∀ ty,(Builtin.len_ #[114] ty #[.map(some b)]).run Tryz.prog w'= .ok(.int .i64(m.length:Int))w')∧w'.cell? ⟨w.heap.size+1,0,none⟩=some(.int .i64 x.id)∧w'.cell? ⟨w.heap.size+1,1,none⟩=some(.bool x.up))∧Hid(LayIn w w' w.heap.size(w.heap.size+1)b m most(eventVs x)138 116)∧Hid(EventFit w' x)
theorem laySEvent_of {w w':World} {b:Nat} {m:MapL} {most:Int} {x:EventD} (h:LayIn w w' w.heap.size(w.heap.size+1)b m most(eventVs x)138 116)(hf:EventFit w' x):LaySEvent w b m most x w':=
 ⟨⟨h.cells.1,h.cells.2,fun ty=>h.mp.len Tryz.underlying114 ty,event_cells h.bx⟩,h,hf⟩
theorem layEvent_any(most:Int)(b:Nat)(m:MapL)(x:EventD)(w:World)(h:MapIs w b m)(hw:(Lit.int .i64 x.id).wf=true)(hm:m.length≤1048576)(hf:EventFit w x):
  Calls Tryz.prog 90 #[.agg #[.int .i64 most,.map(some b)],.agg(eventVs x)] w fun e w'=>LayEnds w b m(layB most m x.id(eventB x))x.id(eventVs x)138 e w':=by
 have HF:Hid(LayIn w((w.alloc(.cells #[.int .i64 most,.map(some b)] 116)).alloc(.cells(eventVs x)138))w.heap.size(w.heap.size+1)b m most(eventVs x)138 116):=LayIn.start w h most _ _ _
 have HW:Hid((Lit.int .i64 x.id).wf=true∧ ¬ w.heap.size+1=b∧m.length≤1048576):=⟨hw,by have:=h.lt; omega,hm⟩
 have HI:Hid(EventFit((w.alloc(.cells #[.int .i64 most,.map(some b)] 116)).alloc(.cells(eventVs x)138))x):=hf.below((((Below.refl _ w).alloc(Nat.le_refl _)_)).alloc(by simp)_)
 have hmn:=meth_numberEvent
 have hmr:=meth_rightEvent
 obtain⟨s0,s1⟩:=HF.out.cells
 obtain⟨c0,c1⟩:=event_cells HF.out.bx
 clear h hw hf hm
 unfold eventVs at *
 go_enter Tryz.func90,Tryz.ntmps90
 go_wp2_with fail
 clear s0 s1 c0 c1
 obtain⟨vA,hA⟩: ∃ v,(lookM m x.id).isSome=v:=⟨_,rfl⟩
 obtain⟨vB,hBd⟩: ∃ v,decide(most≤(m.length:Int))=v:=⟨_,rfl⟩
 obtain⟨vC,hC⟩: ∃ v,inB x.id 1 1000=v:=⟨_,rfl⟩
 obtain⟨vD,hD⟩: ∃ v,eventB x=v:=⟨_,rfl⟩
 have HL:Hid(layB most m x.id(eventB x)=(!vA && !vB && vC && vD)∧(vA=false→lookM m x.id=none)):=⟨layB_of hA hBd hC hD,fun e=>Option.isNone_iff_eq_none.1(Option.isSome_eq_false_iff.1(hA.trans e))⟩
 have HA:Hid(Ending.returned(.bool(lookM m x.id).isSome)= .returned(.bool vA)):=ret_bool hA
 have HC:Hid(Ending.returned(.bool(inB x.id 1 1000))= .returned(.bool vC)):=ret_bool hC
 have HD:Hid(Ending.returned(.bool(eventB x))= .returned(.bool vD)):=ret_bool hD
 clear hA hC hD
 refine tame_region(LaySEvent w b m most x)(by kernel_rfl)(laySEvent_of HF.out.drew(HI.out.below(Below.refl _ _).drew)) ?_
 iterate 3(refine yl(v:= ?_) ?_ ?_; rotate_left; (intro w0 hS0; obtain⟨⟨q0,q1,q2,q3,q4⟩,hH⟩:=hS0; go_simp; try with_reducible rfl); simp only [pt,sb,s0,s1])
 (refine cl(.int .i64 x.id)307 #[.agg #[.int .i64 x.id,.bool x.up]] ?_ ?_ ?_; (intro w0 hS0; obtain⟨⟨q0,q1,q2,q3,q4⟩,hH⟩:=hS0; go_simp; try with_reducible rfl); (intro w0 hS0; refine(numberEvent_any x w0).mono ?_; rintro e w2⟨rfl,hb2⟩; exact⟨rfl,laySEvent_of(hS0.2.1.out.below hb2)(hS0.2.2.out.below hb2)⟩); simp only [pt,sb,s0,s1])
 (refine cl(.bool vA)176 #[.agg #[.int .i64 most,.map(some b)],.int .i64 x.id] ?_ ?_ ?_; (intro w0 hS0; obtain⟨⟨q0,q1,q2,q3,q4⟩,hH⟩:=hS0; go_simp; try with_reducible rfl); (intro w0 hS0; refine(hasEvent_any most b m x.id w0 hS0.2.1.out.mp HW.out.1).mono ?_; rintro e w2⟨rfl,hb2⟩; exact⟨HA.out,laySEvent_of(hS0.2.1.out.below hb2)(hS0.2.2.out.below hb2)⟩); simp only [pt,sb,s0,s1])
 (refine yl(v:= ?_) ?_ ?_; rotate_left; (intro w0 hS0; obtain⟨⟨q0,q1,q2,q3,q4⟩,hH⟩:=hS0; go_simp; try with_reducible rfl); simp only [pt,sb,s0,s1])
 rcases vA.eq_false_or_eq_true with rfl | rfl
 focus iterate 6(refine nl ?_; simp only [pt,sb,s0,s1])
 rotate_left
 focus iterate 6(refine yl(v:= ?_) ?_ ?_; rotate_left; (intro w0 hS0; obtain⟨⟨q0,q1,q2,q3,q4⟩,hH⟩:=hS0; go_simp; try with_reducible rfl); simp only [pt,sb,s0,s1])
 all_goals iterate 2(refine yl(v:= ?_) ?_ ?_; rotate_left; (intro w0 hS0; obtain⟨⟨q0,q1,q2,q3,q4⟩,hH⟩:=hS0; go_simp; try with_reducible rfl); simp only [pt,sb,s0,s1])
 rcases vB.eq_false_or_eq_true with rfl | rfl
 focus iterate 5(refine nl ?_; simp only [pt,sb,s0,s1])
 rotate_left
 focus
  iterate 2(refine yl(v:= ?_) ?_ ?_; rotate_left; (intro w0 hS0; obtain⟨⟨q0,q1,q2,q3,q4⟩,hH⟩:=hS0; go_simp; try with_reducible rfl); simp only [pt,sb,s0,s1])
  (refine cl(.int .i64 x.id)307 #[.agg #[.int .i64 x.id,.bool x.up]] ?_ ?_ ?_; (intro w0 hS0; obtain⟨⟨q0,q1,q2,q3,q4⟩,hH⟩:=hS0; go_simp; try with_reducible rfl); (intro w0 hS0; refine(numberEvent_any x w0).mono ?_; rintro e w2⟨rfl,hb2⟩; exact⟨rfl,laySEvent_of(hS0.2.1.out.below hb2)(hS0.2.2.out.below hb2)⟩); simp only [pt,sb,s0,s1])
  (refine cl(.bool vC)164 #[.int .i64 x.id] ?_ ?_ ?_; (intro w0 hS0; obtain⟨⟨q0,q1,q2,q3,q4⟩,hH⟩:=hS0; go_simp; try with_reducible rfl); (intro w0 hS0; refine(isNumber_any x.id w0).mono ?_; rintro e w2⟨rfl,rfl⟩; exact⟨HC.out,hS0⟩); simp only [pt,sb,s0,s1])
  (refine yl(v:= ?_) ?_ ?_; rotate_left; (intro w0 hS0; obtain⟨⟨q0,q1,q2,q3,q4⟩,hH⟩:=hS0; go_simp; try with_reducible rfl); simp only [pt,sb,s0,s1])
 rotate_left
 focus iterate 5(refine nl ?_; simp only [pt,sb,s0,s1])
 all_goals iterate 2(refine yl(v:= ?_) ?_ ?_; rotate_left; (intro w0 hS0; obtain⟨⟨q0,q1,q2,q3,q4⟩,hH⟩:=hS0; go_simp; try with_reducible rfl); simp only [pt,sb,s0,s1])
 rotate_right
 rcases vC.eq_false_or_eq_true with rfl | rfl
 focus
  iterate 2(refine yl(v:= ?_) ?_ ?_; rotate_left; (intro w0 hS0; obtain⟨⟨q0,q1,q2,q3,q4⟩,hH⟩:=hS0; go_simp; try with_reducible rfl); simp only [pt,sb,s0,s1])
  (refine cl(.bool vD)308 #[.agg #[.int .i64 x.id,.bool x.up]] ?_ ?_ ?_; (intro w0 hS0; obtain⟨⟨q0,q1,q2,q3,q4⟩,hH⟩:=hS0; go_simp; try with_reducible rfl); (intro w0 hS0; refine(rightEvent_any x w0 hS0.2.2.out).mono ?_; rintro e w2⟨rfl,hb2⟩; exact⟨HD.out,laySEvent_of(hS0.2.1.out.below hb2)(hS0.2.2.out.below hb2)⟩); simp only [pt,sb,s0,s1])
  (refine yl(v:= ?_) ?_ ?_; rotate_left; (intro w0 hS0; obtain⟨⟨q0,q1,q2,q3,q4⟩,hH⟩:=hS0; go_simp; try with_reducible rfl); simp only [pt,sb,s0,s1])
 rotate_left
 focus iterate 4(refine nl ?_; simp only [pt,sb,s0,s1])
 rotate_left
 focus iterate 4(refine nl ?_; simp only [pt,sb,s0,s1])
 rotate_left
 focus iterate 4(refine nl ?_; simp only [pt,sb,s0,s1])
 rotate_left
 all_goals (refine yl(v:= ?_) ?_ ?_; rotate_left; (intro w0 hS0; obtain⟨⟨q0,q1,q2,q3,q4⟩,hH⟩:=hS0; go_simp; try with_reducible rfl); simp only [pt,sb,s0,s1])
 all_goals refine tame_done(by kernel_rfl) ?_ _
 all_goals intro w1 hS1
 rcases vD.eq_false_or_eq_true with rfl | rfl
 rotate_left
 iterate 4
  go_wp2
  go_ret
  exact layEnds_no HL.out.1 hS1.2.1.out.bel
 go_wp2_with fail
 refine last_region(LaySEvent w b m most x)5(by kernel_rfl)(laySEvent_of hS1.2.1.out.drew(hS1.2.2.out.below(Below.refl _ _).drew)) ?_
 iterate 4(refine ly 6(v:= ?_)(some _)rfl rfl(by kernel_rfl)(fun _ _ _ h=>h)(does_yield(by kernel_rfl) ?_) ?_; rotate_left; (intro w0 hS0; obtain⟨⟨q0,q1,q2,q3,q4⟩,hH⟩:=hS0; go_simp; try with_reducible rfl); simp only [pt,sb,s0,s1])
 refine ly 6(v:= .int .i64 x.id)(some _)rfl rfl(by kernel_rfl)(fun _ _ _ h=>h)(does_call(f:=307)(args:= #[.agg #[.int .i64 x.id,.bool x.up]])(by kernel_rfl) ?_ ?_) ?_
 ·intro w0 hS0
  obtain⟨⟨q0,q1,q2,q3,q4⟩,hH⟩:=hS0
  go_simp
  try with_reducible rfl
 ·intro w0 hS0
  refine(numberEvent_any x w0).mono ?_
  rintro e w2⟨rfl,hb2⟩
  exact⟨rfl,laySEvent_of(hS0.2.1.out.below hb2)(hS0.2.2.out.below hb2)⟩
 simp only [pt,sb,s0,s1]
 refine last_done rfl(by kernel_rfl)(by kernel_rfl)(by kernel_rfl) ?_
 intro w1 hS1
 obtain⟨w2,hput,hend⟩:=hS1.2.1.out.put(by omega)Tryz.underlying114 HW.out.1(HL.out.2(by trivial))HW.out.2.2 HW.out.2.1
 have HE:Hid(LayEnds w b m true x.id(eventVs x)138(.returned(.bool true))w2):=hend
 clear hend hS1
 go_simp
 go_wp2
 go_ret
 rw [HL.out.1]
 exact HE.out
end Go.Proofs.YtkbcplnlehdjfaaGreat
