/- What the proof leans on, part 12: LyProc. -/
import Derived.Test.YtkbcplnlehdjfaaGreatOwnCh1
import Derived.Test.YtkbcplnlehdjfaaGreatOwnCh6
import Derived.Test.YtkbcplnlehdjfaaGreatOwnCh10
set_option maxRecDepth 100000
set_option maxHeartbeats 8000000

namespace Go.Proofs.YtkbcplnlehdjfaaGreat
open Go.RowKit
attribute [local go_sem ↓] Go.wp_at_zero Go.wp_at_succ
def LaySProc(w:World)(b:Nat)(m:MapL)(most:Int)(x:ProcD)(w':World):Prop:=(w'.cell? ⟨w.heap.size,0,none⟩=some(.int .i64 most)∧w'.cell? ⟨w.heap.size,1,none⟩=some(.map(some b))∧(∀ ty,(Builtin.len_ #[108] ty #[.map(some b)]).run Tryz.prog w'= .ok(.int .i64(m.length:Int))w')∧w'.cell? ⟨w.heap.size+1,0,none⟩=some(.int .i64 x.id)∧w'.cell? ⟨w.heap.size+1,1,none⟩=some(.int .i64 x.prio)∧w'.cell? ⟨w.heap.size+1,2,none⟩=some(.slice x.progA x.prog.length x.progC)∧w'.cell? ⟨w.heap.size+1,3,none⟩=some(.int .i64 x.state)∧w'.cell? ⟨w.heap.size+1,4,none⟩=some(.int .i64 x.pc)∧w'.cell? ⟨w.heap.size+1,5,none⟩=some(.int .i64 x.left)∧w'.cell? ⟨w.heap.size+1,6,none⟩=some(.int .i64 x.wake)∧w'.cell? ⟨w.heap.size+1,7,none⟩=some(.int .i64 x.on)∧w'.cell? ⟨w.heap.size+1,8,none⟩=some(.string x.held)∧w'.cell? ⟨w.heap.size+1,9,none⟩=some(.string x.got)∧w'.cell? ⟨w.heap.size+1,10,none⟩=some(.int .i64 x.code)∧w'.cell? ⟨w.heap.size+1,11,none⟩=some(.int .i64 x.since))∧Hid(LayIn w w' w.heap.size(w.heap.size+1)b m most(procVs x)43 110)∧Hid(ProcFit w' x)
theorem laySProc_of {w w':World} {b:Nat} {m:MapL} {most:Int} {x:ProcD} (h:LayIn w w' w.heap.size(w.heap.size+1)b m most(procVs x)43 110)(hf:ProcFit w' x):LaySProc w b m most x w':=
 ⟨⟨h.cells.1,h.cells.2,fun ty=>h.mp.len Tryz.underlying108 ty,proc_cells h.bx⟩,h,hf⟩
theorem layProc_any(most:Int)(b:Nat)(m:MapL)(x:ProcD)(w:World)(h:MapIs w b m)(hw:(Lit.int .i64 x.id).wf=true)(hm:m.length≤1048576)(hf:ProcFit w x):
  Calls Tryz.prog 84 #[.agg #[.int .i64 most,.map(some b)],.agg(procVs x)] w fun e w'=>LayEnds w b m(layB most m x.id(procB x.toProcP))x.id(procVs x)43 e w':=by
 have HF:Hid(LayIn w((w.alloc(.cells #[.int .i64 most,.map(some b)] 110)).alloc(.cells(procVs x)43))w.heap.size(w.heap.size+1)b m most(procVs x)43 110):=LayIn.start w h most _ _ _
 have HW:Hid((Lit.int .i64 x.id).wf=true∧ ¬ w.heap.size+1=b∧m.length≤1048576):=⟨hw,by have:=h.lt; omega,hm⟩
 have HI:Hid(ProcFit((w.alloc(.cells #[.int .i64 most,.map(some b)] 110)).alloc(.cells(procVs x)43))x):=hf.below((((Below.refl _ w).alloc(Nat.le_refl _)_)).alloc(by simp)_)
 have hmn:=meth_numberProc
 have hmr:=meth_rightProc
 obtain⟨s0,s1⟩:=HF.out.cells
 obtain⟨c0,c1,c2,c3,c4,c5,c6,c7,c8,c9,c10,c11⟩:=proc_cells HF.out.bx
 clear h hw hf hm
 unfold procVs at *
 go_enter Tryz.func84,Tryz.ntmps84
 go_wp2_with fail
 clear s0 s1 c0 c1 c2 c3 c4 c5 c6 c7 c8 c9 c10 c11
 obtain⟨vA,hA⟩: ∃ v,(lookM m x.id).isSome=v:=⟨_,rfl⟩
 obtain⟨vB,hBd⟩: ∃ v,decide(most≤(m.length:Int))=v:=⟨_,rfl⟩
 obtain⟨vC,hC⟩: ∃ v,inB x.id 1 1000=v:=⟨_,rfl⟩
 obtain⟨vD,hD⟩: ∃ v,procB x.toProcP=v:=⟨_,rfl⟩
 have HL:Hid(layB most m x.id(procB x.toProcP)=(!vA && !vB && vC && vD)∧(vA=false→lookM m x.id=none)):=⟨layB_of hA hBd hC hD,fun e=>Option.isNone_iff_eq_none.1(Option.isSome_eq_false_iff.1(hA.trans e))⟩
 have HA:Hid(Ending.returned(.bool(lookM m x.id).isSome)= .returned(.bool vA)):=ret_bool hA
 have HC:Hid(Ending.returned(.bool(inB x.id 1 1000))= .returned(.bool vC)):=ret_bool hC
 have HD:Hid(Ending.returned(.bool(procB x.toProcP))= .returned(.bool vD)):=ret_bool hD
 clear hA hC hD
 refine tame_region(LaySProc w b m most x)(by kernel_rfl)(laySProc_of HF.out.drew(HI.out.below(Below.refl _ _).drew)) ?_
 iterate 3(refine yl(v:= ?_) ?_ ?_; rotate_left; (intro w0 hS0; obtain⟨⟨q0,q1,q2,q3,q4,q5,q6,q7,q8,q9,q10,q11,q12,q13,q14⟩,hH⟩:=hS0; go_simp; try with_reducible rfl); simp only [pt,sb,s0,s1])
 (refine cl(.int .i64 x.id)282 #[.agg x.row] ?_ ?_ ?_; (intro w0 hS0; obtain⟨⟨q0,q1,q2,q3,q4,q5,q6,q7,q8,q9,q10,q11,q12,q13,q14⟩,hH⟩:=hS0; go_simp; try with_reducible rfl); (intro w0 hS0; refine(numberProc_any x w0).mono ?_; rintro e w2⟨rfl,hb2⟩; exact⟨rfl,laySProc_of(hS0.2.1.out.below hb2)(hS0.2.2.out.below hb2)⟩); simp only [pt,sb,s0,s1])
 (refine cl(.bool vA)163 #[.agg #[.int .i64 most,.map(some b)],.int .i64 x.id] ?_ ?_ ?_; (intro w0 hS0; obtain⟨⟨q0,q1,q2,q3,q4,q5,q6,q7,q8,q9,q10,q11,q12,q13,q14⟩,hH⟩:=hS0; go_simp; try with_reducible rfl); (intro w0 hS0; refine(hasProc_any most b m x.id w0 hS0.2.1.out.mp HW.out.1).mono ?_; rintro e w2⟨rfl,hb2⟩; exact⟨HA.out,laySProc_of(hS0.2.1.out.below hb2)(hS0.2.2.out.below hb2)⟩); simp only [pt,sb,s0,s1])
 (refine yl(v:= ?_) ?_ ?_; rotate_left; (intro w0 hS0; obtain⟨⟨q0,q1,q2,q3,q4,q5,q6,q7,q8,q9,q10,q11,q12,q13,q14⟩,hH⟩:=hS0; go_simp; try with_reducible rfl); simp only [pt,sb,s0,s1])
 rcases vA.eq_false_or_eq_true with rfl | rfl
 focus iterate 6(refine nl ?_; simp only [pt,sb,s0,s1])
 rotate_left
 focus iterate 6(refine yl(v:= ?_) ?_ ?_; rotate_left; (intro w0 hS0; obtain⟨⟨q0,q1,q2,q3,q4,q5,q6,q7,q8,q9,q10,q11,q12,q13,q14⟩,hH⟩:=hS0; go_simp; try with_reducible rfl); simp only [pt,sb,s0,s1])
 all_goals iterate 2(refine yl(v:= ?_) ?_ ?_; rotate_left; (intro w0 hS0; obtain⟨⟨q0,q1,q2,q3,q4,q5,q6,q7,q8,q9,q10,q11,q12,q13,q14⟩,hH⟩:=hS0; go_simp; try with_reducible rfl); simp only [pt,sb,s0,s1])
 rcases vB.eq_false_or_eq_true with rfl | rfl
 focus iterate 5(refine nl ?_; simp only [pt,sb,s0,s1])
 rotate_left
 focus
  iterate 2(refine yl(v:= ?_) ?_ ?_; rotate_left; (intro w0 hS0; obtain⟨⟨q0,q1,q2,q3,q4,q5,q6,q7,q8,q9,q10,q11,q12,q13,q14⟩,hH⟩:=hS0; go_simp; try with_reducible rfl); simp only [pt,sb,s0,s1])
  (refine cl(.int .i64 x.id)282 #[.agg x.row] ?_ ?_ ?_; (intro w0 hS0; obtain⟨⟨q0,q1,q2,q3,q4,q5,q6,q7,q8,q9,q10,q11,q12,q13,q14⟩,hH⟩:=hS0; go_simp; try with_reducible rfl); (intro w0 hS0; refine(numberProc_any x w0).mono ?_; rintro e w2⟨rfl,hb2⟩; exact⟨rfl,laySProc_of(hS0.2.1.out.below hb2)(hS0.2.2.out.below hb2)⟩); simp only [pt,sb,s0,s1])
  (refine cl(.bool vC)164 #[.int .i64 x.id] ?_ ?_ ?_; (intro w0 hS0; obtain⟨⟨q0,q1,q2,q3,q4,q5,q6,q7,q8,q9,q10,q11,q12,q13,q14⟩,hH⟩:=hS0; go_simp; try with_reducible rfl); (intro w0 hS0; refine(isNumber_any x.id w0).mono ?_; rintro e w2⟨rfl,rfl⟩; exact⟨HC.out,hS0⟩); simp only [pt,sb,s0,s1])
  (refine yl(v:= ?_) ?_ ?_; rotate_left; (intro w0 hS0; obtain⟨⟨q0,q1,q2,q3,q4,q5,q6,q7,q8,q9,q10,q11,q12,q13,q14⟩,hH⟩:=hS0; go_simp; try with_reducible rfl); simp only [pt,sb,s0,s1])
 rotate_left
 focus iterate 5(refine nl ?_; simp only [pt,sb,s0,s1])
 all_goals iterate 2(refine yl(v:= ?_) ?_ ?_; rotate_left; (intro w0 hS0; obtain⟨⟨q0,q1,q2,q3,q4,q5,q6,q7,q8,q9,q10,q11,q12,q13,q14⟩,hH⟩:=hS0; go_simp; try with_reducible rfl); simp only [pt,sb,s0,s1])
 rotate_right
 rcases vC.eq_false_or_eq_true with rfl | rfl
 focus
  iterate 2(refine yl(v:= ?_) ?_ ?_; rotate_left; (intro w0 hS0; obtain⟨⟨q0,q1,q2,q3,q4,q5,q6,q7,q8,q9,q10,q11,q12,q13,q14⟩,hH⟩:=hS0; go_simp; try with_reducible rfl); simp only [pt,sb,s0,s1])
  (refine cl(.bool vD)283 #[.agg x.row] ?_ ?_ ?_; (intro w0 hS0; obtain⟨⟨q0,q1,q2,q3,q4,q5,q6,q7,q8,q9,q10,q11,q12,q13,q14⟩,hH⟩:=hS0; go_simp; try with_reducible rfl); (intro w0 hS0; refine(rightProc_any x w0 hS0.2.2.out).mono ?_; rintro e w2⟨rfl,hb2⟩; exact⟨HD.out,laySProc_of(hS0.2.1.out.below hb2)(hS0.2.2.out.below hb2)⟩); simp only [pt,sb,s0,s1])
  (refine yl(v:= ?_) ?_ ?_; rotate_left; (intro w0 hS0; obtain⟨⟨q0,q1,q2,q3,q4,q5,q6,q7,q8,q9,q10,q11,q12,q13,q14⟩,hH⟩:=hS0; go_simp; try with_reducible rfl); simp only [pt,sb,s0,s1])
 rotate_left
 focus iterate 4(refine nl ?_; simp only [pt,sb,s0,s1])
 rotate_left
 focus iterate 4(refine nl ?_; simp only [pt,sb,s0,s1])
 rotate_left
 focus iterate 4(refine nl ?_; simp only [pt,sb,s0,s1])
 rotate_left
 all_goals (refine yl(v:= ?_) ?_ ?_; rotate_left; (intro w0 hS0; obtain⟨⟨q0,q1,q2,q3,q4,q5,q6,q7,q8,q9,q10,q11,q12,q13,q14⟩,hH⟩:=hS0; go_simp; try with_reducible rfl); simp only [pt,sb,s0,s1])
 all_goals refine tame_done(by kernel_rfl) ?_ _
 all_goals intro w1 hS1
 rcases vD.eq_false_or_eq_true with rfl | rfl
 rotate_left
 iterate 4
  go_wp2
  go_ret
  exact layEnds_no HL.out.1 hS1.2.1.out.bel
 go_wp2_with fail
 refine last_region(LaySProc w b m most x)5(by kernel_rfl)(laySProc_of hS1.2.1.out.drew(hS1.2.2.out.below(Below.refl _ _).drew)) ?_
 iterate 4(refine ly 6(v:= ?_)(some _)rfl rfl(by kernel_rfl)(fun _ _ _ h=>h)(does_yield(by kernel_rfl) ?_) ?_; rotate_left; (intro w0 hS0; obtain⟨⟨q0,q1,q2,q3,q4,q5,q6,q7,q8,q9,q10,q11,q12,q13,q14⟩,hH⟩:=hS0; go_simp; try with_reducible rfl); simp only [pt,sb,s0,s1])
 refine ly 6(v:= .int .i64 x.id)(some _)rfl rfl(by kernel_rfl)(fun _ _ _ h=>h)(does_call(f:=282)(args:= #[.agg x.row])(by kernel_rfl) ?_ ?_) ?_
 ·intro w0 hS0
  obtain⟨⟨q0,q1,q2,q3,q4,q5,q6,q7,q8,q9,q10,q11,q12,q13,q14⟩,hH⟩:=hS0
  go_simp
  try with_reducible rfl
 ·intro w0 hS0
  refine(numberProc_any x w0).mono ?_
  rintro e w2⟨rfl,hb2⟩
  exact⟨rfl,laySProc_of(hS0.2.1.out.below hb2)(hS0.2.2.out.below hb2)⟩
 simp only [pt,sb,s0,s1]
 refine last_done rfl(by kernel_rfl)(by kernel_rfl)(by kernel_rfl) ?_
 intro w1 hS1
 obtain⟨w2,hput,hend⟩:=hS1.2.1.out.put(by omega)Tryz.underlying108 HW.out.1(HL.out.2(by trivial))HW.out.2.2 HW.out.2.1
 have HE:Hid(LayEnds w b m true x.id(procVs x)43(.returned(.bool true))w2):=hend
 clear hend hS1
 go_simp
 go_wp2
 go_ret
 rw [HL.out.1]
 exact HE.out
end Go.Proofs.YtkbcplnlehdjfaaGreat
