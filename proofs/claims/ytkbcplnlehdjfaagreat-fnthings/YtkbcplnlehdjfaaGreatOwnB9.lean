/- What the proof leans on, part 9: LySem, LyEvent. -/
import Derived.Test.YtkbcplnlehdjfaaGreatOwnB2
import Derived.Test.YtkbcplnlehdjfaaGreatOwnB7
set_option maxRecDepth 100000
set_option maxHeartbeats 8000000

namespace Go.Proofs.YtkbcplnlehdjfaaGreat
open Go.RowKit
attribute [local go_sem ↓] Go.wp_at_zero Go.wp_at_succ
def yk (w:World) (b:Nat) (m:df) (most:Int) (x:bD) (w':World):Prop:=(w'.cell? ⟨w.heap.size,0,none⟩=some (.int .i64 most)∧w'.cell? ⟨w.heap.size,1,none⟩=some (.map (some b))∧(∀ ty,(Builtin.len_ #[111] ty #[.map (some b)]).run Tryz.prog w'= .ok (.int .i64 (m.length:Int)) w')∧w'.cell? ⟨w.heap.size+1,0,none⟩=some (.int .i64 x.id)∧w'.cell? ⟨w.heap.size+1,1,none⟩=some (.int .i64 x.n)∧w'.cell? ⟨w.heap.size+1,2,none⟩=some (.int .i64 x.max))∧Hid (fe w w' w.heap.size (w.heap.size+1) b m most (eH x) 49 113)∧Hid (kU w' x)
theorem jz {w w':World} {b:Nat} {m:df} {most:Int} {x:bD} (h:fe w w' w.heap.size (w.heap.size+1) b m most (eH x) 49 113) (hf:kU w' x):yk w b m most x w':=
 ⟨⟨h.cells.1,h.cells.2,fun ty=>h.mp.len Tryz.underlying111 ty,gm h.bx⟩,h,hf⟩
theorem tU (most:Int) (b:Nat) (m:df) (x:bD) (w:World) (h:cF w b m) (hw:(Lit.int .i64 x.id).wf=true) (hm:m.length≤1048576) (hf:kU w x):
  Calls Tryz.prog 89 #[.agg #[.int .i64 most,.map (some b)],.agg (eH x)] w fun e w'=>dD w b m (iI most m x.id (gw x)) x.id (eH x) 49 e w':=by
 have HF:Hid (fe w ((w.alloc (.cells #[.int .i64 most,.map (some b)] 113)).alloc (.cells (eH x) 49)) w.heap.size (w.heap.size+1) b m most (eH x) 49 113):=fe.start w h most _ _ _
 have HW:Hid ((Lit.int .i64 x.id).wf=true∧ ¬ w.heap.size+1=b∧m.length≤1048576):=⟨hw,by have:=h.lt; omega,hm⟩
 have HI:Hid (kU ((w.alloc (.cells #[.int .i64 most,.map (some b)] 113)).alloc (.cells (eH x) 49)) x):=hf.below ((((Below.refl _ w).alloc (Nat.le_refl _) _)).alloc (by simp) _)
 have hmn:=pb
 have hmr:=wW
 obtain ⟨s0,s1⟩:=HF.out.cells
 obtain ⟨c0,c1,c2⟩:=gm HF.out.bx
 clear h hw hf hm
 unfold eH at *
 go_enter Tryz.func89,Tryz.ntmps89
 go_wp2_with fail
 clear s0 s1 c0 c1 c2
 obtain ⟨vA,hA⟩: ∃ v,(cz m x.id).isSome=v:=⟨_,rfl⟩
 obtain ⟨vB,F6⟩: ∃ v,decide (most≤(m.length:Int))=v:=⟨_,rfl⟩
 obtain ⟨vC,hC⟩: ∃ v,cv x.id 1 1000=v:=⟨_,rfl⟩
 obtain ⟨vD,hD⟩: ∃ v,gw x=v:=⟨_,rfl⟩
 have HL:Hid (iI most m x.id (gw x)=(!vA && !vB && vC && vD)∧(vA=false→cz m x.id=none)):=⟨pi hA F6 hC hD,fun e=>Option.isNone_iff_eq_none.1 (Option.isSome_eq_false_iff.1 (hA.trans e))⟩
 have HA:Hid (Ending.returned (.bool (cz m x.id).isSome)= .returned (.bool vA)):=al hA
 have HC:Hid (Ending.returned (.bool (cv x.id 1 1000))= .returned (.bool vC)):=al hC
 have HD:Hid (Ending.returned (.bool (gw x))= .returned (.bool vD)):=al hD
 clear hA hC hD
 refine aT (yk w b m most x) (by kernel_rfl) (jz HF.out.drew (HI.out.below (Below.refl _ _).drew)) ?_
 iterate 3 (refine yl (v:= ?_) ?_ ?_; rotate_left; (intro w0 hS0; obtain ⟨⟨q0,q1,q2,q3,q4,q5⟩,hH⟩:=hS0; go_simp; try with_reducible rfl); simp only [pt,sb,s0,s1])
 (refine cl (.int .i64 x.id) 294 #[.agg #[.int .i64 x.id,.int .i64 x.n,.int .i64 x.max]] ?_ ?_ ?_; (intro w0 hS0; obtain ⟨⟨q0,q1,q2,q3,q4,q5⟩,hH⟩:=hS0; go_simp; try with_reducible rfl); (intro w0 hS0; refine (jv x w0).mono ?_; rintro e w2 ⟨rfl,hb2⟩; exact ⟨rfl,jz (hS0.2.1.out.below hb2) (hS0.2.2.out.below hb2)⟩); simp only [pt,sb,s0,s1])
 (refine cl (.bool vA) 175 #[.agg #[.int .i64 most,.map (some b)],.int .i64 x.id] ?_ ?_ ?_; (intro w0 hS0; obtain ⟨⟨q0,q1,q2,q3,q4,q5⟩,hH⟩:=hS0; go_simp; try with_reducible rfl); (intro w0 hS0; refine (tZ most b m x.id w0 hS0.2.1.out.mp HW.out.1).mono ?_; rintro e w2 ⟨rfl,hb2⟩; exact ⟨HA.out,jz (hS0.2.1.out.below hb2) (hS0.2.2.out.below hb2)⟩); simp only [pt,sb,s0,s1])
 (refine yl (v:= ?_) ?_ ?_; rotate_left; (intro w0 hS0; obtain ⟨⟨q0,q1,q2,q3,q4,q5⟩,hH⟩:=hS0; go_simp; try with_reducible rfl); simp only [pt,sb,s0,s1])
 rcases vA.eq_false_or_eq_true with rfl | rfl
 focus iterate 6 (refine nl ?_; simp only [pt,sb,s0,s1])
 rotate_left
 focus iterate 6 (refine yl (v:= ?_) ?_ ?_; rotate_left; (intro w0 hS0; obtain ⟨⟨q0,q1,q2,q3,q4,q5⟩,hH⟩:=hS0; go_simp; try with_reducible rfl); simp only [pt,sb,s0,s1])
 all_goals iterate 2 (refine yl (v:= ?_) ?_ ?_; rotate_left; (intro w0 hS0; obtain ⟨⟨q0,q1,q2,q3,q4,q5⟩,hH⟩:=hS0; go_simp; try with_reducible rfl); simp only [pt,sb,s0,s1])
 rcases vB.eq_false_or_eq_true with rfl | rfl
 focus iterate 5 (refine nl ?_; simp only [pt,sb,s0,s1])
 rotate_left
 focus
  iterate 2 (refine yl (v:= ?_) ?_ ?_; rotate_left; (intro w0 hS0; obtain ⟨⟨q0,q1,q2,q3,q4,q5⟩,hH⟩:=hS0; go_simp; try with_reducible rfl); simp only [pt,sb,s0,s1])
  (refine cl (.int .i64 x.id) 294 #[.agg #[.int .i64 x.id,.int .i64 x.n,.int .i64 x.max]] ?_ ?_ ?_; (intro w0 hS0; obtain ⟨⟨q0,q1,q2,q3,q4,q5⟩,hH⟩:=hS0; go_simp; try with_reducible rfl); (intro w0 hS0; refine (jv x w0).mono ?_; rintro e w2 ⟨rfl,hb2⟩; exact ⟨rfl,jz (hS0.2.1.out.below hb2) (hS0.2.2.out.below hb2)⟩); simp only [pt,sb,s0,s1])
  (refine cl (.bool vC) 164 #[.int .i64 x.id] ?_ ?_ ?_; (intro w0 hS0; obtain ⟨⟨q0,q1,q2,q3,q4,q5⟩,hH⟩:=hS0; go_simp; try with_reducible rfl); (intro w0 hS0; refine (eW x.id w0).mono ?_; rintro e w2 ⟨rfl,rfl⟩; exact ⟨HC.out,hS0⟩); simp only [pt,sb,s0,s1])
  (refine yl (v:= ?_) ?_ ?_; rotate_left; (intro w0 hS0; obtain ⟨⟨q0,q1,q2,q3,q4,q5⟩,hH⟩:=hS0; go_simp; try with_reducible rfl); simp only [pt,sb,s0,s1])
 rotate_left
 focus iterate 5 (refine nl ?_; simp only [pt,sb,s0,s1])
 all_goals iterate 2 (refine yl (v:= ?_) ?_ ?_; rotate_left; (intro w0 hS0; obtain ⟨⟨q0,q1,q2,q3,q4,q5⟩,hH⟩:=hS0; go_simp; try with_reducible rfl); simp only [pt,sb,s0,s1])
 rotate_right
 rcases vC.eq_false_or_eq_true with rfl | rfl
 focus
  iterate 2 (refine yl (v:= ?_) ?_ ?_; rotate_left; (intro w0 hS0; obtain ⟨⟨q0,q1,q2,q3,q4,q5⟩,hH⟩:=hS0; go_simp; try with_reducible rfl); simp only [pt,sb,s0,s1])
  (refine cl (.bool vD) 295 #[.agg #[.int .i64 x.id,.int .i64 x.n,.int .i64 x.max]] ?_ ?_ ?_; (intro w0 hS0; obtain ⟨⟨q0,q1,q2,q3,q4,q5⟩,hH⟩:=hS0; go_simp; try with_reducible rfl); (intro w0 hS0; refine (ye x w0 hS0.2.2.out).mono ?_; rintro e w2 ⟨rfl,hb2⟩; exact ⟨HD.out,jz (hS0.2.1.out.below hb2) (hS0.2.2.out.below hb2)⟩); simp only [pt,sb,s0,s1])
  (refine yl (v:= ?_) ?_ ?_; rotate_left; (intro w0 hS0; obtain ⟨⟨q0,q1,q2,q3,q4,q5⟩,hH⟩:=hS0; go_simp; try with_reducible rfl); simp only [pt,sb,s0,s1])
 rotate_left
 focus iterate 4 (refine nl ?_; simp only [pt,sb,s0,s1])
 rotate_left
 focus iterate 4 (refine nl ?_; simp only [pt,sb,s0,s1])
 rotate_left
 focus iterate 4 (refine nl ?_; simp only [pt,sb,s0,s1])
 rotate_left
 all_goals (refine yl (v:= ?_) ?_ ?_; rotate_left; (intro w0 hS0; obtain ⟨⟨q0,q1,q2,q3,q4,q5⟩,hH⟩:=hS0; go_simp; try with_reducible rfl); simp only [pt,sb,s0,s1])
 all_goals refine bk (by kernel_rfl) ?_ _
 all_goals intro w1 cm
 rcases vD.eq_false_or_eq_true with rfl | rfl
 rotate_left
 iterate 4
  go_wp2
  go_ret
  exact ki HL.out.1 cm.2.1.out.cd
 go_wp2_with fail
 refine eD (yk w b m most x) 5 (by kernel_rfl) (jz cm.2.1.out.drew (cm.2.2.out.below (Below.refl _ _).drew)) ?_
 iterate 4 (refine ly 6 (v:= ?_) (some _) rfl rfl (by kernel_rfl) (fun _ _ _ h=>h) (bV (by kernel_rfl) ?_) ?_; rotate_left; (intro w0 hS0; obtain ⟨⟨q0,q1,q2,q3,q4,q5⟩,hH⟩:=hS0; go_simp; try with_reducible rfl); simp only [pt,sb,s0,s1])
 refine ly 6 (v:= .int .i64 x.id) (some _) rfl rfl (by kernel_rfl) (fun _ _ _ h=>h) (iZ (f:=294) (args:= #[.agg #[.int .i64 x.id,.int .i64 x.n,.int .i64 x.max]]) (by kernel_rfl) ?_ ?_) ?_
 ·intro w0 hS0
  obtain ⟨⟨q0,q1,q2,q3,q4,q5⟩,hH⟩:=hS0
  go_simp
  try with_reducible rfl
 ·intro w0 hS0
  refine (jv x w0).mono ?_
  rintro e w2 ⟨rfl,hb2⟩
  exact ⟨rfl,jz (hS0.2.1.out.below hb2) (hS0.2.2.out.below hb2)⟩
 simp only [pt,sb,s0,s1]
 refine fL rfl (by kernel_rfl) (by kernel_rfl) (by kernel_rfl) ?_
 intro w1 cm
 obtain ⟨w2,hput,hend⟩:=cm.2.1.out.put (by omega) Tryz.underlying111 HW.out.1 (HL.out.2 (by trivial)) HW.out.2.2 HW.out.2.1
 have HE:Hid (dD w b m true x.id (eH x) 49 (.returned (.bool true)) w2):=hend
 clear hend cm
 go_simp
 go_wp2
 go_ret
 rw [HL.out.1]
 exact HE.out
def sk (w:World) (b:Nat) (m:df) (most:Int) (x:aB) (w':World):Prop:=(w'.cell? ⟨w.heap.size,0,none⟩=some (.int .i64 most)∧w'.cell? ⟨w.heap.size,1,none⟩=some (.map (some b))∧(∀ ty,(Builtin.len_ #[114] ty #[.map (some b)]).run Tryz.prog w'= .ok (.int .i64 (m.length:Int)) w')∧w'.cell? ⟨w.heap.size+1,0,none⟩=some (.int .i64 x.id)∧w'.cell? ⟨w.heap.size+1,1,none⟩=some (.bool x.up))∧Hid (fe w w' w.heap.size (w.heap.size+1) b m most (cG x) 138 116)∧Hid (ix w' x)
theorem ik {w w':World} {b:Nat} {m:df} {most:Int} {x:aB} (h:fe w w' w.heap.size (w.heap.size+1) b m most (cG x) 138 116) (hf:ix w' x):sk w b m most x w':=
 ⟨⟨h.cells.1,h.cells.2,fun ty=>h.mp.len Tryz.underlying114 ty,kF h.bx⟩,h,hf⟩
theorem rC (most:Int) (b:Nat) (m:df) (x:aB) (w:World) (h:cF w b m) (hw:(Lit.int .i64 x.id).wf=true) (hm:m.length≤1048576) (hf:ix w x):
  Calls Tryz.prog 90 #[.agg #[.int .i64 most,.map (some b)],.agg (cG x)] w fun e w'=>dD w b m (iI most m x.id (ey x)) x.id (cG x) 138 e w':=by
 have HF:Hid (fe w ((w.alloc (.cells #[.int .i64 most,.map (some b)] 116)).alloc (.cells (cG x) 138)) w.heap.size (w.heap.size+1) b m most (cG x) 138 116):=fe.start w h most _ _ _
 have HW:Hid ((Lit.int .i64 x.id).wf=true∧ ¬ w.heap.size+1=b∧m.length≤1048576):=⟨hw,by have:=h.lt; omega,hm⟩
 have HI:Hid (ix ((w.alloc (.cells #[.int .i64 most,.map (some b)] 116)).alloc (.cells (cG x) 138)) x):=hf.below ((((Below.refl _ w).alloc (Nat.le_refl _) _)).alloc (by simp) _)
 have hmn:=mT
 have hmr:=tp
 obtain ⟨s0,s1⟩:=HF.out.cells
 obtain ⟨c0,c1⟩:=kF HF.out.bx
 clear h hw hf hm
 unfold cG at *
 go_enter Tryz.func90,Tryz.ntmps90
 go_wp2_with fail
 clear s0 s1 c0 c1
 obtain ⟨vA,hA⟩: ∃ v,(cz m x.id).isSome=v:=⟨_,rfl⟩
 obtain ⟨vB,F6⟩: ∃ v,decide (most≤(m.length:Int))=v:=⟨_,rfl⟩
 obtain ⟨vC,hC⟩: ∃ v,cv x.id 1 1000=v:=⟨_,rfl⟩
 obtain ⟨vD,hD⟩: ∃ v,ey x=v:=⟨_,rfl⟩
 have HL:Hid (iI most m x.id (ey x)=(!vA && !vB && vC && vD)∧(vA=false→cz m x.id=none)):=⟨pi hA F6 hC hD,fun e=>Option.isNone_iff_eq_none.1 (Option.isSome_eq_false_iff.1 (hA.trans e))⟩
 have HA:Hid (Ending.returned (.bool (cz m x.id).isSome)= .returned (.bool vA)):=al hA
 have HC:Hid (Ending.returned (.bool (cv x.id 1 1000))= .returned (.bool vC)):=al hC
 have HD:Hid (Ending.returned (.bool (ey x))= .returned (.bool vD)):=al hD
 clear hA hC hD
 refine aT (sk w b m most x) (by kernel_rfl) (ik HF.out.drew (HI.out.below (Below.refl _ _).drew)) ?_
 iterate 3 (refine yl (v:= ?_) ?_ ?_; rotate_left; (intro w0 hS0; obtain ⟨⟨q0,q1,q2,q3,q4⟩,hH⟩:=hS0; go_simp; try with_reducible rfl); simp only [pt,sb,s0,s1])
 (refine cl (.int .i64 x.id) 307 #[.agg #[.int .i64 x.id,.bool x.up]] ?_ ?_ ?_; (intro w0 hS0; obtain ⟨⟨q0,q1,q2,q3,q4⟩,hH⟩:=hS0; go_simp; try with_reducible rfl); (intro w0 hS0; refine (iw x w0).mono ?_; rintro e w2 ⟨rfl,hb2⟩; exact ⟨rfl,ik (hS0.2.1.out.below hb2) (hS0.2.2.out.below hb2)⟩); simp only [pt,sb,s0,s1])
 (refine cl (.bool vA) 176 #[.agg #[.int .i64 most,.map (some b)],.int .i64 x.id] ?_ ?_ ?_; (intro w0 hS0; obtain ⟨⟨q0,q1,q2,q3,q4⟩,hH⟩:=hS0; go_simp; try with_reducible rfl); (intro w0 hS0; refine (rj most b m x.id w0 hS0.2.1.out.mp HW.out.1).mono ?_; rintro e w2 ⟨rfl,hb2⟩; exact ⟨HA.out,ik (hS0.2.1.out.below hb2) (hS0.2.2.out.below hb2)⟩); simp only [pt,sb,s0,s1])
 (refine yl (v:= ?_) ?_ ?_; rotate_left; (intro w0 hS0; obtain ⟨⟨q0,q1,q2,q3,q4⟩,hH⟩:=hS0; go_simp; try with_reducible rfl); simp only [pt,sb,s0,s1])
 rcases vA.eq_false_or_eq_true with rfl | rfl
 focus iterate 6 (refine nl ?_; simp only [pt,sb,s0,s1])
 rotate_left
 focus iterate 6 (refine yl (v:= ?_) ?_ ?_; rotate_left; (intro w0 hS0; obtain ⟨⟨q0,q1,q2,q3,q4⟩,hH⟩:=hS0; go_simp; try with_reducible rfl); simp only [pt,sb,s0,s1])
 all_goals iterate 2 (refine yl (v:= ?_) ?_ ?_; rotate_left; (intro w0 hS0; obtain ⟨⟨q0,q1,q2,q3,q4⟩,hH⟩:=hS0; go_simp; try with_reducible rfl); simp only [pt,sb,s0,s1])
 rcases vB.eq_false_or_eq_true with rfl | rfl
 focus iterate 5 (refine nl ?_; simp only [pt,sb,s0,s1])
 rotate_left
 focus
  iterate 2 (refine yl (v:= ?_) ?_ ?_; rotate_left; (intro w0 hS0; obtain ⟨⟨q0,q1,q2,q3,q4⟩,hH⟩:=hS0; go_simp; try with_reducible rfl); simp only [pt,sb,s0,s1])
  (refine cl (.int .i64 x.id) 307 #[.agg #[.int .i64 x.id,.bool x.up]] ?_ ?_ ?_; (intro w0 hS0; obtain ⟨⟨q0,q1,q2,q3,q4⟩,hH⟩:=hS0; go_simp; try with_reducible rfl); (intro w0 hS0; refine (iw x w0).mono ?_; rintro e w2 ⟨rfl,hb2⟩; exact ⟨rfl,ik (hS0.2.1.out.below hb2) (hS0.2.2.out.below hb2)⟩); simp only [pt,sb,s0,s1])
  (refine cl (.bool vC) 164 #[.int .i64 x.id] ?_ ?_ ?_; (intro w0 hS0; obtain ⟨⟨q0,q1,q2,q3,q4⟩,hH⟩:=hS0; go_simp; try with_reducible rfl); (intro w0 hS0; refine (eW x.id w0).mono ?_; rintro e w2 ⟨rfl,rfl⟩; exact ⟨HC.out,hS0⟩); simp only [pt,sb,s0,s1])
  (refine yl (v:= ?_) ?_ ?_; rotate_left; (intro w0 hS0; obtain ⟨⟨q0,q1,q2,q3,q4⟩,hH⟩:=hS0; go_simp; try with_reducible rfl); simp only [pt,sb,s0,s1])
 rotate_left
 focus iterate 5 (refine nl ?_; simp only [pt,sb,s0,s1])
 all_goals iterate 2 (refine yl (v:= ?_) ?_ ?_; rotate_left; (intro w0 hS0; obtain ⟨⟨q0,q1,q2,q3,q4⟩,hH⟩:=hS0; go_simp; try with_reducible rfl); simp only [pt,sb,s0,s1])
 rotate_right
 rcases vC.eq_false_or_eq_true with rfl | rfl
 focus
  iterate 2 (refine yl (v:= ?_) ?_ ?_; rotate_left; (intro w0 hS0; obtain ⟨⟨q0,q1,q2,q3,q4⟩,hH⟩:=hS0; go_simp; try with_reducible rfl); simp only [pt,sb,s0,s1])
  (refine cl (.bool vD) 308 #[.agg #[.int .i64 x.id,.bool x.up]] ?_ ?_ ?_; (intro w0 hS0; obtain ⟨⟨q0,q1,q2,q3,q4⟩,hH⟩:=hS0; go_simp; try with_reducible rfl); (intro w0 hS0; refine (tX x w0 hS0.2.2.out).mono ?_; rintro e w2 ⟨rfl,hb2⟩; exact ⟨HD.out,ik (hS0.2.1.out.below hb2) (hS0.2.2.out.below hb2)⟩); simp only [pt,sb,s0,s1])
  (refine yl (v:= ?_) ?_ ?_; rotate_left; (intro w0 hS0; obtain ⟨⟨q0,q1,q2,q3,q4⟩,hH⟩:=hS0; go_simp; try with_reducible rfl); simp only [pt,sb,s0,s1])
 rotate_left
 focus iterate 4 (refine nl ?_; simp only [pt,sb,s0,s1])
 rotate_left
 focus iterate 4 (refine nl ?_; simp only [pt,sb,s0,s1])
 rotate_left
 focus iterate 4 (refine nl ?_; simp only [pt,sb,s0,s1])
 rotate_left
 all_goals (refine yl (v:= ?_) ?_ ?_; rotate_left; (intro w0 hS0; obtain ⟨⟨q0,q1,q2,q3,q4⟩,hH⟩:=hS0; go_simp; try with_reducible rfl); simp only [pt,sb,s0,s1])
 all_goals refine bk (by kernel_rfl) ?_ _
 all_goals intro w1 cm
 rcases vD.eq_false_or_eq_true with rfl | rfl
 rotate_left
 iterate 4
  go_wp2
  go_ret
  exact ki HL.out.1 cm.2.1.out.cd
 go_wp2_with fail
 refine eD (sk w b m most x) 5 (by kernel_rfl) (ik cm.2.1.out.drew (cm.2.2.out.below (Below.refl _ _).drew)) ?_
 iterate 4 (refine ly 6 (v:= ?_) (some _) rfl rfl (by kernel_rfl) (fun _ _ _ h=>h) (bV (by kernel_rfl) ?_) ?_; rotate_left; (intro w0 hS0; obtain ⟨⟨q0,q1,q2,q3,q4⟩,hH⟩:=hS0; go_simp; try with_reducible rfl); simp only [pt,sb,s0,s1])
 refine ly 6 (v:= .int .i64 x.id) (some _) rfl rfl (by kernel_rfl) (fun _ _ _ h=>h) (iZ (f:=307) (args:= #[.agg #[.int .i64 x.id,.bool x.up]]) (by kernel_rfl) ?_ ?_) ?_
 ·intro w0 hS0
  obtain ⟨⟨q0,q1,q2,q3,q4⟩,hH⟩:=hS0
  go_simp
  try with_reducible rfl
 ·intro w0 hS0
  refine (iw x w0).mono ?_
  rintro e w2 ⟨rfl,hb2⟩
  exact ⟨rfl,ik (hS0.2.1.out.below hb2) (hS0.2.2.out.below hb2)⟩
 simp only [pt,sb,s0,s1]
 refine fL rfl (by kernel_rfl) (by kernel_rfl) (by kernel_rfl) ?_
 intro w1 cm
 obtain ⟨w2,hput,hend⟩:=cm.2.1.out.put (by omega) Tryz.underlying114 HW.out.1 (HL.out.2 (by trivial)) HW.out.2.2 HW.out.2.1
 have HE:Hid (dD w b m true x.id (cG x) 138 (.returned (.bool true)) w2):=hend
 clear hend cm
 go_simp
 go_wp2
 go_ret
 rw [HL.out.1]
 exact HE.out
end Go.Proofs.YtkbcplnlehdjfaaGreat
