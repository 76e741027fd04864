/- What the proof leans on, part 7. -/
import Derived.Test.YteidkehoekbcaaaGreatOwnK0
import Derived.Test.YteidkehoekbcaaaGreatOwnK5
import Derived.Deep.AppendLies
set_option maxRecDepth 100000
set_option maxHeartbeats 8000000
open Go renaming callsIn_wide->LO
open Go.Proofs.Tryz renaming prog->J3
open Go.RowKit.Below renaming refl->Kp
open List renaming mem_cons->Kt,pairwise_cons->LM

namespace Go.Proofs.YteidkehoekbcaaaGreat
open Go.RowKit
attribute [local go_sem ↓] Go.wp_at_zero Go.wp_at_succ
def sk (w:World) (b:Nat) (m:df) (Me:Int) (x:aB) (w':World):Prop:=(w'.cell? ⟨w.heap.size,0,none⟩=some (.int .i64 Me)∧w'.cell? ⟨w.heap.size,1,none⟩=some (.map (some b))∧(∀ ty,(Builtin.len_ #[167] ty #[.map (some b)]).run J3 w'= .ok (.int .i64 (m.length:Int)) w')∧w'.cell? ⟨w.heap.size+1,0,none⟩=some (.int .i64 x.id)∧w'.cell? ⟨w.heap.size+1,1,none⟩=some (.bool x.up))∧Hid (fe w w' w.heap.size (w.heap.size+1) b m Me (cG x) 187 169)∧Hid (ix w' x)
theorem ik {w w':World} {b:Nat} {m:df} {Me:Int} {x:aB} (h:fe w w' w.heap.size (w.heap.size+1) b m Me (cG x) 187 169) (hf:ix w' x):sk w b m Me x w':=
 ⟨⟨h.cells.1,h.cells.2,fun ty=>h.mp.len Tryz.underlying167 ty,kF h.bx⟩,h,hf⟩
theorem rC (Me:Int) (b:Nat) (m:df) (x:aB) (w:World) (h:cF w b m) (hw:(Lit.int .i64 x.id).wf=true) (hm:m.length≤1048576) (hf:ix w x):
  Calls J3 212 #[.agg #[.int .i64 Me,.map (some b)],.agg (cG x)] w fun e w'=>dD w b m (iI Me m x.id (ey x)) x.id (cG x) 187 e w':=by
 have HF:Hid (fe w ((w.alloc (.cells #[.int .i64 Me,.map (some b)] 169)).alloc (.cells (cG x) 187)) w.heap.size (w.heap.size+1) b m Me (cG x) 187 169):=fe.start w h Me _ _ _;have HW:Hid ((Lit.int .i64 x.id).wf=true∧ ¬ w.heap.size+1=b∧m.length≤1048576):=⟨hw,by have:=h.lt; omega,hm⟩
 have HI:Hid (ix ((w.alloc (.cells #[.int .i64 Me,.map (some b)] 169)).alloc (.cells (cG x) 187)) x):=hf.below ((((Kp _ w).alloc (Nat.le_refl _) _)).alloc (by simp) _);have hmn:=mT;have hmr:=tp;obtain ⟨s0,s1⟩:=HF.I.cells;obtain ⟨c0,c1⟩:=kF HF.I.bx;clear h hw hf hm;unfold cG at *
 go_enter Tryz.func212,Tryz.ntmps212
 go_wp2_with fail;clear s0 s1 c0 c1;obtain ⟨vA,hA⟩: ∃ v,(cz m x.id).isSome=v:=⟨_,rfl⟩
 obtain ⟨vB,F6⟩: ∃ v,decide (Me≤(m.length:Int))=v:=⟨_,rfl⟩
 obtain ⟨vC,hC⟩: ∃ v,cv x.id 1 1000=v:=⟨_,rfl⟩
 obtain ⟨vD,hD⟩: ∃ v,ey x=v:=⟨_,rfl⟩
 have HL:Hid (iI Me m x.id (ey x)=(!vA && !vB && vC && vD)∧(vA=false→cz m x.id=none)):=⟨pi hA F6 hC hD,fun e=>Option.isNone_iff_eq_none.1 (Option.isSome_eq_false_iff.1 (hA.trans e))⟩
 have HA:Hid (Ending.returned (.bool (cz m x.id).isSome)= .returned (.bool vA)):=al hA;have HC:Hid (Ending.returned (.bool (cv x.id 1 1000))= .returned (.bool vC)):=al hC;have HD:Hid (Ending.returned (.bool (ey x))= .returned (.bool vD)):=al hD;clear hA hC hD;refine aT (sk w b m Me x) (by kernel_rfl) (ik HF.I.drew (HI.I.below (Kp _ _).drew)) ?_
 iterate 3 (refine PI ?_ (hy:=fun w0 hS0=>by obtain ⟨⟨q0,q1,q2,q3,q4⟩,hH⟩:=hS0; go_simp; try with_reducible rfl))
 (refine cl (.int .i64 x.id) 283 #[.agg #[.int .i64 x.id,.bool x.up]] ?_ ?_ ?_; (intro w0 hS0; obtain ⟨⟨q0,q1,q2,q3,q4⟩,hH⟩:=hS0; go_simp; try with_reducible rfl); (intro w0 hS0; refine (iw x w0).mono ?_; rintro e w2 ⟨rfl,hb2⟩; exact ⟨rfl,ik (hS0.2.1.I.below hb2) (hS0.2.2.I.below hb2)⟩); simp only [pt,sb,s0,s1])
 (refine cl (.bool vA) 233 #[.agg #[.int .i64 Me,.map (some b)],.int .i64 x.id] ?_ ?_ ?_; (intro w0 hS0; obtain ⟨⟨q0,q1,q2,q3,q4⟩,hH⟩:=hS0; go_simp; try with_reducible rfl); (intro w0 hS0; refine (rj Me b m x.id w0 hS0.2.1.I.mp HW.I.1).mono ?_; rintro e w2 ⟨rfl,hb2⟩; exact ⟨HA.I,ik (hS0.2.1.I.below hb2) (hS0.2.2.I.below hb2)⟩); simp only [pt,sb,s0,s1])
 (refine PI ?_ (hy:=fun w0 hS0=>by obtain ⟨⟨q0,q1,q2,q3,q4⟩,hH⟩:=hS0; go_simp; try with_reducible rfl))
 rcases vA.eq_false_or_eq_true with rfl | rfl
 focus iterate 6 (refine nl ?_; simp only [pt,sb,s0,s1])
 rotate_left
 focus iterate 6 (refine PI ?_ (hy:=fun w0 hS0=>by obtain ⟨⟨q0,q1,q2,q3,q4⟩,hH⟩:=hS0; go_simp; try with_reducible rfl))
 all_goals iterate 2 (refine PI ?_ (hy:=fun w0 hS0=>by obtain ⟨⟨q0,q1,q2,q3,q4⟩,hH⟩:=hS0; go_simp; try with_reducible rfl))
 rcases vB.eq_false_or_eq_true with rfl | rfl
 focus iterate 5 (refine nl ?_; simp only [pt,sb,s0,s1])
 rotate_left
 focus
  iterate 2 (refine PI ?_ (hy:=fun w0 hS0=>by obtain ⟨⟨q0,q1,q2,q3,q4⟩,hH⟩:=hS0; go_simp; try with_reducible rfl))
  (refine cl (.int .i64 x.id) 283 #[.agg #[.int .i64 x.id,.bool x.up]] ?_ ?_ ?_; (intro w0 hS0; obtain ⟨⟨q0,q1,q2,q3,q4⟩,hH⟩:=hS0; go_simp; try with_reducible rfl); (intro w0 hS0; refine (iw x w0).mono ?_; rintro e w2 ⟨rfl,hb2⟩; exact ⟨rfl,ik (hS0.2.1.I.below hb2) (hS0.2.2.I.below hb2)⟩); simp only [pt,sb,s0,s1])
  (refine cl (.bool vC) 231 #[.int .i64 x.id] ?_ ?_ ?_; (intro w0 hS0; obtain ⟨⟨q0,q1,q2,q3,q4⟩,hH⟩:=hS0; go_simp; try with_reducible rfl); (intro w0 hS0; refine (eW x.id w0).mono ?_; rintro e w2 ⟨rfl,rfl⟩; exact ⟨HC.I,hS0⟩); simp only [pt,sb,s0,s1])
  (refine PI ?_ (hy:=fun w0 hS0=>by obtain ⟨⟨q0,q1,q2,q3,q4⟩,hH⟩:=hS0; go_simp; try with_reducible rfl))
 rotate_left
 focus iterate 5 (refine nl ?_; simp only [pt,sb,s0,s1])
 all_goals iterate 2 (refine PI ?_ (hy:=fun w0 hS0=>by obtain ⟨⟨q0,q1,q2,q3,q4⟩,hH⟩:=hS0; go_simp; try with_reducible rfl))
 rotate_right
 rcases vC.eq_false_or_eq_true with rfl | rfl
 focus
  iterate 2 (refine PI ?_ (hy:=fun w0 hS0=>by obtain ⟨⟨q0,q1,q2,q3,q4⟩,hH⟩:=hS0; go_simp; try with_reducible rfl))
  (refine cl (.bool vD) 284 #[.agg #[.int .i64 x.id,.bool x.up]] ?_ ?_ ?_; (intro w0 hS0; obtain ⟨⟨q0,q1,q2,q3,q4⟩,hH⟩:=hS0; go_simp; try with_reducible rfl); (intro w0 hS0; refine (tX x w0 hS0.2.2.I).mono ?_; rintro e w2 ⟨rfl,hb2⟩; exact ⟨HD.I,ik (hS0.2.1.I.below hb2) (hS0.2.2.I.below hb2)⟩); simp only [pt,sb,s0,s1])
  (refine PI ?_ (hy:=fun w0 hS0=>by obtain ⟨⟨q0,q1,q2,q3,q4⟩,hH⟩:=hS0; go_simp; try with_reducible rfl))
 rotate_left
 focus iterate 4 (refine nl ?_; simp only [pt,sb,s0,s1])
 rotate_left
 focus iterate 4 (refine nl ?_; simp only [pt,sb,s0,s1])
 rotate_left
 focus iterate 4 (refine nl ?_; simp only [pt,sb,s0,s1])
 rotate_left
 all_goals (refine PI ?_ (hy:=fun w0 hS0=>by obtain ⟨⟨q0,q1,q2,q3,q4⟩,hH⟩:=hS0; go_simp; try with_reducible rfl))
 all_goals refine bk (by kernel_rfl) ?_ _
 all_goals intro w1 cm
 rcases vD.eq_false_or_eq_true with rfl | rfl;rotate_left
 iterate 4
  go_wp2;go_ret;exact ki HL.I.1 cm.2.1.I.cd
 go_wp2_with fail;refine eD (sk w b m Me x) 5 (by kernel_rfl) (ik cm.2.1.I.drew (cm.2.2.I.below (Kp _ _).drew)) ?_
 iterate 4 (refine ly 6 (v:= ?_) (some _) rfl rfl (by kernel_rfl) (fun _ _ _ h=>h) (bV (by kernel_rfl) ?_) ?_; rotate_left; (intro w0 hS0; obtain ⟨⟨q0,q1,q2,q3,q4⟩,hH⟩:=hS0; go_simp; try with_reducible rfl); simp only [pt,sb,s0,s1])
 refine ly 6 (v:= .int .i64 x.id) (some _) rfl rfl (by kernel_rfl) (fun _ _ _ h=>h) (iZ (f:=283) (args:= #[.agg #[.int .i64 x.id,.bool x.up]]) (by kernel_rfl) ?_ ?_) ?_
 ·intro w0 hS0
  obtain ⟨⟨q0,q1,q2,q3,q4⟩,hH⟩:=hS0
  go_simp
  try with_reducible rfl
 ·intro w0 hS0
  refine (iw x w0).mono ?_;rintro e w2 ⟨rfl,hb2⟩;exact ⟨rfl,ik (hS0.2.1.I.below hb2) (hS0.2.2.I.below hb2)⟩
 simp only [pt,sb,s0,s1];refine fL rfl (by kernel_rfl) (by kernel_rfl) (by kernel_rfl) ?_;intro w1 cm;obtain ⟨w2,hput,hend⟩:=cm.2.1.I.put (by omega) Tryz.underlying167 HW.I.1 (HL.I.2 (by trivial)) HW.I.2.2 HW.I.2.1;have HE:Hid (dD w b m true x.id (cG x) 187 (.returned (.bool true)) w2):=hend;clear hend cm
 go_simp
 go_wp2;go_ret;rw [HL.I.1];exact HE.I
end Go.Proofs.YteidkehoekbcaaaGreat

namespace Go.Proofs
open Go.RowKit Go.Maps Go.Sort Go.Shelf
theorem Tryz.sortsA (m : Nat) : AnyZI.SortsIn J3 Tryz.sortedA_ren Fence.wide m :=
  ⟨fun blk off cap ss W hH hblk hsz => LO.2 (AnyM.slices_Sort_int Tryz.sortA blk off cap ss W hH hblk hsz),
   fun p cap W => LO.2 (AnyM.slices_Sort_int_none Tryz.sortA p cap W)⟩
namespace YteidkehoekbcaaaGreat
theorem oA : ∀ {l1 l2 : List Int}, l1.Perm l2 → l1.Pairwise (· ≤ ·) → l2.Pairwise (· ≤ ·) → l1 = l2
  | [], l2, hp, _, _ => (List.nil_perm.1 hp).symm
  | a :: t, [], hp, _, _ => absurd (List.perm_nil.1 hp) (by simp)
  | a :: t, b :: s, hp, h1, h2 => by
    obtain ⟨ha, ht⟩ := LM.1 h1;obtain ⟨hb, hs⟩ := LM.1 h2;have hab : a = b := by
      have m1 : a ∈ b :: s := hp.mem_iff.1 (by simp);have m2 : b ∈ a :: t := hp.mem_iff.2 (by simp);rcases Kt.1 m1 with e | m1
      · exact e
      · rcases Kt.1 m2 with e | m2
        · exact e.symm
        · have := ha b m2
          have := hb a m1;omega
    subst hab;rw [oA (List.perm_cons a |>.1 hp) ht hs]
theorem lU (m : df) : intKeys (gA m) = m.map (·.1) := by
  simp only [intKeys, gA, List.map_map];rfl
theorem jG {m : df} (h : zP m) {ss : List Int} (hp : ss.Perm (intKeys (gA m))) : ss.mergeSort (fun x y => decide (x ≤ y)) = m.map (·.1) := by
  rw [lU] at hp;refine oA ((List.mergeSort_perm _ _).trans hp) ?_ ?_
  · have := List.pairwise_mergeSort (le := fun x y : Int => decide (x ≤ y)) (fun a b c h1 h2 => by simp at *; omega) (fun a b => by simp; omega) ss
    exact this.imp (fun {a b} h => by simpa using h)
  · rw [List.pairwise_map]
    exact List.Pairwise.imp (fun {a b} h => by omega) h
theorem cr {w : World} {base n size : Nat} {e : TypeId} {v : Value} {xs : List Value} (h : w.ownsRow base e size v n xs) : ∃ a cap, v = .slice a n cap ∧ Row w a xs := by
  obtain ⟨hl, h2⟩ := h;rcases h2 with ⟨rfl, rfl⟩ | ⟨g, cap, cur, rfl, hb, hg, h3, h4, h5, h6⟩
  · have : xs = [] := List.eq_nil_of_length_eq_zero (by simpa using hl)
    subst this;exact ⟨none, 0, rfl, Row.nothing _ _⟩
  · refine ⟨some ⟨g, 0, none⟩, cap, rfl, fun j u hu => ⟨g, rfl, ?_⟩⟩
    rw [cell_of_row w g j cur e (0, 0) hg];rw [← h6, List.getElem?_take] at hu
    split at hu
    · simpa using hu
    · cases hu
theorem cq {w : World} {base base' n size : Nat} {e : TypeId} {v : Value} {xs : List Value} (h : w.ownsRow base e size v n xs) (hb : base' ≤ base) : w.ownsRow base' e size v n xs := by
  obtain ⟨hl, h2⟩ := h;refine ⟨hl, ?_⟩;rcases h2 with h2 | ⟨g, cap, cur, h1, h3, h4⟩
  · exact .inl h2
  · exact .inr ⟨g, cap, cur, h1, by omega, h4⟩
end YteidkehoekbcaaaGreat
end Go.Proofs
