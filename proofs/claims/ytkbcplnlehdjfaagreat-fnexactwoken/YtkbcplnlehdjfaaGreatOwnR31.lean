/- What the proof leans on, part 31: TdPart, OpenL. -/
import Derived.Test.YtkbcplnlehdjfaaGreatOwnR18
import Derived.Test.YtkbcplnlehdjfaaGreatOwnR23
import Derived.Test.YtkbcplnlehdjfaaGreatOwnR29
import Derived.Test.YtkbcplnlehdjfaaGreatOwnR30
import Derived.Deep.RegionHeld
import Derived.Laws.CopyOwn
import Derived.ProofKit
import Derived.Lib.SmallJoins
import Derived.Deep.Strs
import Derived.Deep.Fields

namespace Go.Proofs.YtkbcplnlehdjfaaGreat
open Go.RowKit Go.Maps
attribute [local go_sem ↓] Go.wp_at_zero Go.wp_at_succ
theorem nodup_told {kp kf kq r1 r2 r3 r4 r5 r6 : List Nat} {N n1 n2 n3 n4 n5 n6 : Nat} (hk : (kp ++ (kf ++ kq)).Nodup) (hkl : ∀ g ∈ kp ++ (kf ++ kq), g < N) (h1 : Btw N n1 r1) (h2 : Btw n1 n2 r2) (h3 : Btw n2 n3 r3) (h4 : Btw n3 n4 r4) (h5 : Btw n4 n5 r5) (h6 : Btw n5 n6 r6)
  (e : N ≤ n1 ∧ n1 ≤ n2 ∧ n2 ≤ n3 ∧ n3 ≤ n4 ∧ n4 ≤ n5 ∧ n5 ≤ n6) : (r1 ++ (kp ++ (r2 ++ (r3 ++ (r4 ++ (r5 ++ (kf ++ (r6 ++ kq)))))))).Nodup := by
 have hp : (r1 ++ (kp ++ (r2 ++ (r3 ++ (r4 ++ (r5 ++ (kf ++ (r6 ++ kq)))))))).Perm ((kp ++ (kf ++ kq)) ++ (r1 ++ (r2 ++ (r3 ++ (r4 ++ (r5 ++ r6)))))) := by
  rw [List.perm_iff_count]
  intro x
  simp only [List.count_append]
  omega
 rw [hp.nodup_iff, List.nodup_append]
 have hr : Btw N n6 (r1 ++ (r2 ++ (r3 ++ (r4 ++ (r5 ++ r6))))) := h1.append (h2.append (h3.append (h4.append (h5.append h6 (by omega) (by omega) (by omega)) (by omega) (by omega) (by omega)) (by omega) (by omega) (by omega)) (by omega) (by omega) (by omega)) (by omega) (by omega) (by omega)
 refine ⟨hk, hr.1, fun a ha b hb e => ?_⟩
 have := hkl a ha
 have := (hr.2 b hb).1
 omega
theorem btw_row {w : World} {base n size cap : Nat} {e : TypeId} {a : Option Addr} {xs : List Value} (h : w.ownsRow base e size (.slice a n cap) n xs) : Btw base w.heap.size (blk a) := ⟨blk_nodup a, fun _ hg => own_lt h hg⟩
/-- The lists of an open partition are short, its numbers fit. -/
structure OpenD.Fits (S : OpenD) : Prop where
 nProc : S.lp.length ≤ 1048576
 wProc : ∀ p ∈ keysOf (fun x : ProcD => x.id) S.lp, (Lit.int .i64 p.1).wf = true
 nSem : S.ls.length ≤ 1048576
 wSem : ∀ p ∈ keysOf (fun x : SemD => x.id) S.ls, (Lit.int .i64 p.1).wf = true
 nEvent : S.le.length ≤ 1048576
 wEvent : ∀ p ∈ keysOf (fun x : EventD => x.id) S.le, (Lit.int .i64 p.1).wf = true
 nBoard : S.lb.length ≤ 1048576
 wBoard : ∀ p ∈ keysOf (fun x : BoardD => x.id) S.lb, (Lit.int .i64 p.1).wf = true
 nBuffer : S.lf.length ≤ 1048576
 wBuffer : ∀ p ∈ keysOf (fun x : BufferD => x.id) S.lf, (Lit.int .i64 p.1).wf = true
 nPort : S.lq.length ≤ 1048576
 wPort : ∀ p ∈ keysOf (fun x : PortD => x.id) S.lq, (Lit.int .i64 p.1).wf = true
def ToldS (o : Nat) (S : OpenD) (w' : World) : Prop := w'.cell? ⟨o, 0, none⟩ = some (.int .i64 S.q.id) ∧ w'.cell? ⟨o, 1, none⟩ = some (.int .i64 S.q.next) ∧ w'.cell? ⟨o, 2, none⟩ = some (.int .i64 6) ∧ w'.cell? ⟨o, 3, none⟩ = some (.map (some S.q.bp)) ∧ w'.cell? ⟨o, 4, none⟩ = some (.int .i64 5) ∧ w'.cell? ⟨o, 5, none⟩ = some (.map (some S.q.bs)) ∧ w'.cell? ⟨o, 6, none⟩ = some (.int .i64 5) ∧ w'.cell? ⟨o, 7, none⟩ = some (.map (some S.q.be)) ∧ w'.cell? ⟨o, 8, none⟩ = some (.int .i64 5) ∧ w'.cell? ⟨o, 9, none⟩ = some (.map (some S.q.bb)) ∧ w'.cell? ⟨o, 10, none⟩ = some (.int .i64 5) ∧ w'.cell? ⟨o, 11, none⟩ = some (.map (some S.q.bf)) ∧ w'.cell? ⟨o, 12, none⟩ = some (.int .i64 5) ∧ w'.cell? ⟨o, 13, none⟩ = some (.map (some S.q.bq))
theorem toldS_of {o : Nat} {S : OpenD} {w : World} (h : OpenBox w o S.q) : ToldS o S w := ⟨h.cell 0, h.cell 1, h.cell 2, h.cell 3, h.cell 4, h.cell 5, h.cell 6, h.cell 7, h.cell 8, h.cell 9, h.cell 10, h.cell 11, h.cell 12, h.cell 13⟩
/-- What telling an open partition ends in. -/
def PartEnds (w : World) (base : Nat) (v : PartP) (e : Ending) (w' : World) : Prop := ∃ r : PartD, e = .returned (.agg r.cells) ∧ PartOwn w' base r ∧ r.pure = v ∧ Below w.heap.size w w'
set_option maxRecDepth 100000 in
set_option maxHeartbeats 8000000 in
theorem toldPart_any (o base : Nat) (S : OpenD) (w : World) (h : OpenAt w base o S) (hf : S.Fits) : Calls Tryz.prog 85 #[.pointer (some ⟨o, 0, none⟩)] w fun e w' => PartEnds w base S.pure e w' := by
 have hb0 : Below w.heap.size w (w.alloc (.cells #[.int .i64 0, .int .i64 0, .slice none 0 0, .slice none 0 0, .slice none 0 0, .slice none 0 0, .slice none 0 0, .slice none 0 0] 32)) := (Below.refl _ _).alloc (Nat.le_refl _) _
 have HZ : Hid (OpenAt w base o S ∧ S.Fits ∧ Below w.heap.size w (w.alloc (.cells #[.int .i64 0, .int .i64 0, .slice none 0 0, .slice none 0 0, .slice none 0 0, .slice none 0 0, .slice none 0 0, .slice none 0 0] 32)).drew ∧ (w.alloc (.cells #[.int .i64 0, .int .i64 0, .slice none 0 0, .slice none 0 0, .slice none 0 0, .slice none 0 0, .slice none 0 0, .slice none 0 0] 32)).drew.heap[w.heap.size]? = some (.cells #[.int .i64 0, .int .i64 0, .slice none 0 0, .slice none 0 0, .slice none 0 0, .slice none 0 0, .slice none 0 0, .slice none 0 0] 32 (0, 0)) ∧ w.heap.size < (w.alloc (.cells #[.int .i64 0, .int .i64 0, .slice none 0 0, .slice none 0 0, .slice none 0 0, .slice none 0 0, .slice none 0 0, .slice none 0 0] 32)).drew.heap.size) := ⟨h, hf, hb0.drew, heap_alloc_new _ _, by simp⟩
 have HS : Hid (ToldS o S (w.alloc (.cells #[.int .i64 0, .int .i64 0, .slice none 0 0, .slice none 0 0, .slice none 0 0, .slice none 0 0, .slice none 0 0, .slice none 0 0] 32)).drew) := toldS_of (h.opn.below hb0.drew)
 clear h hf hb0
 go_enter Tryz.func85, Tryz.ntmps85
 go_wp2_with fail
 generalize w.alloc (.cells #[.int .i64 0, .int .i64 0, .slice none 0 0, .slice none 0 0, .slice none 0 0, .slice none 0 0, .slice none 0 0, .slice none 0 0] 32) = W at *
 refine wp_region_held_drew (S := ToldS o S) (by kernel_rfl) HS.out (fun hHeld => ?_)
 refine tk 0 (v := ?_) ?_ hHeld ?_; rotate_left; (intro w0 hS0; obtain ⟨q0, q1, q2, q3, q4, q5, q6, q7, q8, q9, q10, q11, q12, q13⟩ := hS0; go_simp; try with_reducible rfl); simp only [pt, sb, s0, s1]
 refine tk 1 (v := ?_) ?_ hHeld ?_; rotate_left; (intro w0 hS0; obtain ⟨q0, q1, q2, q3, q4, q5, q6, q7, q8, q9, q10, q11, q12, q13⟩ := hS0; go_simp; try with_reducible rfl); simp only [pt, sb, s0, s1]
 refine tk 2 (v := ?_) ?_ hHeld ?_; rotate_left; (intro w0 hS0; obtain ⟨q0, q1, q2, q3, q4, q5, q6, q7, q8, q9, q10, q11, q12, q13⟩ := hS0; go_simp; try with_reducible rfl); simp only [pt, sb, s0, s1]
 refine tk 3 (v := ?_) ?_ hHeld ?_; rotate_left; (intro w0 hS0; obtain ⟨q0, q1, q2, q3, q4, q5, q6, q7, q8, q9, q10, q11, q12, q13⟩ := hS0; go_simp; try with_reducible rfl); simp only [pt, sb, s0, s1]
 refine tk 4 (v := ?_) ?_ hHeld ?_; rotate_left; (intro w0 hS0; obtain ⟨q0, q1, q2, q3, q4, q5, q6, q7, q8, q9, q10, q11, q12, q13⟩ := hS0; go_simp; try with_reducible rfl); simp only [pt, sb, s0, s1]
 refine tk 5 (v := ?_) ?_ hHeld ?_; rotate_left; (intro w0 hS0; obtain ⟨q0, q1, q2, q3, q4, q5, q6, q7, q8, q9, q10, q11, q12, q13⟩ := hS0; go_simp; try with_reducible rfl); simp only [pt, sb, s0, s1]
 refine tk 6 (v := ?_) ?_ hHeld ?_; rotate_left; (intro w0 hS0; obtain ⟨q0, q1, q2, q3, q4, q5, q6, q7, q8, q9, q10, q11, q12, q13⟩ := hS0; go_simp; try with_reducible rfl); simp only [pt, sb, s0, s1]
 refine tk 7 (v := ?_) ?_ hHeld ?_; rotate_left; (intro w0 hS0; obtain ⟨q0, q1, q2, q3, q4, q5, q6, q7, q8, q9, q10, q11, q12, q13⟩ := hS0; go_simp; try with_reducible rfl); simp only [pt, sb, s0, s1]
 refine tk 8 (v := ?_) ?_ hHeld ?_; rotate_left; (intro w0 hS0; obtain ⟨q0, q1, q2, q3, q4, q5, q6, q7, q8, q9, q10, q11, q12, q13⟩ := hS0; go_simp; try with_reducible rfl); simp only [pt, sb, s0, s1]
 refine tk 9 (v := ?_) ?_ hHeld ?_; rotate_left; (intro w0 hS0; obtain ⟨q0, q1, q2, q3, q4, q5, q6, q7, q8, q9, q10, q11, q12, q13⟩ := hS0; go_simp; try with_reducible rfl); simp only [pt, sb, s0, s1]
 refine tk 10 (v := ?_) ?_ hHeld ?_; rotate_left; (intro w0 hS0; obtain ⟨q0, q1, q2, q3, q4, q5, q6, q7, q8, q9, q10, q11, q12, q13⟩ := hS0; go_simp; try with_reducible rfl); simp only [pt, sb, s0, s1]
 refine tk 11 (v := ?_) ?_ hHeld ?_; rotate_left; (intro w0 hS0; obtain ⟨q0, q1, q2, q3, q4, q5, q6, q7, q8, q9, q10, q11, q12, q13⟩ := hS0; go_simp; try with_reducible rfl); simp only [pt, sb, s0, s1]
 refine tk 13 (v := ?_) ?_ hHeld ?_; rotate_left; (intro w0 hS0; obtain ⟨q0, q1, q2, q3, q4, q5, q6, q7, q8, q9, q10, q11, q12, q13⟩ := hS0; go_simp; try with_reducible rfl); simp only [pt, sb, s0, s1]
 refine tk 14 (v := ?_) ?_ hHeld ?_; rotate_left; (intro w0 hS0; obtain ⟨q0, q1, q2, q3, q4, q5, q6, q7, q8, q9, q10, q11, q12, q13⟩ := hS0; go_simp; try with_reducible rfl); simp only [pt, sb, s0, s1]
 refine tk 15 (v := ?_) ?_ hHeld ?_; rotate_left; (intro w0 hS0; obtain ⟨q0, q1, q2, q3, q4, q5, q6, q7, q8, q9, q10, q11, q12, q13⟩ := hS0; go_simp; try with_reducible rfl); simp only [pt, sb, s0, s1]
 refine tk 16 (v := ?_) ?_ hHeld ?_; rotate_left; (intro w0 hS0; obtain ⟨q0, q1, q2, q3, q4, q5, q6, q7, q8, q9, q10, q11, q12, q13⟩ := hS0; go_simp; try with_reducible rfl); simp only [pt, sb, s0, s1]
 refine tk 18 (v := ?_) ?_ hHeld ?_; rotate_left; (intro w0 hS0; obtain ⟨q0, q1, q2, q3, q4, q5, q6, q7, q8, q9, q10, q11, q12, q13⟩ := hS0; go_simp; try with_reducible rfl); simp only [pt, sb, s0, s1]
 refine tk 19 (v := ?_) ?_ hHeld ?_; rotate_left; (intro w0 hS0; obtain ⟨q0, q1, q2, q3, q4, q5, q6, q7, q8, q9, q10, q11, q12, q13⟩ := hS0; go_simp; try with_reducible rfl); simp only [pt, sb, s0, s1]
 refine tk 20 (v := ?_) ?_ hHeld ?_; rotate_left; (intro w0 hS0; obtain ⟨q0, q1, q2, q3, q4, q5, q6, q7, q8, q9, q10, q11, q12, q13⟩ := hS0; go_simp; try with_reducible rfl); simp only [pt, sb, s0, s1]
 refine tk 21 (v := ?_) ?_ hHeld ?_; rotate_left; (intro w0 hS0; obtain ⟨q0, q1, q2, q3, q4, q5, q6, q7, q8, q9, q10, q11, q12, q13⟩ := hS0; go_simp; try with_reducible rfl); simp only [pt, sb, s0, s1]
 refine tk 23 (v := ?_) ?_ hHeld ?_; rotate_left; (intro w0 hS0; obtain ⟨q0, q1, q2, q3, q4, q5, q6, q7, q8, q9, q10, q11, q12, q13⟩ := hS0; go_simp; try with_reducible rfl); simp only [pt, sb, s0, s1]
 refine tk 24 (v := ?_) ?_ hHeld ?_; rotate_left; (intro w0 hS0; obtain ⟨q0, q1, q2, q3, q4, q5, q6, q7, q8, q9, q10, q11, q12, q13⟩ := hS0; go_simp; try with_reducible rfl); simp only [pt, sb, s0, s1]
 refine tk 25 (v := ?_) ?_ hHeld ?_; rotate_left; (intro w0 hS0; obtain ⟨q0, q1, q2, q3, q4, q5, q6, q7, q8, q9, q10, q11, q12, q13⟩ := hS0; go_simp; try with_reducible rfl); simp only [pt, sb, s0, s1]
 refine tk 26 (v := ?_) ?_ hHeld ?_; rotate_left; (intro w0 hS0; obtain ⟨q0, q1, q2, q3, q4, q5, q6, q7, q8, q9, q10, q11, q12, q13⟩ := hS0; go_simp; try with_reducible rfl); simp only [pt, sb, s0, s1]
 refine tk 28 (v := ?_) ?_ hHeld ?_; rotate_left; (intro w0 hS0; obtain ⟨q0, q1, q2, q3, q4, q5, q6, q7, q8, q9, q10, q11, q12, q13⟩ := hS0; go_simp; try with_reducible rfl); simp only [pt, sb, s0, s1]
 refine tk 29 (v := ?_) ?_ hHeld ?_; rotate_left; (intro w0 hS0; obtain ⟨q0, q1, q2, q3, q4, q5, q6, q7, q8, q9, q10, q11, q12, q13⟩ := hS0; go_simp; try with_reducible rfl); simp only [pt, sb, s0, s1]
 refine tk 30 (v := ?_) ?_ hHeld ?_; rotate_left; (intro w0 hS0; obtain ⟨q0, q1, q2, q3, q4, q5, q6, q7, q8, q9, q10, q11, q12, q13⟩ := hS0; go_simp; try with_reducible rfl); simp only [pt, sb, s0, s1]
 refine tk 31 (v := ?_) ?_ hHeld ?_; rotate_left; (intro w0 hS0; obtain ⟨q0, q1, q2, q3, q4, q5, q6, q7, q8, q9, q10, q11, q12, q13⟩ := hS0; go_simp; try with_reducible rfl); simp only [pt, sb, s0, s1]
 refine tk 33 (v := ?_) ?_ hHeld ?_; rotate_left; (intro w0 hS0; obtain ⟨q0, q1, q2, q3, q4, q5, q6, q7, q8, q9, q10, q11, q12, q13⟩ := hS0; go_simp; try with_reducible rfl); simp only [pt, sb, s0, s1]
 refine tk 34 (v := ?_) ?_ hHeld ?_; rotate_left; (intro w0 hS0; obtain ⟨q0, q1, q2, q3, q4, q5, q6, q7, q8, q9, q10, q11, q12, q13⟩ := hS0; go_simp; try with_reducible rfl); simp only [pt, sb, s0, s1]
 refine tk 35 (v := ?_) ?_ hHeld ?_; rotate_left; (intro w0 hS0; obtain ⟨q0, q1, q2, q3, q4, q5, q6, q7, q8, q9, q10, q11, q12, q13⟩ := hS0; go_simp; try with_reducible rfl); simp only [pt, sb, s0, s1]
 refine tk 36 (v := ?_) ?_ hHeld ?_; rotate_left; (intro w0 hS0; obtain ⟨q0, q1, q2, q3, q4, q5, q6, q7, q8, q9, q10, q11, q12, q13⟩ := hS0; go_simp; try with_reducible rfl); simp only [pt, sb, s0, s1]
 clear HS
 generalize hWd : W.drew = W0 at *
 clear hWd
 refine wpAnyH_ready (rs := [12]) (by kernel_rfl) (by simp) ?_
 refine AllReadyH.cons rfl (fun K hK => ?_) AllReadyH.nil
 simp only [List.getElem_toArray, List.getElem_cons_zero, List.getElem_cons_succ]
 rw [if_pos (by rfl)]
 go_wp2_with fail
 refine (toldProc_any 6 base S.q.bp S.lp W0 (HZ.out.1.procs.below HZ.out.2.2.1) HZ.out.2.1.nProc HZ.out.2.1.wProc).mono ?_
 rintro e W1 ⟨a1, c1, rfl, hown, hb⟩
 have HT1 : Hid (Btw W0.heap.size W1.heap.size (blk a1) ∧ W0.heap.size ≤ W1.heap.size) := ⟨btw_row hown, hb.size⟩
 have HY : Hid (W1.ownsRow W0.heap.size 43 12 (.slice a1 (S.lp.map (·.1)).length c1) (S.lp.map (·.1)).length (procK.flat (S.lp.map (·.1))) ∧ W0.heap.size ≤ W1.heap.size) := ⟨hown, hb.size⟩
 have HR := HY
 clear HY
 have HZ2 : Hid (OpenAt w base o S ∧ S.Fits ∧ Below w.heap.size w W1 ∧ W1.heap[w.heap.size]? = some (.cells #[.int .i64 0, .int .i64 0, .slice none 0 0, .slice none 0 0, .slice none 0 0, .slice none 0 0, .slice none 0 0, .slice none 0 0] 32 (0, 0)) ∧ w.heap.size < W0.heap.size) := ⟨HZ.out.1, HZ.out.2.1, HZ.out.2.2.1.trans (hb.mono HZ.out.2.2.1.size), (hb.block _ (Array.getElem?_eq_some_iff.1 HZ.out.2.2.2.1).1).trans HZ.out.2.2.2.1, HZ.out.2.2.2.2⟩
 clear HZ hown hb
 have HZ := HZ2
 clear HZ2 hHeld
 refine hK.out _ _ (toldS_of (HZ.out.1.opn.below HZ.out.2.2.1)) (fun hHeld => ?_)
 clear hK K
 try simp only [List.getElem_toArray, List.getElem_cons_zero, List.getElem_cons_succ, Act.put, List.setIfInBounds_toArray, List.set_cons_zero, List.set_cons_succ]
 refine wpAnyH_ready (rs := [17]) (by kernel_rfl) (by simp) ?_
 refine AllReadyH.cons rfl (fun K hK => ?_) AllReadyH.nil
 simp only [List.getElem_toArray, List.getElem_cons_zero, List.getElem_cons_succ]
 rw [if_pos (by rfl)]
 go_wp2_with fail
 refine (toldSem_any 5 base S.q.bs S.ls W1 (HZ.out.1.sems.below HZ.out.2.2.1) HZ.out.2.1.nSem HZ.out.2.1.wSem).mono ?_
 rintro e W2 ⟨a2, c2, rfl, hown, hb⟩
 have HT2 : Hid (Btw W1.heap.size W2.heap.size (blk a2) ∧ W1.heap.size ≤ W2.heap.size) := ⟨btw_row hown, hb.size⟩
 have HY : Hid (W2.ownsRow W0.heap.size 43 12 (.slice a1 (S.lp.map (·.1)).length c1) (S.lp.map (·.1)).length (procK.flat (S.lp.map (·.1))) ∧ W2.ownsRow W1.heap.size 49 3 (.slice a2 (S.ls.map (·.1)).length c2) (S.ls.map (·.1)).length (semK.flat (S.ls.map (·.1))) ∧ W0.heap.size ≤ W1.heap.size ∧ W1.heap.size ≤ W2.heap.size) := ⟨own_below HR.out.1 hb, hown, HR.out.2, hb.size⟩
 clear HR
 have HR := HY
 clear HY
 have HZ2 : Hid (OpenAt w base o S ∧ S.Fits ∧ Below w.heap.size w W2 ∧ W2.heap[w.heap.size]? = some (.cells #[.int .i64 0, .int .i64 0, .slice none 0 0, .slice none 0 0, .slice none 0 0, .slice none 0 0, .slice none 0 0, .slice none 0 0] 32 (0, 0)) ∧ w.heap.size < W0.heap.size) := ⟨HZ.out.1, HZ.out.2.1, HZ.out.2.2.1.trans (hb.mono HZ.out.2.2.1.size), (hb.block _ (Array.getElem?_eq_some_iff.1 HZ.out.2.2.2.1).1).trans HZ.out.2.2.2.1, HZ.out.2.2.2.2⟩
 clear HZ hown hb
 have HZ := HZ2
 clear HZ2 hHeld
 refine hK.out _ _ (toldS_of (HZ.out.1.opn.below HZ.out.2.2.1)) (fun hHeld => ?_)
 clear hK K
 try simp only [List.getElem_toArray, List.getElem_cons_zero, List.getElem_cons_succ, Act.put, List.setIfInBounds_toArray, List.set_cons_zero, List.set_cons_succ]
 refine wpAnyH_ready (rs := [22]) (by kernel_rfl) (by simp) ?_
 refine AllReadyH.cons rfl (fun K hK => ?_) AllReadyH.nil
 simp only [List.getElem_toArray, List.getElem_cons_zero, List.getElem_cons_succ]
 rw [if_pos (by rfl)]
 go_wp2_with fail
 refine (toldEvent_any 5 base S.q.be S.le W2 (HZ.out.1.events.below HZ.out.2.2.1) HZ.out.2.1.nEvent HZ.out.2.1.wEvent).mono ?_
 rintro e W3 ⟨a3, c3, rfl, hown, hb⟩
 have HT3 : Hid (Btw W2.heap.size W3.heap.size (blk a3) ∧ W2.heap.size ≤ W3.heap.size) := ⟨btw_row hown, hb.size⟩
 have HY : Hid (W3.ownsRow W0.heap.size 43 12 (.slice a1 (S.lp.map (·.1)).length c1) (S.lp.map (·.1)).length (procK.flat (S.lp.map (·.1))) ∧ W3.ownsRow W1.heap.size 49 3 (.slice a2 (S.ls.map (·.1)).length c2) (S.ls.map (·.1)).length (semK.flat (S.ls.map (·.1))) ∧ W3.ownsRow W2.heap.size 138 2 (.slice a3 (S.le.map (·.1)).length c3) (S.le.map (·.1)).length (eventK.flat (S.le.map (·.1))) ∧ W0.heap.size ≤ W1.heap.size ∧ W1.heap.size ≤ W2.heap.size ∧ W2.heap.size ≤ W3.heap.size) := ⟨own_below HR.out.1 hb, own_below HR.out.2.1 hb, hown, HR.out.2.2.1, HR.out.2.2.2, hb.size⟩
 clear HR
 have HR := HY
 clear HY
 have HZ2 : Hid (OpenAt w base o S ∧ S.Fits ∧ Below w.heap.size w W3 ∧ W3.heap[w.heap.size]? = some (.cells #[.int .i64 0, .int .i64 0, .slice none 0 0, .slice none 0 0, .slice none 0 0, .slice none 0 0, .slice none 0 0, .slice none 0 0] 32 (0, 0)) ∧ w.heap.size < W0.heap.size) := ⟨HZ.out.1, HZ.out.2.1, HZ.out.2.2.1.trans (hb.mono HZ.out.2.2.1.size), (hb.block _ (Array.getElem?_eq_some_iff.1 HZ.out.2.2.2.1).1).trans HZ.out.2.2.2.1, HZ.out.2.2.2.2⟩
 clear HZ hown hb
 have HZ := HZ2
 clear HZ2 hHeld
 refine hK.out _ _ (toldS_of (HZ.out.1.opn.below HZ.out.2.2.1)) (fun hHeld => ?_)
 clear hK K
 try simp only [List.getElem_toArray, List.getElem_cons_zero, List.getElem_cons_succ, Act.put, List.setIfInBounds_toArray, List.set_cons_zero, List.set_cons_succ]
 refine wpAnyH_ready (rs := [27]) (by kernel_rfl) (by simp) ?_
 refine AllReadyH.cons rfl (fun K hK => ?_) AllReadyH.nil
 simp only [List.getElem_toArray, List.getElem_cons_zero, List.getElem_cons_succ]
 rw [if_pos (by rfl)]
 go_wp2_with fail
 refine (toldBoard_any 5 base S.q.bb S.lb W3 (HZ.out.1.boards.below HZ.out.2.2.1) HZ.out.2.1.nBoard HZ.out.2.1.wBoard).mono ?_
 rintro e W4 ⟨a4, c4, rfl, hown, hb⟩
 have HT4 : Hid (Btw W3.heap.size W4.heap.size (blk a4) ∧ W3.heap.size ≤ W4.heap.size) := ⟨btw_row hown, hb.size⟩
 have HY : Hid (W4.ownsRow W0.heap.size 43 12 (.slice a1 (S.lp.map (·.1)).length c1) (S.lp.map (·.1)).length (procK.flat (S.lp.map (·.1))) ∧ W4.ownsRow W1.heap.size 49 3 (.slice a2 (S.ls.map (·.1)).length c2) (S.ls.map (·.1)).length (semK.flat (S.ls.map (·.1))) ∧ W4.ownsRow W2.heap.size 138 2 (.slice a3 (S.le.map (·.1)).length c3) (S.le.map (·.1)).length (eventK.flat (S.le.map (·.1))) ∧ W4.ownsRow W3.heap.size 141 3 (.slice a4 (S.lb.map (·.1)).length c4) (S.lb.map (·.1)).length (boardK.flat (S.lb.map (·.1))) ∧ W0.heap.size ≤ W1.heap.size ∧ W1.heap.size ≤ W2.heap.size ∧ W2.heap.size ≤ W3.heap.size ∧ W3.heap.size ≤ W4.heap.size) := ⟨own_below HR.out.1 hb, own_below HR.out.2.1 hb, own_below HR.out.2.2.1 hb, hown, HR.out.2.2.2.1, HR.out.2.2.2.2.1, HR.out.2.2.2.2.2, hb.size⟩
 clear HR
 have HR := HY
 clear HY
 have HZ2 : Hid (OpenAt w base o S ∧ S.Fits ∧ Below w.heap.size w W4 ∧ W4.heap[w.heap.size]? = some (.cells #[.int .i64 0, .int .i64 0, .slice none 0 0, .slice none 0 0, .slice none 0 0, .slice none 0 0, .slice none 0 0, .slice none 0 0] 32 (0, 0)) ∧ w.heap.size < W0.heap.size) := ⟨HZ.out.1, HZ.out.2.1, HZ.out.2.2.1.trans (hb.mono HZ.out.2.2.1.size), (hb.block _ (Array.getElem?_eq_some_iff.1 HZ.out.2.2.2.1).1).trans HZ.out.2.2.2.1, HZ.out.2.2.2.2⟩
 clear HZ hown hb
 have HZ := HZ2
 clear HZ2 hHeld
 refine hK.out _ _ (toldS_of (HZ.out.1.opn.below HZ.out.2.2.1)) (fun hHeld => ?_)
 clear hK K
 try simp only [List.getElem_toArray, List.getElem_cons_zero, List.getElem_cons_succ, Act.put, List.setIfInBounds_toArray, List.set_cons_zero, List.set_cons_succ]
 refine wpAnyH_ready (rs := [32]) (by kernel_rfl) (by simp) ?_
 refine AllReadyH.cons rfl (fun K hK => ?_) AllReadyH.nil
 simp only [List.getElem_toArray, List.getElem_cons_zero, List.getElem_cons_succ]
 rw [if_pos (by rfl)]
 go_wp2_with fail
 refine (toldBuffer_any 5 base S.q.bf S.lf W4 (HZ.out.1.buffers.below HZ.out.2.2.1) HZ.out.2.1.nBuffer HZ.out.2.1.wBuffer).mono ?_
 rintro e W5 ⟨a5, c5, rfl, hown, hb⟩
 have HT5 : Hid (Btw W4.heap.size W5.heap.size (blk a5) ∧ W4.heap.size ≤ W5.heap.size) := ⟨btw_row hown, hb.size⟩
 have HY : Hid (W5.ownsRow W0.heap.size 43 12 (.slice a1 (S.lp.map (·.1)).length c1) (S.lp.map (·.1)).length (procK.flat (S.lp.map (·.1))) ∧ W5.ownsRow W1.heap.size 49 3 (.slice a2 (S.ls.map (·.1)).length c2) (S.ls.map (·.1)).length (semK.flat (S.ls.map (·.1))) ∧ W5.ownsRow W2.heap.size 138 2 (.slice a3 (S.le.map (·.1)).length c3) (S.le.map (·.1)).length (eventK.flat (S.le.map (·.1))) ∧ W5.ownsRow W3.heap.size 141 3 (.slice a4 (S.lb.map (·.1)).length c4) (S.lb.map (·.1)).length (boardK.flat (S.lb.map (·.1))) ∧ W5.ownsRow W4.heap.size 144 3 (.slice a5 (S.lf.map (·.1)).length c5) (S.lf.map (·.1)).length (bufferK.flat (S.lf.map (·.1))) ∧ W0.heap.size ≤ W1.heap.size ∧ W1.heap.size ≤ W2.heap.size ∧ W2.heap.size ≤ W3.heap.size ∧ W3.heap.size ≤ W4.heap.size ∧ W4.heap.size ≤ W5.heap.size) := ⟨own_below HR.out.1 hb, own_below HR.out.2.1 hb, own_below HR.out.2.2.1 hb, own_below HR.out.2.2.2.1 hb, hown, HR.out.2.2.2.2.1, HR.out.2.2.2.2.2.1, HR.out.2.2.2.2.2.2.1, HR.out.2.2.2.2.2.2.2, hb.size⟩
 clear HR
 have HR := HY
 clear HY
 have HZ2 : Hid (OpenAt w base o S ∧ S.Fits ∧ Below w.heap.size w W5 ∧ W5.heap[w.heap.size]? = some (.cells #[.int .i64 0, .int .i64 0, .slice none 0 0, .slice none 0 0, .slice none 0 0, .slice none 0 0, .slice none 0 0, .slice none 0 0] 32 (0, 0)) ∧ w.heap.size < W0.heap.size) := ⟨HZ.out.1, HZ.out.2.1, HZ.out.2.2.1.trans (hb.mono HZ.out.2.2.1.size), (hb.block _ (Array.getElem?_eq_some_iff.1 HZ.out.2.2.2.1).1).trans HZ.out.2.2.2.1, HZ.out.2.2.2.2⟩
 clear HZ hown hb
 have HZ := HZ2
 clear HZ2 hHeld
 refine hK.out _ _ (toldS_of (HZ.out.1.opn.below HZ.out.2.2.1)) (fun hHeld => ?_)
 clear hK K
 try simp only [List.getElem_toArray, List.getElem_cons_zero, List.getElem_cons_succ, Act.put, List.setIfInBounds_toArray, List.set_cons_zero, List.set_cons_succ]
 refine wpAnyH_ready (rs := [37]) (by kernel_rfl) (by simp) ?_
 refine AllReadyH.cons rfl (fun K hK => ?_) AllReadyH.nil
 simp only [List.getElem_toArray, List.getElem_cons_zero, List.getElem_cons_succ]
 rw [if_pos (by rfl)]
 go_wp2_with fail
 refine (toldPort_any 5 base S.q.bq S.lq W5 (HZ.out.1.ports.below HZ.out.2.2.1) HZ.out.2.1.nPort HZ.out.2.1.wPort).mono ?_
 rintro e W6 ⟨a6, c6, rfl, hown, hb⟩
 have HT6 : Hid (Btw W5.heap.size W6.heap.size (blk a6) ∧ W5.heap.size ≤ W6.heap.size) := ⟨btw_row hown, hb.size⟩
 have HY : Hid (W6.ownsRow W0.heap.size 43 12 (.slice a1 (S.lp.map (·.1)).length c1) (S.lp.map (·.1)).length (procK.flat (S.lp.map (·.1))) ∧ W6.ownsRow W1.heap.size 49 3 (.slice a2 (S.ls.map (·.1)).length c2) (S.ls.map (·.1)).length (semK.flat (S.ls.map (·.1))) ∧ W6.ownsRow W2.heap.size 138 2 (.slice a3 (S.le.map (·.1)).length c3) (S.le.map (·.1)).length (eventK.flat (S.le.map (·.1))) ∧ W6.ownsRow W3.heap.size 141 3 (.slice a4 (S.lb.map (·.1)).length c4) (S.lb.map (·.1)).length (boardK.flat (S.lb.map (·.1))) ∧ W6.ownsRow W4.heap.size 144 3 (.slice a5 (S.lf.map (·.1)).length c5) (S.lf.map (·.1)).length (bufferK.flat (S.lf.map (·.1))) ∧ W6.ownsRow W5.heap.size 61 5 (.slice a6 (S.lq.map (·.1)).length c6) (S.lq.map (·.1)).length (portK.flat (S.lq.map (·.1))) ∧ W0.heap.size ≤ W1.heap.size ∧ W1.heap.size ≤ W2.heap.size ∧ W2.heap.size ≤ W3.heap.size ∧ W3.heap.size ≤ W4.heap.size ∧ W4.heap.size ≤ W5.heap.size ∧ W5.heap.size ≤ W6.heap.size) := ⟨own_below HR.out.1 hb, own_below HR.out.2.1 hb, own_below HR.out.2.2.1 hb, own_below HR.out.2.2.2.1 hb, own_below HR.out.2.2.2.2.1 hb, hown, HR.out.2.2.2.2.2.1, HR.out.2.2.2.2.2.2.1, HR.out.2.2.2.2.2.2.2.1, HR.out.2.2.2.2.2.2.2.2.1, HR.out.2.2.2.2.2.2.2.2.2, hb.size⟩
 clear HR
 have HR := HY
 clear HY
 have HZ2 : Hid (OpenAt w base o S ∧ S.Fits ∧ Below w.heap.size w W6 ∧ W6.heap[w.heap.size]? = some (.cells #[.int .i64 0, .int .i64 0, .slice none 0 0, .slice none 0 0, .slice none 0 0, .slice none 0 0, .slice none 0 0, .slice none 0 0] 32 (0, 0)) ∧ w.heap.size < W0.heap.size) := ⟨HZ.out.1, HZ.out.2.1, HZ.out.2.2.1.trans (hb.mono HZ.out.2.2.1.size), (hb.block _ (Array.getElem?_eq_some_iff.1 HZ.out.2.2.2.1).1).trans HZ.out.2.2.2.1, HZ.out.2.2.2.2⟩
 clear HZ hown hb
 have HZ := HZ2
 clear HZ2 hHeld
 refine hK.out _ _ (toldS_of (HZ.out.1.opn.below HZ.out.2.2.1)) (fun hHeld => ?_)
 clear hK K
 try simp only [List.getElem_toArray, List.getElem_cons_zero, List.getElem_cons_succ, Act.put, List.setIfInBounds_toArray, List.set_cons_zero, List.set_cons_succ]
 refine wpAnyH_take (i := 38) (v := .agg #[.int .i64 S.q.id, .int .i64 S.q.next, .slice a1 S.lp.length c1, .slice a2 S.ls.length c2, .slice a3 S.le.length c3, .slice a4 S.lb.length c4, .slice a5 S.lf.length c5, .slice a6 S.lq.length c6]) rfl (by kernel_rfl) (by kernel_rfl) (by kernel_rfl) (fun _ _ _ h => h) (Or.inl ⟨by kernel_rfl, ?_⟩) hHeld ?_
 ·intro w0 hS0
  go_simp
  try with_reducible rfl
 simp only [List.getElem_toArray, List.getElem_cons_zero, List.getElem_cons_succ, Act.put, List.setIfInBounds_toArray, List.set_cons_zero, List.set_cons_succ]
 refine wpAnyH_ready (rs := [39]) (by kernel_rfl) (by simp) ?_
 refine AllReadyH.cons rfl (fun K hK => ?_) AllReadyH.nil
 simp only [List.getElem_toArray, List.getElem_cons_zero, List.getElem_cons_succ]
 rw [if_pos (by rfl)]
 refine oper_store _ _ _ rfl w.heap.size _ _ #[.int .i64 S.q.id, .int .i64 S.q.next, .slice a1 S.lp.length c1, .slice a2 S.ls.length c2, .slice a3 S.le.length c3, .slice a4 S.lb.length c4, .slice a5 S.lf.length c5, .slice a6 S.lq.length c6] rfl rfl HZ.out.2.2.2.1 (by kernel_rfl) rfl (by simp [Value.oneCell']) ?_
 have hol : o < w.heap.size := (Array.getElem?_eq_some_iff.1 HZ.out.1.opn).1
 have hbs : Below w.heap.size w (W6.setRow w.heap.size #[.int .i64 S.q.id, .int .i64 S.q.next, .slice a1 S.lp.length c1, .slice a2 S.ls.length c2, .slice a3 S.le.length c3, .slice a4 S.lb.length c4, .slice a5 S.lf.length c5, .slice a6 S.lq.length c6]) := below_setRow HZ.out.2.2.1 (Nat.le_refl _) _
 refine hK.out _ _ (toldS_of (HZ.out.1.opn.below hbs)) (fun hHeld => ?_)
 clear hK K hHeld
 refine wpAnyH_done (by kernel_rfl) ?_ _
 repeat (first | go_values | go_skip | go_guarded | go_step | go_upon)
 refine bodyPost_ret (v := .agg #[.int .i64 S.q.id, .int .i64 S.q.next, .slice a1 S.lp.length c1, .slice a2 S.ls.length c2, .slice a3 S.le.length c3, .slice a4 S.lb.length c4, .slice a5 S.lf.length c5, .slice a6 S.lq.length c6]) (results_cell_row Tryz.results85 _ _ w.heap.size _ _ (0, 0) _ rfl (setRow_heap _ _ _ _ _ _ HZ.out.2.2.2.1) Tryz.underlying32 rfl (by kernel_rfl)) rfl ?_
 have hA := HZ.out.1
 have hbel := HZ.out.2.2.1
 have hlo := hA.low
 have hw0 := HZ.out.2.2.2.2
 have t1 := HT1.out.2
 have t2 := HT2.out.2
 have t3 := HT3.out.2
 have t4 := HT4.out.2
 have t5 := HT5.out.2
 have t6 := HT6.out.2
 have hmP : ∀ q ∈ S.lp, procN.Mine W6 base q.1 := fun q hq => (hA.mineP q hq).same fun g hk => hbel.block g ((hA.mineP q hq).lt hk).2
 have hmF : ∀ q ∈ S.lf, bufferN.Mine W6 base q.1 := fun q hq => (hA.mineF q hq).same fun g hk => hbel.block g ((hA.mineF q hq).lt hk).2
 have hmQ : ∀ q ∈ S.lq, portN.Mine W6 base q.1 := fun q hq => (hA.mineQ q hq).same fun g hk => hbel.block g ((hA.mineQ q hq).lt hk).2
 have hkn : S.kids.Nodup := (List.nodup_append.1 (List.nodup_cons.1 hA.nodup).2).2.1
 have hkl : ∀ g ∈ S.kids, g < w.heap.size := fun g hg => by
  simp only [OpenD.kids, List.mem_append, kids, List.mem_filterMap] at hg
  rcases hg with ⟨q, hq, hk⟩ | ⟨q, hq, hk⟩ | ⟨q, hq, hk⟩
  ·exact ((hA.mineP q hq).lt hk).2
  ·exact ((hA.mineF q hq).lt hk).2
  ·exact ((hA.mineQ q hq).lt hk).2
 have eP : (S.lp.map (·.1)).filterMap procN.kid = kids procN S.lp := by rw [List.filterMap_map]; rfl
 have eF : (S.lf.map (·.1)).filterMap bufferN.kid = kids bufferN S.lf := by rw [List.filterMap_map]; rfl
 have eQ : (S.lq.map (·.1)).filterMap portN.kid = kids portN S.lq := by rw [List.filterMap_map]; rfl
 have hown : PartOwn W6 base (⟨S.q.id, S.q.next, S.lp.map (·.1), a1, c1, S.ls.map (·.1), a2, c2, S.le.map (·.1), a3, c3, S.lb.map (·.1), a4, c4, S.lf.map (·.1), a5, c5, S.lq.map (·.1), a6, c6⟩ : PartD) := by
  refine ⟨own_low HR.out.1 (by omega), own_low HR.out.2.1 (by omega), own_low HR.out.2.2.1 (by omega), own_low HR.out.2.2.2.1 (by omega), own_low HR.out.2.2.2.2.1 (by omega), own_low HR.out.2.2.2.2.2.1 (by omega), ?_, ?_, ?_, ?_⟩
  ·intro x hx
   obtain ⟨q, hq, rfl⟩ := List.mem_map.1 hx
   exact hmP q hq
  ·intro x hx
   obtain ⟨q, hq, rfl⟩ := List.mem_map.1 hx
   exact hmF q hq
  ·intro x hx
   obtain ⟨q, hq, rfl⟩ := List.mem_map.1 hx
   exact hmQ q hq
  ·simp only [PartD.blocks, eP, eF, eQ]
   exact nodup_told (N := W0.heap.size) hkn (fun g hg => by have := hkl g hg; omega) HT1.out.1 HT2.out.1 HT3.out.1 HT4.out.1 HT5.out.1 HT6.out.1 ⟨t1, t2, t3, t4, t5, t6⟩
 have hne : ∀ g ∈ (⟨S.q.id, S.q.next, S.lp.map (·.1), a1, c1, S.ls.map (·.1), a2, c2, S.le.map (·.1), a3, c3, S.lb.map (·.1), a4, c4, S.lf.map (·.1), a5, c5, S.lq.map (·.1), a6, c6⟩ : PartD).blocks, g ≠ w.heap.size := fun g hg e => by
  simp only [PartD.blocks, eP, eF, eQ, List.mem_append] at hg
  have hk : ∀ g, (g ∈ kids procN S.lp ∨ g ∈ kids bufferN S.lf ∨ g ∈ kids portN S.lq) → g < w.heap.size := fun g h5 => hkl g (by simp only [OpenD.kids, List.mem_append]; exact h5)
  rcases hg with hg | hg | hg | hg | hg | hg | hg | hg | hg
  ·have := (HT1.out.1.2 g hg).1; omega
  ·have := hk g (.inl hg); omega
  ·have := (HT2.out.1.2 g hg).1; omega
  ·have := (HT3.out.1.2 g hg).1; omega
  ·have := (HT4.out.1.2 g hg).1; omega
  ·have := (HT5.out.1.2 g hg).1; omega
  ·have := hk g (.inr (.inl hg)); omega
  ·have := (HT6.out.1.2 g hg).1; omega
  ·have := hk g (.inr (.inr hg)); omega
 exact ⟨(⟨S.q.id, S.q.next, S.lp.map (·.1), a1, c1, S.ls.map (·.1), a2, c2, S.le.map (·.1), a3, c3, S.lb.map (·.1), a4, c4, S.lf.map (·.1), a5, c5, S.lq.map (·.1), a6, c6⟩ : PartD), by simp [PartD.cells], hown.same fun g hg => setRow_other _ _ _ _ (hne g hg), by simp [PartD.pure, OpenD.pure, Function.comp_def], hbs⟩
end Go.Proofs.YtkbcplnlehdjfaaGreat

/- What comes in as a law's argument, opened: lists of things, and a partition. (Made by mkopenl.py.) -/
namespace Go.Proofs.YtkbcplnlehdjfaaGreat
open Go.RowKit Go.ChangeShapes Go.WideShapes Go.Joins Go.Deep
theorem list_of {α : Type} {p : Nat → α → Prop} : ∀ n, (∀ i, i < n → ∃ y, p i y) → ∃ l : List α, l.length = n ∧ ∀ i y, l[i]? = some y → p i y
 | 0, _ => ⟨[], rfl, fun i y h => by simp at h⟩
 | n + 1, h => by
  obtain ⟨l, hl, hp⟩ := list_of n fun i hi => h i (by omega)
  obtain ⟨y, hy⟩ := h n (by omega)
  refine ⟨l ++ [y], by simp [hl], fun i z hz => ?_⟩
  by_cases hi : i < l.length
  ·rw [List.getElem?_append_left hi] at hz
   exact hp i z hz
  ·rw [List.getElem?_append_right (by omega)] at hz
   have e : i - l.length = 0 := by
    have := (List.getElem?_eq_some_iff.1 hz).1
    simp at this
    omega
   rw [e] at hz
   simp only [List.getElem?_cons_zero, Option.some.injEq] at hz
   subst hz
   have : i = n := by omega
   subst this
   exact hy
section
variable {H : Type} {enc : TypeId × Value → H} {W : World}
/-- The fields of a struct of one-cell fields, each by itself. -/
theorem fields1 {t : TypeId} {fs : Array Field} {fuel : Nat} {cs : List Value} {x : DataW H × List MemPlace} (ht : Tryz.prog.underlying t = some (.struct fs)) (hone : oneCellFields Tryz.prog fs = true) (h : DataW.trod enc Tryz.prog W 0 (fun _ => true) true fuel t cs = some x) :
  cs.length = Tryz.prog.cellsOf t ∧ ∃ n, ∀ (i : Nat) (f : Field) (v : Value), fs[i]? = some f → cs[i]? = some v → ∃ y, DataW.trod enc Tryz.prog W 0 (fun _ => true) true n f.type [v] = some y := by
 obtain ⟨xs, n, _, _, hl, hlen, hf⟩ := DataW.trod_struct ht h
 refine ⟨hl, n, fun i f v hfi hv => ?_⟩
 obtain ⟨o1, o2⟩ := hone_of hone i f hfi
 have h1 := hf i f hfi
 have hi : i < xs.length := by rw [hlen]; exact (Array.getElem?_eq_some_iff.1 hfi).1
 rw [o1, o2, List.getElem?_eq_getElem hi] at h1
 have h2 : (cs.drop i).take 1 = [v] := by
  obtain ⟨hlt, rfl⟩ := List.getElem?_eq_some_iff.1 hv
  rw [List.drop_eq_getElem_cons hlt]
  rfl
 rw [h2] at h1
 exact ⟨_, h1⟩
/-- A list of things that came in. -/
theorem open_list {α : Type} (K : Kind α) (G : α → Prop) {t e : TypeId} (ht : Tryz.prog.underlying t = some (.slice e)) (hn : Tryz.prog.cellsOf e = K.n) (hel : ∀ n cs x, DataW.trod enc Tryz.prog W 0 (fun _ => true) true n e cs = some x → ∃ y, cs = K.vals y ∧ G y)
  {fuel : Nat} {v : Value} {x : DataW H × List MemPlace} (h : DataW.trod enc Tryz.prog W 0 (fun _ => true) true fuel t [v] = some x) :
  ∃ (a : Option Addr) (l : List α) (cap : Nat), v = .slice a l.length cap ∧ l.length ≤ maxLen ∧ Src W a (K.flat l) ∧ ∀ y ∈ l, G y := by
 rcases open_slice ht h with ⟨e1, _⟩ | ⟨a, len, cap, q, n, Dd, Pl, e1, _, hl, hm, hq, _, hx⟩
 ·simp only [List.cons.injEq, and_true] at e1
  exact ⟨none, [], 0, e1, Nat.zero_le _, (fun j u hu => by simp [Kind.flat] at hu), fun y hy => by cases hy⟩
 ·simp only [List.cons.injEq, and_true] at e1
  simp only [if_true] at hq
  have key : ∀ i, i < len → ∃ y, (∀ r, r < K.n → W.cell? (a.add (i * K.n + r)) = (K.vals y)[r]?) ∧ G y := fun i hi => by
   obtain ⟨cs', k1, k2⟩ := hx i (by omega)
   rw [hn] at k1
   obtain ⟨_, _, kc⟩ := World.cells?_some k1
   obtain ⟨y, rfl, hy⟩ := hel _ _ _ k2
   refine ⟨y, fun r hr => ?_, hy⟩
   have := kc r hr
   rw [add_add] at this
   exact this
  obtain ⟨l, hlen, hp⟩ := list_of len key
  refine ⟨some a, l, cap, by rw [hlen]; exact e1, by rw [hlen]; omega, fun j u hu => ?_, fun y hy => ?_⟩
  ·have hj : j < l.length * K.n := by
    rw [← K.flat_length]
    exact (List.getElem?_eq_some_iff.1 hu).1
   have hi : j / K.n < l.length := Nat.div_lt_of_lt_mul (by rw [Nat.mul_comm]; exact hj)
   have hr : j % K.n < K.n := Nat.mod_lt _ K.pos
   have ej : j / K.n * K.n + j % K.n = j := by rw [Nat.mul_comm]; exact Nat.div_add_mod j K.n
   obtain ⟨y, hy⟩ : ∃ y, l[j / K.n]? = some y := ⟨_, List.getElem?_eq_getElem hi⟩
   have h1 := (hp _ _ hy).1 (j % K.n) hr
   rw [← K.flat_get hy hr, ej, hu] at h1
   obtain ⟨b, off, spot⟩ := a
   have hspot : spot = none := by
    obtain ⟨y0, hy0⟩ : ∃ y, l[0]? = some y := ⟨_, List.getElem?_eq_getElem (Nat.lt_of_le_of_lt (Nat.zero_le _) hi)⟩
    have h2 := (hp _ _ hy0).1 0 K.pos
    rw [List.getElem?_eq_getElem (by rw [K.len]; exact K.pos)] at h2
    have := World.cell?_spot h2
    simpa [Addr.add] using this
   subst hspot
   rw [add_plain] at h1
   exact ⟨b, off, rfl, h1⟩
  ·obtain ⟨i, hi⟩ := List.mem_iff_getElem?.1 hy
   exact (hp _ _ hi).2
theorem cellsStr : Tryz.prog.cellsOf 9 = strK.n := by kernel_rfl
theorem openStr_in {fuel : Nat} {cs : List Value} {x : DataW H × List MemPlace} (h : DataW.trod enc Tryz.prog W 0 (fun _ => true) true fuel 9 cs = some x) : ∃ s : ByteArray, cs = strK.vals s ∧ s.size ≤ maxLen := by
 obtain ⟨s, e, -, hs⟩ := DataW.trod_string Tryz.underlying9 h
 exact ⟨s, e, hs⟩
theorem cellsOp : Tryz.prog.cellsOf 174 = 4 := by kernel_rfl
theorem openOp_in {fuel : Nat} {cs : List Value} {x : DataW H × List MemPlace} (h : DataW.trod enc Tryz.prog W 0 (fun _ => true) true fuel 174 cs = some x) : ∃ y, cs = opK.vals y ∧ (fun o : OpD => o.2.2.2.size ≤ maxLen) y := by
 obtain ⟨hlen, n, hf⟩ := fields1 Tryz.underlying174 (by kernel_rfl) h
 rw [cellsOp] at hlen
 match cs, hlen with
 | [v0, v1, v2, v3], _ =>
  obtain ⟨y0, h0⟩ := hf 0 _ v0 rfl rfl
  obtain ⟨a0, e0, -, w0⟩ := DataW.trod_int Tryz.underlying2 h0
  obtain ⟨y1, h1⟩ := hf 1 _ v1 rfl rfl
  obtain ⟨a1, e1, -, w1⟩ := DataW.trod_int Tryz.underlying2 h1
  obtain ⟨y2, h2⟩ := hf 2 _ v2 rfl rfl
  obtain ⟨a2, e2, -, w2⟩ := DataW.trod_int Tryz.underlying2 h2
  obtain ⟨y3, h3⟩ := hf 3 _ v3 rfl rfl
  obtain ⟨a3, e3, -, s3⟩ := DataW.trod_string Tryz.underlying9 h3
  simp only [List.cons.injEq, and_true] at e0 e1 e2 e3
  subst e0 e1 e2 e3
  exact ⟨(a0, a1, a2, a3), rfl, s3⟩
theorem cellsSem : Tryz.prog.cellsOf 83 = 3 := by kernel_rfl
theorem openSem_in {fuel : Nat} {cs : List Value} {x : DataW H × List MemPlace} (h : DataW.trod enc Tryz.prog W 0 (fun _ => true) true fuel 83 cs = some x) : ∃ y, cs = semK.vals y ∧ (fun y : SemD => (Lit.int .i64 y.id).wf = true) y := by
 obtain ⟨hlen, n, hf⟩ := fields1 Tryz.underlying83 (by kernel_rfl) h
 rw [cellsSem] at hlen
 match cs, hlen with
 | [v0, v1, v2], _ =>
  obtain ⟨y0, h0⟩ := hf 0 _ v0 rfl rfl
  obtain ⟨a0, e0, -, w0⟩ := DataW.trod_int Tryz.underlying2 h0
  obtain ⟨y1, h1⟩ := hf 1 _ v1 rfl rfl
  obtain ⟨a1, e1, -, w1⟩ := DataW.trod_int Tryz.underlying2 h1
  obtain ⟨y2, h2⟩ := hf 2 _ v2 rfl rfl
  obtain ⟨a2, e2, -, w2⟩ := DataW.trod_int Tryz.underlying2 h2
  simp only [List.cons.injEq, and_true] at e0 e1 e2
  subst e0 e1 e2
  exact ⟨⟨a0, a1, a2⟩, rfl, w0⟩
theorem cellsEvent : Tryz.prog.cellsOf 242 = 2 := by kernel_rfl
theorem openEvent_in {fuel : Nat} {cs : List Value} {x : DataW H × List MemPlace} (h : DataW.trod enc Tryz.prog W 0 (fun _ => true) true fuel 242 cs = some x) : ∃ y, cs = eventK.vals y ∧ (fun y : EventD => (Lit.int .i64 y.id).wf = true) y := by
 obtain ⟨hlen, n, hf⟩ := fields1 Tryz.underlying242 (by kernel_rfl) h
 rw [cellsEvent] at hlen
 match cs, hlen with
 | [v0, v1], _ =>
  obtain ⟨y0, h0⟩ := hf 0 _ v0 rfl rfl
  obtain ⟨a0, e0, -, w0⟩ := DataW.trod_int Tryz.underlying2 h0
  obtain ⟨y1, h1⟩ := hf 1 _ v1 rfl rfl
  obtain ⟨a1, e1, -⟩ := DataW.trod_bool Tryz.underlying4 h1
  simp only [List.cons.injEq, and_true] at e0 e1
  subst e0 e1
  exact ⟨⟨a0, a1⟩, rfl, w0⟩
theorem cellsBoard : Tryz.prog.cellsOf 237 = 3 := by kernel_rfl
theorem openBoard_in {fuel : Nat} {cs : List Value} {x : DataW H × List MemPlace} (h : DataW.trod enc Tryz.prog W 0 (fun _ => true) true fuel 237 cs = some x) : ∃ y, cs = boardK.vals y ∧ (fun y : BoardD => (Lit.int .i64 y.id).wf = true ∧ y.text.size ≤ maxLen) y := by
 obtain ⟨hlen, n, hf⟩ := fields1 Tryz.underlying237 (by kernel_rfl) h
 rw [cellsBoard] at hlen
 match cs, hlen with
 | [v0, v1, v2], _ =>
  obtain ⟨y0, h0⟩ := hf 0 _ v0 rfl rfl
  obtain ⟨a0, e0, -, w0⟩ := DataW.trod_int Tryz.underlying2 h0
  obtain ⟨y1, h1⟩ := hf 1 _ v1 rfl rfl
  obtain ⟨a1, e1, -⟩ := DataW.trod_bool Tryz.underlying4 h1
  obtain ⟨y2, h2⟩ := hf 2 _ v2 rfl rfl
  obtain ⟨a2, e2, -, s2⟩ := DataW.trod_string Tryz.underlying9 h2
  simp only [List.cons.injEq, and_true] at e0 e1 e2
  subst e0 e1 e2
  exact ⟨⟨a0, a1, a2⟩, rfl, w0, s2⟩
theorem cellsBuffer : Tryz.prog.cellsOf 239 = 3 := by kernel_rfl
theorem openBuffer_in {fuel : Nat} {cs : List Value} {x : DataW H × List MemPlace} (h : DataW.trod enc Tryz.prog W 0 (fun _ => true) true fuel 239 cs = some x) : ∃ y, cs = bufferK.vals y ∧ (fun y : BufferD => (Lit.int .i64 y.id).wf = true ∧ (y.items.length ≤ maxLen ∧ ∀ s ∈ y.items, s.size ≤ maxLen) ∧ Src W y.itemsA (strK.flat y.items)) y := by
 obtain ⟨hlen, n, hf⟩ := fields1 Tryz.underlying239 (by kernel_rfl) h
 rw [cellsBuffer] at hlen
 match cs, hlen with
 | [v0, v1, v2], _ =>
  obtain ⟨y0, h0⟩ := hf 0 _ v0 rfl rfl
  obtain ⟨a0, e0, -, w0⟩ := DataW.trod_int Tryz.underlying2 h0
  obtain ⟨y1, h1⟩ := hf 1 _ v1 rfl rfl
  obtain ⟨a1, e1, -, w1⟩ := DataW.trod_int Tryz.underlying2 h1
  obtain ⟨y2, h2⟩ := hf 2 _ v2 rfl rfl
  obtain ⟨b2, l2, c2, e2, z2, r2, g2⟩ := open_list strK (fun s => s.size ≤ maxLen) Tryz.underlying59 cellsStr (fun _ _ _ h => openStr_in h) h2
  simp only [List.cons.injEq, and_true] at e0 e1
  subst e0 e1 e2
  exact ⟨⟨⟨a0, a1, l2⟩, b2, c2⟩, rfl, w0, ⟨z2, g2⟩, r2⟩
theorem cellsPort : Tryz.prog.cellsOf 88 = 5 := by kernel_rfl
theorem openPort_in {fuel : Nat} {cs : List Value} {x : DataW H × List MemPlace} (h : DataW.trod enc Tryz.prog W 0 (fun _ => true) true fuel 88 cs = some x) : ∃ y, cs = portK.vals y ∧ (fun y : PortD => (Lit.int .i64 y.id).wf = true ∧ (y.items.length ≤ maxLen ∧ ∀ s ∈ y.items, s.size ≤ maxLen) ∧ Src W y.itemsA (strK.flat y.items)) y := by
 obtain ⟨hlen, n, hf⟩ := fields1 Tryz.underlying88 (by kernel_rfl) h
 rw [cellsPort] at hlen
 match cs, hlen with
 | [v0, v1, v2, v3, v4], _ =>
  obtain ⟨y0, h0⟩ := hf 0 _ v0 rfl rfl
  obtain ⟨a0, e0, -, w0⟩ := DataW.trod_int Tryz.underlying2 h0
  obtain ⟨y1, h1⟩ := hf 1 _ v1 rfl rfl
  obtain ⟨a1, e1, -⟩ := DataW.trod_bool Tryz.underlying4 h1
  obtain ⟨y2, h2⟩ := hf 2 _ v2 rfl rfl
  obtain ⟨a2, e2, -⟩ := DataW.trod_bool Tryz.underlying4 h2
  obtain ⟨y3, h3⟩ := hf 3 _ v3 rfl rfl
  obtain ⟨a3, e3, -, w3⟩ := DataW.trod_int Tryz.underlying2 h3
  obtain ⟨y4, h4⟩ := hf 4 _ v4 rfl rfl
  obtain ⟨b4, l4, c4, e4, z4, r4, g4⟩ := open_list strK (fun s => s.size ≤ maxLen) Tryz.underlying59 cellsStr (fun _ _ _ h => openStr_in h) h4
  simp only [List.cons.injEq, and_true] at e0 e1 e2 e3
  subst e0 e1 e2 e3 e4
  exact ⟨⟨⟨a0, a1, a2, a3, l4⟩, b4, c4⟩, rfl, w0, ⟨z4, g4⟩, r4⟩
theorem cellsProc : Tryz.prog.cellsOf 235 = 12 := by kernel_rfl
theorem openProc_in {fuel : Nat} {cs : List Value} {x : DataW H × List MemPlace} (h : DataW.trod enc Tryz.prog W 0 (fun _ => true) true fuel 235 cs = some x) : ∃ y, cs = procK.vals y ∧ (fun y : ProcD => y.Wf ∧ ((y.prog.length ≤ maxLen ∧ ∀ o ∈ y.prog, o.2.2.2.size ≤ maxLen) ∧ y.held.size ≤ maxLen ∧ y.got.size ≤ maxLen) ∧ Src W y.progA (opK.flat y.prog)) y := by
 obtain ⟨hlen, n, hf⟩ := fields1 Tryz.underlying235 (by kernel_rfl) h
 rw [cellsProc] at hlen
 match cs, hlen with
 | [v0, v1, v2, v3, v4, v5, v6, v7, v8, v9, v10, v11], _ =>
  obtain ⟨y0, h0⟩ := hf 0 _ v0 rfl rfl
  obtain ⟨a0, e0, -, w0⟩ := DataW.trod_int Tryz.underlying2 h0
  obtain ⟨y1, h1⟩ := hf 1 _ v1 rfl rfl
  obtain ⟨a1, e1, -, w1⟩ := DataW.trod_int Tryz.underlying2 h1
  obtain ⟨y2, h2⟩ := hf 2 _ v2 rfl rfl
  obtain ⟨b2, l2, c2, e2, z2, r2, g2⟩ := open_list opK (fun o => o.2.2.2.size ≤ maxLen) Tryz.underlying77 cellsOp (fun _ _ _ h => openOp_in h) h2
  obtain ⟨y3, h3⟩ := hf 3 _ v3 rfl rfl
  obtain ⟨a3, e3, -, w3⟩ := DataW.trod_int Tryz.underlying2 h3
  obtain ⟨y4, h4⟩ := hf 4 _ v4 rfl rfl
  obtain ⟨a4, e4, -, w4⟩ := DataW.trod_int Tryz.underlying2 h4
  obtain ⟨y5, h5⟩ := hf 5 _ v5 rfl rfl
  obtain ⟨a5, e5, -, w5⟩ := DataW.trod_int Tryz.underlying2 h5
  obtain ⟨y6, h6⟩ := hf 6 _ v6 rfl rfl
  obtain ⟨a6, e6, -, w6⟩ := DataW.trod_int Tryz.underlying2 h6
  obtain ⟨y7, h7⟩ := hf 7 _ v7 rfl rfl
  obtain ⟨a7, e7, -, w7⟩ := DataW.trod_int Tryz.underlying2 h7
  obtain ⟨y8, h8⟩ := hf 8 _ v8 rfl rfl
  obtain ⟨a8, e8, -, s8⟩ := DataW.trod_string Tryz.underlying9 h8
  obtain ⟨y9, h9⟩ := hf 9 _ v9 rfl rfl
  obtain ⟨a9, e9, -, s9⟩ := DataW.trod_string Tryz.underlying9 h9
  obtain ⟨y10, h10⟩ := hf 10 _ v10 rfl rfl
  obtain ⟨a10, e10, -, w10⟩ := DataW.trod_int Tryz.underlying2 h10
  obtain ⟨y11, h11⟩ := hf 11 _ v11 rfl rfl
  obtain ⟨a11, e11, -, w11⟩ := DataW.trod_int Tryz.underlying2 h11
  simp only [List.cons.injEq, and_true] at e0 e1 e3 e4 e5 e6 e7 e8 e9 e10 e11
  subst e0 e1 e3 e4 e5 e6 e7 e8 e9 e10 e11 e2
  exact ⟨⟨⟨a0, a1, l2, a3, a4, a5, a6, a7, a8, a9, a10, a11⟩, b2, c2⟩, rfl, ⟨w0, w7, w11⟩, ⟨⟨z2, g2⟩, s8, s9⟩, r2⟩
set_option maxRecDepth 100000 in
/-- A partition that came in. -/
theorem open_part_cells {fuel : Nat} {cs : List Value} {x : DataW H × List MemPlace} (h : DataW.trod enc Tryz.prog W 0 (fun _ => true) true fuel 73 cs = some x) : ∃ p : PartD, cs = p.cells.toList ∧ p.Big ∧ p.Came W ∧ p.Ints := by
 obtain ⟨hlen, n, hf⟩ := fields1 Tryz.underlying73 (by kernel_rfl) h
 rw [show Tryz.prog.cellsOf 73 = 8 by kernel_rfl] at hlen
 match cs, hlen with
 | [v0, v1, v2, v3, v4, v5, v6, v7], _ =>
  obtain ⟨y0, h0⟩ := hf 0 _ v0 rfl rfl
  obtain ⟨y1, h1⟩ := hf 1 _ v1 rfl rfl
  obtain ⟨a0, e0, -, -⟩ := DataW.trod_int Tryz.underlying2 h0
  obtain ⟨a1, e1, -, -⟩ := DataW.trod_int Tryz.underlying2 h1
  obtain ⟨y2, h2⟩ := hf 2 _ v2 rfl rfl
  obtain ⟨b2, l2, c2, e2, z2, r2, g2⟩ := open_list procK (fun y : ProcD => y.Wf ∧ ((y.prog.length ≤ maxLen ∧ ∀ o ∈ y.prog, o.2.2.2.size ≤ maxLen) ∧ y.held.size ≤ maxLen ∧ y.got.size ≤ maxLen) ∧ Src W y.progA (opK.flat y.prog)) Tryz.underlying66 (by kernel_rfl) (fun _ _ _ h => openProc_in h) h2
  obtain ⟨y3, h3⟩ := hf 3 _ v3 rfl rfl
  obtain ⟨b3, l3, c3, e3, z3, r3, g3⟩ := open_list semK (fun y : SemD => (Lit.int .i64 y.id).wf = true) Tryz.underlying67 (by kernel_rfl) (fun _ _ _ h => openSem_in h) h3
  obtain ⟨y4, h4⟩ := hf 4 _ v4 rfl rfl
  obtain ⟨b4, l4, c4, e4, z4, r4, g4⟩ := open_list eventK (fun y : EventD => (Lit.int .i64 y.id).wf = true) Tryz.underlying68 (by kernel_rfl) (fun _ _ _ h => openEvent_in h) h4
  obtain ⟨y5, h5⟩ := hf 5 _ v5 rfl rfl
  obtain ⟨b5, l5, c5, e5, z5, r5, g5⟩ := open_list boardK (fun y : BoardD => (Lit.int .i64 y.id).wf = true ∧ y.text.size ≤ maxLen) Tryz.underlying69 (by kernel_rfl) (fun _ _ _ h => openBoard_in h) h5
  obtain ⟨y6, h6⟩ := hf 6 _ v6 rfl rfl
  obtain ⟨b6, l6, c6, e6, z6, r6, g6⟩ := open_list bufferK (fun y : BufferD => (Lit.int .i64 y.id).wf = true ∧ (y.items.length ≤ maxLen ∧ ∀ s ∈ y.items, s.size ≤ maxLen) ∧ Src W y.itemsA (strK.flat y.items)) Tryz.underlying70 (by kernel_rfl) (fun _ _ _ h => openBuffer_in h) h6
  obtain ⟨y7, h7⟩ := hf 7 _ v7 rfl rfl
  obtain ⟨b7, l7, c7, e7, z7, r7, g7⟩ := open_list portK (fun y : PortD => (Lit.int .i64 y.id).wf = true ∧ (y.items.length ≤ maxLen ∧ ∀ s ∈ y.items, s.size ≤ maxLen) ∧ Src W y.itemsA (strK.flat y.items)) Tryz.underlying71 (by kernel_rfl) (fun _ _ _ h => openPort_in h) h7
  simp only [List.cons.injEq, and_true] at e0 e1
  subst e0 e1 e2 e3 e4 e5 e6 e7
  refine ⟨⟨a0, a1, l2, b2, c2, l3, b3, c3, l4, b4, c4, l5, b5, c5, l6, b6, c6, l7, b7, c7⟩, rfl, ⟨z2, z3, z4, z5, z6, z7, fun x hx => (g2 x hx).2.1, fun x hx => (g5 x hx).2, fun x hx => (g6 x hx).2.1, fun x hx => (g7 x hx).2.1⟩, ⟨⟨r2, fun x hx r hr => ?_⟩, ⟨r3, fun x hx r hr => ?_⟩, ⟨r4, fun x hx r hr => ?_⟩, ⟨r5, fun x hx r hr => ?_⟩, ⟨r6, fun x hx r hr => ?_⟩, ⟨r7, fun x hx r hr => ?_⟩⟩, ⟨fun x hx => (g2 x hx).1, g3, g4, fun x hx => (g5 x hx).1, fun x hx => (g6 x hx).1, fun x hx => (g7 x hx).1⟩⟩
  ·simp only [procK, List.mem_cons, List.not_mem_nil, or_false] at hr
   subst hr
   exact (g2 x hx).2.2
  ·simp [semK] at hr
  ·simp [eventK] at hr
  ·simp [boardK] at hr
  ·simp only [bufferK, List.mem_cons, List.not_mem_nil, or_false] at hr
   subst hr
   exact (g6 x hx).2.2
  ·simp only [portK, List.mem_cons, List.not_mem_nil, or_false] at hr
   subst hr
   exact (g7 x hx).2.2
set_option maxRecDepth 100000 in
theorem open_part {r : Reach} {b0 : Nat} {v : Value} {d : DataW H} {pl : List MemPlace} (hv : Value.okWide Tryz.prog W r b0 73 v) (h : DataW.Trod enc Tryz.prog W 0 (fun _ => true) true 73 v d pl) : ∃ p : PartD, v = .agg p.cells ∧ p.Big ∧ p.Came W ∧ p.Ints := by
 obtain ⟨cs, rfl, hsz⟩ := okWide_struct Tryz.underlying73 hv
 obtain ⟨fuel, hf⟩ := h
 obtain ⟨p, hp, h1, h2, h3⟩ := open_part_cells hf
 refine ⟨p, ?_, h1, h2, h3⟩
 have e : cs.toList = p.cells.toList := by simpa [Value.cells] using hp
 rw [Array.toList_inj.1 e]
end
end Go.Proofs.YtkbcplnlehdjfaaGreat
