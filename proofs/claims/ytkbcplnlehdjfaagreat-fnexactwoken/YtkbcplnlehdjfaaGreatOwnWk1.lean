/- What the proof leans on, part 1: WithP, StoppedI, WkSoon, WkSmall, WithO, OpenX. -/
import Derived.Test.YtkbcplnlehdjfaaGreatOwnR1
import Derived.Test.YtkbcplnlehdjfaaGreatOwnR8
import Derived.Test.YtkbcplnlehdjfaaGreatOwnR12
import Derived.Test.YtkbcplnlehdjfaaGreatOwnR26
import Derived.Test.YtkbcplnlehdjfaaGreatOwnWk0

namespace Go.Proofs.YtkbcplnlehdjfaaGreat
open Go.RowKit
section
variable {α : Type} {num : α → Int} {ok : α → Bool}
end
end Go.Proofs.YtkbcplnlehdjfaaGreat

/- A process that is stopped: the programme. (Made by mkstoppedi.py.) -/
namespace Go.Proofs.YtkbcplnlehdjfaaGreat
open Go.RowKit Go.Maps
attribute [local go_sem ↓] Go.wp_at_zero Go.wp_at_succ
set_option maxRecDepth 100000 in
set_option maxHeartbeats 2000000 in
theorem sendToRest_any (g : Nat) (x : ProcD) (w : World) (h : w.heap[g]? = some (.cells (procVs x) 43 (0, 0))) : Calls Tryz.prog 99 #[.pointer (some ⟨g, 0, none⟩)] w fun e w' => e = .returned (.tuple #[]) ∧ w' = w.drew.setRow g #[.int .i64 x.id, .int .i64 x.prio, .slice x.progA x.prog.length x.progC, .int .i64 0, .int .i64 0, .int .i64 0, .int .i64 0, .int .i64 0, .string ⟨#[]⟩, .string x.got, .int .i64 x.code, .int .i64 0] := by
 have H : Hid (_) := h
 obtain ⟨d0, d1, d2, d3, d4, d5, d6, d7, d8, d9, d10, d11⟩ := proc_cells h
 clear h d3 d4 d5 d6 d7 d8 d11
 go_enter Tryz.func99, Tryz.ntmps99
 go_wp2_with fail
 refine last_region (fun w' => w' = w.drew) 23 (by kernel_rfl) rfl ?_
 iterate 23 (refine ly 24 (v := ?_) (some _) rfl rfl (by kernel_rfl) (fun _ _ _ h => h) (does_yield (by kernel_rfl) ?_) ?_; rotate_left; (intro w0 hS0; subst hS0; go_simp; try with_reducible rfl); simp only [pt, sb, s0, s1])
 refine last_done rfl (by kernel_rfl) (by kernel_rfl) (by kernel_rfl) ?_
 intro w1 hS1
 subst hS1
 refine oper_store _ _ _ rfl g _ _ #[.int .i64 x.id, .int .i64 x.prio, .slice x.progA x.prog.length x.progC, .int .i64 0, .int .i64 0, .int .i64 0, .int .i64 0, .int .i64 0, .string ⟨#[]⟩, .string x.got, .int .i64 x.code, .int .i64 0] rfl rfl H.out (by kernel_rfl) rfl (by kernel_rfl) ?_
 go_end0
 exact ⟨rfl, rfl⟩
end Go.Proofs.YtkbcplnlehdjfaaGreat

/- Whose time has come first, of an open partition: what the programme answers. (Made by mkwokeni.py.) -/
namespace Go.Proofs.YtkbcplnlehdjfaaGreat
open Go.RowKit Go.Maps
attribute [local go_sem ↓] Go.wp_at_zero Go.wp_at_succ
def soonP (a b : ProcP) : Bool := if a.wake = b.wake then decide (a.id < b.id) else decide (a.wake < b.wake)
def soonQ (a b : ProcD × Nat) : Bool := soonP a.1.toProcP b.1.toProcP
def dueD (now : Int) (l : List (ProcD × Nat)) : List (ProcD × Nat) := l.filter fun p => dueB now p.1.toProcP
theorem dueB_iff {now : Int} {x : ProcP} : dueB now x = true ↔ 2 ≤ x.state ∧ 1 ≤ x.wake ∧ x.wake ≤ now := by
 unfold dueB
 rw [Bool.and_eq_true, decide_eq_true_eq, inB_iff]
theorem dueD_snoc (now : Int) (l : List (ProcD × Nat)) (p : ProcD × Nat) : dueD now (l ++ [p]) = dueD now l ++ (if dueB now p.1.toProcP = true then [p] else []) := by
 unfold dueD
 rw [List.filter_append]
 by_cases h : dueB now p.1.toProcP = true <;> simp [h]
theorem bestA_take {α : Type} (ah : α → α → Bool) {l : List α} {k : Nat} (h : 0 < k) (hk : k ≤ l.length) : ∃ y, bestA ah (l.take k) = some y ∧ y ∈ l := by
 cases hb : bestA ah (l.take k) with
 | none =>
  have h1 := congrArg List.length (bestA_none ah hb)
  rw [List.length_take, List.length_nil] at h1
  omega
 | some y => exact ⟨y, rfl, List.mem_of_mem_take (bestA_mem ah hb)⟩
theorem bestA_map {α β : Type} {ah : β → β → Bool} (f : α → β) (l : List α) : bestA ah (l.map f) = (bestA (fun x y => ah (f x) (f y)) l).map f := by
 have key : ∀ (l : List α) (r : Option α), (l.map f).foldl (stepA ah) (r.map f) = (l.foldl (stepA fun x y => ah (f x) (f y)) r).map f := by
  intro l
  induction l with
  | nil => intro r; rfl
  | cons x l ih =>
   intro r
   simp only [List.foldl_cons, List.map_cons, ← ih]
   congr 1
   cases r with
   | none => rfl
   | some b =>
    simp only [stepA, Option.map_some]
    split <;> rfl
 exact key l none
theorem fold_congr {α : Type} {ah ah' : α → α → Bool} : ∀ (l l0 : List α) (r : Option α), (∀ b, r = some b → b ∈ l0) → (∀ b ∈ l0, ∀ x ∈ l, ah x b = ah' x b) → l.Pairwise (fun b x => ah x b = ah' x b) → l.foldl (stepA ah) r = l.foldl (stepA ah') r
 | [], _, _, _, _, _ => rfl
 | x :: l, l0, r, hr, h1, h2 => by
  rw [List.pairwise_cons] at h2
  have e : stepA ah r x = stepA ah' r x := by
   cases r with
   | none => rfl
   | some b => simp only [stepA, h1 b (hr b rfl) x (by simp)]
  simp only [List.foldl_cons, e]
  refine fold_congr l (x :: l0) _ (fun b hb => ?_) (fun b hb y hy => ?_) h2.2
  ·rcases stepA_mem ah' hb with h3 | h3
   ·simp [h3]
   ·exact List.mem_cons_of_mem _ (hr b h3)
  ·rcases List.mem_cons.1 hb with rfl | hb
   ·exact h2.1 y hy
   ·exact h1 b hb y (by simp [hy])
theorem next_is {now : Int} {lp : List (ProcD × Nat)} (h : (lp.map fun p => p.1.toProcP).Pairwise (fun x y => x.id < y.id)) : (bestA soonQ (dueD now lp)).map (fun p => p.1.toProcP) = nextDue now (lp.map fun p => p.1.toProcP) := by
 have e1 : dueL now (lp.map fun p => p.1.toProcP) = (dueD now lp).map fun p => p.1.toProcP := by
  unfold dueL dueD
  rw [List.filter_map]
  rfl
 unfold nextDue
 rw [e1]
 have e2 : bestA soonB ((dueD now lp).map fun p => p.1.toProcP) = bestA soonP ((dueD now lp).map fun p => p.1.toProcP) := by
  refine fold_congr _ [] none (fun b hb => by cases hb) (fun b hb => by cases hb) ?_
  have h2 : ((dueD now lp).map fun p => p.1.toProcP).Pairwise (fun x y => x.id < y.id) := by
   rw [← e1]
   exact h.sublist List.filter_sublist
  refine h2.imp fun {b x} hbx => ?_
  unfold soonB soonP
  by_cases hw : x.wake = b.wake
  ·rw [if_pos hw, decide_eq_false (by omega), decide_eq_false (by omega)]
  ·rw [if_neg hw]
 rw [e2, bestA_map]
 rfl
set_option maxRecDepth 100000 in
set_option maxHeartbeats 4000000 in
theorem wakesSooner_any (A B : Nat) (a b : ProcD) (w : World) (ha : w.heap[A]? = some (.cells (procVs a) 43 (0, 0))) (hb : w.heap[B]? = some (.cells (procVs b) 43 (0, 0))) :
  Calls Tryz.prog 186 #[.pointer (some ⟨A, 0, none⟩), .pointer (some ⟨B, 0, none⟩)] w fun e w' => e = .returned (.bool (soonP a.toProcP b.toProcP)) ∧ Below w.heap.size w w' := by
 obtain ⟨a0, -, -, -, -, -, a6, -⟩ := proc_cells ha
 obtain ⟨b0, -, -, -, -, -, b6, -⟩ := proc_cells hb
 clear ha hb
 go_enter Tryz.func186, Tryz.ntmps186
 by_cases hp : a.wake = b.wake
 ·have e1 : (a.wake != b.wake) = false := by simp [hp]
  by_cases hs : a.id < b.id
  ·have ds : decide (a.id < b.id) = true := decide_eq_true hs
   have HV : Hid (soonP a.toProcP b.toProcP = true) := by show soonP _ _ = _; unfold soonP; rw [if_pos hp]; exact ds
   clear hp hs
   go_wp2_with fail
   refine tame_region (fun w' => w' = w.drew) (by kernel_rfl) rfl ?_
   iterate 9 (refine yl (v := ?_) ?_ ?_; rotate_left; (intro w0 hS0; subst hS0; go_simp; try with_reducible rfl); simp only [pt, sb, s0, s1])
   refine tame_done (by kernel_rfl) ?_ _
   intro w1 hS1
   subst hS1
   go_wp2_with fail
   refine tame_region (fun w' => w' = w.drew.drew) (by kernel_rfl) rfl ?_
   iterate 10 (refine yl (v := ?_) ?_ ?_; rotate_left; (intro w0 hS0; subst hS0; go_simp; try with_reducible rfl); simp only [pt, sb, s0, s1])
   refine tame_done (by kernel_rfl) ?_ _
   intro w1 hS1
   subst hS1
   go_wp2
   go_ret
   exact ⟨ret_bool HV.out.symm, (Below.refl _ _).drew.drew⟩
  ·have ds : decide (a.id < b.id) = false := decide_eq_false hs
   have HV : Hid (soonP a.toProcP b.toProcP = false) := by show soonP _ _ = _; unfold soonP; rw [if_pos hp]; exact ds
   clear hp hs
   go_wp2_with fail
   refine tame_region (fun w' => w' = w.drew) (by kernel_rfl) rfl ?_
   iterate 9 (refine yl (v := ?_) ?_ ?_; rotate_left; (intro w0 hS0; subst hS0; go_simp; try with_reducible rfl); simp only [pt, sb, s0, s1])
   refine tame_done (by kernel_rfl) ?_ _
   intro w1 hS1
   subst hS1
   go_wp2_with fail
   refine tame_region (fun w' => w' = w.drew.drew) (by kernel_rfl) rfl ?_
   iterate 10 (refine yl (v := ?_) ?_ ?_; rotate_left; (intro w0 hS0; subst hS0; go_simp; try with_reducible rfl); simp only [pt, sb, s0, s1])
   refine tame_done (by kernel_rfl) ?_ _
   intro w1 hS1
   subst hS1
   go_wp2
   go_ret
   exact ⟨ret_bool HV.out.symm, (Below.refl _ _).drew.drew⟩
 ·have e1 : (a.wake != b.wake) = true := by simp [hp]
  by_cases hs : a.wake < b.wake
  ·have ds : decide (a.wake < b.wake) = true := decide_eq_true hs
   have HV : Hid (soonP a.toProcP b.toProcP = true) := by show soonP _ _ = _; unfold soonP; rw [if_neg hp]; exact ds
   clear hp hs
   go_wp2_with fail
   refine tame_region (fun w' => w' = w.drew) (by kernel_rfl) rfl ?_
   iterate 9 (refine yl (v := ?_) ?_ ?_; rotate_left; (intro w0 hS0; subst hS0; go_simp; try with_reducible rfl); simp only [pt, sb, s0, s1])
   refine tame_done (by kernel_rfl) ?_ _
   intro w1 hS1
   subst hS1
   go_wp2_with fail
   refine tame_region (fun w' => w' = w.drew.drew) (by kernel_rfl) rfl ?_
   iterate 10 (refine yl (v := ?_) ?_ ?_; rotate_left; (intro w0 hS0; subst hS0; go_simp; try with_reducible rfl); simp only [pt, sb, s0, s1])
   refine tame_done (by kernel_rfl) ?_ _
   intro w1 hS1
   subst hS1
   go_wp2
   go_ret
   exact ⟨ret_bool HV.out.symm, (Below.refl _ _).drew.drew⟩
  ·have ds : decide (a.wake < b.wake) = false := decide_eq_false hs
   have HV : Hid (soonP a.toProcP b.toProcP = false) := by show soonP _ _ = _; unfold soonP; rw [if_neg hp]; exact ds
   clear hp hs
   go_wp2_with fail
   refine tame_region (fun w' => w' = w.drew) (by kernel_rfl) rfl ?_
   iterate 9 (refine yl (v := ?_) ?_ ?_; rotate_left; (intro w0 hS0; subst hS0; go_simp; try with_reducible rfl); simp only [pt, sb, s0, s1])
   refine tame_done (by kernel_rfl) ?_ _
   intro w1 hS1
   subst hS1
   go_wp2_with fail
   refine tame_region (fun w' => w' = w.drew.drew) (by kernel_rfl) rfl ?_
   iterate 10 (refine yl (v := ?_) ?_ ?_; rotate_left; (intro w0 hS0; subst hS0; go_simp; try with_reducible rfl); simp only [pt, sb, s0, s1])
   refine tame_done (by kernel_rfl) ?_ _
   intro w1 hS1
   subst hS1
   go_wp2
   go_ret
   exact ⟨ret_bool HV.out.symm, (Below.refl _ _).drew.drew⟩
set_option maxRecDepth 100000 in
set_option maxHeartbeats 4000000 in
theorem bestOf_sooner (a : Option Addr) (l : List (ProcD × Nat)) (cap : Nat) (w : World) (hl : l.length ≤ 1048576) (hr : Row w a (l.map fun p => ptrV p.2)) (hb : ∀ p ∈ l, w.heap[p.2]? = some (.cells (procVs p.1) 43 (0, 0))) :
  Calls Tryz.prog 156 #[.slice a l.length cap, .func (.func 186) #[] #[]] w fun e w' => e = .returned (.tuple #[ptrO ((bestA soonQ l).map (·.2)), .bool (decide (0 < l.length))]) ∧ Below w.heap.size w w' := by
 have H : Hid (Row w a (l.map fun p => ptrV p.2) ∧ ∀ p ∈ l, w.heap[p.2]? = some (.cells (procVs p.1) 43 (0, 0))) := ⟨hr, hb⟩
 clear hr hb
 go_enter Tryz.func156, Tryz.ntmps156
 go_wp2_with fail
 go_loopw [6, 11] (fun b i wr => ∃ (k : Nat) (r : Option (ProcD × Nat)), k ≤ l.length ∧ i = .int .i64 k ∧ b = ptrO (r.map (·.2)) ∧ Hid (r = bestA soonQ (l.take k) ∧ Below w.heap.size w wr)) (fun _ i _ => l.length - (intOf i).toNat)
 case atStart => exact ⟨0, none, Nat.zero_le _, rfl, rfl, ⟨by simp [bestA], Below.refl _ _⟩⟩
 case round =>
  obtain ⟨k, r, hk, rfl, rfl, HA⟩ := hrel
  by_cases hlt : k < l.length
  ·have i0 : (0 : Int) ≤ (k : Int) := by omega
   have i1 : (k : Int) < (l.length : Int) := by omega
   obtain ⟨p, hp⟩ : ∃ p, l[k]? = some p := ⟨_, List.getElem?_eq_getElem hlt⟩
   obtain ⟨g, ha, hc⟩ := (H.out.1.below HA.out.2) k (ptrV p.2) (by simp [hp])
   subst ha
   unfold ptrV at hc
   have HP : Hid (l[k]? = some p ∧ p ∈ l) := ⟨hp, List.mem_of_getElem? hp⟩
   clear hp
   by_cases hk0 : k = 0
   ·have e0 : ((k : Int) == 0) = true := by simp [hk0]
    have HS : Hid (some p = bestA soonQ (l.take (k + 1))) := by show _ = _; rw [take_up HP.out.1, bestA_snoc, hk0]; rfl
    clear hk0
    go_wp2
    go_roundw
    case rel => exact ⟨k + 1, some p, by omega, by go_num, rfl, ⟨HS.out, HA.out.2⟩⟩
    case measure => simp [intOf]; omega
   ·have e0 : ((k : Int) == 0) = false := by simp [hk0]
    obtain ⟨y, hy, hym⟩ := bestA_take soonQ (l := l) (by omega : 0 < k) hk
    have hry : r = some y := HA.out.1.trans hy
    subst hry
    have HQ : Hid (bestA soonQ (l.take k) = some y ∧ y ∈ l) := ⟨hy, hym⟩
    clear hk0 hy hym
    simp only [ptrO, ptrV, Option.map_some]
    go_wp2_with fail
    refine (wakesSooner_any p.2 y.2 p.1 y.1 wr ((HA.out.2.block _ (Array.getElem?_eq_some_iff.1 (H.out.2 p HP.out.2)).1).trans (H.out.2 p HP.out.2)) ((HA.out.2.block _ (Array.getElem?_eq_some_iff.1 (H.out.2 y HQ.out.2)).1).trans (H.out.2 y HQ.out.2))).mono ?_
    rintro e w4 ⟨rfl, hb4⟩
    have HB4 : Hid (Below w.heap.size w w4) := HA.out.2.trans (hb4.mono HA.out.2.size)
    clear hb4
    cases hah : soonP p.1.toProcP y.1.toProcP with
    | true =>
     have HS : Hid (some p = bestA soonQ (l.take (k + 1))) := by show _ = _; rw [take_up HP.out.1, bestA_snoc, HQ.out.1]; simp [stepA, soonQ, hah]
     clear hah
     go_wp2
     go_roundw
     case rel => exact ⟨k + 1, some p, by omega, by go_num, rfl, ⟨HS.out, HB4.out⟩⟩
     case measure => simp [intOf]; omega
    | false =>
     have HS : Hid (some y = bestA soonQ (l.take (k + 1))) := by show _ = _; rw [take_up HP.out.1, bestA_snoc, HQ.out.1]; simp [stepA, soonQ, hah]
     clear hah
     go_wp2
     go_roundw
     case rel => exact ⟨k + 1, some y, by omega, by go_num, rfl, ⟨HS.out, HB4.out⟩⟩
     case measure => simp [intOf]; omega
  ·have i1 : ¬ (k : Int) < (l.length : Int) := by omega
   have HE : Hid (r = bestA soonQ l) := by have h5 := HA.out.1; rwa [List.take_of_length_le (by omega)] at h5
   go_wp2
   go_ret2
   refine ⟨?_, HA.out.2⟩
   rw [HE.out]
   simp
set_option maxRecDepth 100000 in
set_option maxHeartbeats 4000000 in
theorem due_any (o : Nat) (q : Opn) (lp : List (ProcD × Nat)) (now : Int) (base : Nat) (w : World) (hop : OpenBox w o q) (hsh : Shelf procVs (fun x : ProcD => x.id) 43 w base q.bp lp) (hl : lp.length ≤ 1048576) (hwf : ∀ p ∈ keysOf (fun x : ProcD => x.id) lp, (Lit.int .i64 p.1).wf = true) :
  Calls Tryz.prog 185 #[.pointer (some ⟨o, 0, none⟩), .int .i64 now] w fun e w' => (∃ a cap, e = .returned (.slice a (dueD now lp).length cap) ∧ Row w' a ((dueD now lp).map fun p => ptrV p.2)) ∧ Below w.heap.size w w' := by
 obtain ⟨i0, hi, e0⟩ := Option.map_eq_some_iff.1 ptrInfoProc
 simp only [Prod.mk.injEq] at e0
 have HI : Hid (Tryz.prog.info? 102 = some i0 ∧ i0.zero = some (.pointer none) ∧ i0.size = 1 ∧ i0.bytes = 8) := ⟨hi, e0⟩
 have H : Hid (Shelf procVs (fun x : ProcD => x.id) 43 w base q.bp lp ∧ ∀ p ∈ keysOf (fun x : ProcD => x.id) lp, (Lit.int .i64 p.1).wf = true) := ⟨hsh, hwf⟩
 have c2 : w.cell? ⟨o, 2, none⟩ = some (.int .i64 6) := hop.cell 2
 have c3 : w.cell? ⟨o, 3, none⟩ = some (.map (some q.bp)) := hop.cell 3
 have HK : Hid ((keysOf (fun x : ProcD => x.id) lp).length = lp.length) := keysOf_length lp
 clear hop hsh hwf hi e0
 go_enter Tryz.func185, Tryz.ntmps185
 go_wp2_with fail
 refine (allProc_any 6 q.bp (keysOf (fun x : ProcD => x.id) lp) w H.out.1.map (by rw [HK.out]; exact hl) H.out.2).mono ?_
 rintro e w2 ⟨a, cap, rfl, hown, hb2⟩
 obtain ⟨a', cap', hv, hrow⟩ := own_form hown
 cases hv
 have HR : Hid (Row w2 a ((keysOf (fun x : ProcD => x.id) lp).map fun p => ptrV p.2)) := hrow
 have HO : Hid (Shelf procVs (fun x : ProcD => x.id) 43 w2 base q.bp lp ∧ Below w.heap.size w w2) := ⟨H.out.1.below hb2, hb2⟩
 rw [HK.out]
 clear hown hrow hb2 c2 c3
 go_wp2_with fail
 go_loopw [5, 14] (fun l i wr => ∃ (k n : Nat), k ≤ lp.length ∧ n ≤ k ∧ i = .int .i64 k ∧ ∃ a' cap', l = .slice a' n cap' ∧ Hid (n = (dueD now (lp.take k)).length ∧ wr.ownsRow w2.heap.size 102 1 (.slice a' n cap') n ((dueD now (lp.take k)).map fun p => ptrV p.2) ∧ Below w2.heap.size w2 wr)) (fun _ i _ => lp.length - (intOf i).toNat)
 case atStart => exact ⟨0, 0, Nat.zero_le _, Nat.le_refl _, rfl, none, 0, rfl, ⟨rfl, World.ownsRow_nil _ _ _ _, Below.refl _ _⟩⟩
 case round =>
  obtain ⟨k, n, hk, hn, rfl, a', cap', rfl, HA⟩ := hrel
  by_cases hlt : k < lp.length
  ·have i0' : (0 : Int) ≤ (k : Int) := by omega
   have i1 : (k : Int) < (lp.length : Int) := by omega
   obtain ⟨p, hp⟩ : ∃ p, lp[k]? = some p := ⟨_, List.getElem?_eq_getElem hlt⟩
   obtain ⟨g, ha, hc⟩ := (HR.out.below HA.out.2.2) k (ptrV p.2) (by simp [keysOf, hp])
   subst ha
   unfold ptrV at hc
   have HP : Hid (lp[k]? = some p) := hp
   have hbx : wr.heap[p.2]? = some (.cells (procVs p.1) 43 (0, 0)) := (HO.out.1.below HA.out.2.2).box p (List.mem_of_getElem? hp)
   obtain ⟨-, -, -, s3, -, -, s6, -⟩ := proc_cells hbx
   have hsz3 := HA.out.2.2.size
   clear hp hbx
   by_cases h1 : 2 ≤ p.1.state
   rotate_left
   ·skip
    have HRL : Hid ((dueD now (lp.take (k + 1))) = (dueD now (lp.take k))) := by show _ = _; rw [take_up HP.out, dueD_snoc, if_neg (by rw [dueB_iff]; have h5 : p.1.toProcP.state = p.1.state := rfl; have h6 : p.1.toProcP.wake = p.1.wake := rfl; omega), List.append_nil]
    go_wp2
    go_roundw
    case rel => exact ⟨k + 1, n, by omega, by omega, by go_num, a', cap', rfl, by show _ ∧ _; rw [HRL.out]; exact HA.out⟩
    case measure => simp [intOf]; omega
   by_cases h2 : 1 ≤ p.1.wake
   rotate_left
   ·skip
    have HRL : Hid ((dueD now (lp.take (k + 1))) = (dueD now (lp.take k))) := by show _ = _; rw [take_up HP.out, dueD_snoc, if_neg (by rw [dueB_iff]; have h5 : p.1.toProcP.state = p.1.state := rfl; have h6 : p.1.toProcP.wake = p.1.wake := rfl; omega), List.append_nil]
    go_wp2
    go_roundw
    case rel => exact ⟨k + 1, n, by omega, by omega, by go_num, a', cap', rfl, by show _ ∧ _; rw [HRL.out]; exact HA.out⟩
    case measure => simp [intOf]; omega
   by_cases h3 : p.1.wake ≤ now
   rotate_left
   ·skip
    have HRL : Hid ((dueD now (lp.take (k + 1))) = (dueD now (lp.take k))) := by show _ = _; rw [take_up HP.out, dueD_snoc, if_neg (by rw [dueB_iff]; have h5 : p.1.toProcP.state = p.1.state := rfl; have h6 : p.1.toProcP.wake = p.1.wake := rfl; omega), List.append_nil]
    go_wp2
    go_roundw
    case rel => exact ⟨k + 1, n, by omega, by omega, by go_num, a', cap', rfl, by show _ ∧ _; rw [HRL.out]; exact HA.out⟩
    case measure => simp [intOf]; omega
   have HRL : Hid ((dueD now (lp.take (k + 1))) = (dueD now (lp.take k)) ++ [p]) := by show _ = _; rw [take_up HP.out, dueD_snoc, if_pos (by rw [dueB_iff]; exact ⟨h1, h2, h3⟩)]
   go_wp2_with (at_builtin; refine wpList_append_own_at _ rfl _ _ 204 rfl w2.heap.size 102 i0 (.pointer none) 1 8 Tryz.underlying204 HI.out.1 HI.out.2.1 HI.out.2.2.1 HI.out.2.2.2 rfl (by decide) (.slice a' n cap') n ((dueD now (lp.take k)).map fun p => ptrV p.2) rfl (HA.out.2.1.alloc _) ⟨wr.heap.size, 0, none⟩ 1 1 [.pointer (some ⟨p.2, 0, none⟩)] (by rfl) rfl (World.news_of_block (cs := #[.pointer (some ⟨p.2, 0, none⟩)]) (t := 102) (fr := (0, 0)) (heap_alloc_new wr _)) (by simp [Value.oneCell']) (by unfold maxLen; omega) (by omega) (by simp; omega) ?_; intro v' w5 hown' hgrow hnil hloc; obtain ⟨a5, cap5, rfl, -⟩ := own_form hown'; have HN : Hid (n + 1 = (dueD now (lp.take (k + 1))).length ∧ w5.ownsRow w2.heap.size 102 1 (.slice a5 (n + 1) cap5) (n + 1) ((dueD now (lp.take (k + 1))).map fun p => ptrV p.2) ∧ Below w2.heap.size w2 w5) := ⟨by rw [HRL.out, List.length_append, ← HA.out.1]; rfl, by rw [HRL.out, List.map_append]; exact hown', (HA.out.2.2.alloc hsz3 _).grown hgrow (by simp; omega) (fun q hq => (HA.out.2.1.lt q hq).1)⟩; clear hown' hgrow hnil hloc)
   go_roundw
   case rel => exact ⟨k + 1, n + 1, by omega, by omega, by go_num, a5, cap5, rfl, HN⟩
   case measure => simp [intOf]; omega
  ·have i1 : ¬ (k : Int) < (lp.length : Int) := by omega
   have HE : Hid (n = (dueD now lp).length ∧ Row wr a' ((dueD now lp).map fun p => ptrV p.2)) := by
    have h5 := HA.out
    rw [List.take_of_length_le (by omega)] at h5
    obtain ⟨b1, b2, hv, hrow⟩ := own_form h5.2.1
    cases hv
    exact ⟨h5.1, hrow⟩
   go_wp2
   go_ret
   exact ⟨⟨a', ⟨cap', by rw [← HE.out.1]; rfl⟩, HE.out.2⟩, HO.out.2.trans (HA.out.2.2.mono HO.out.2.size)⟩
end Go.Proofs.YtkbcplnlehdjfaaGreat

/- What waking leaves is small. -/
namespace Go.Proofs.YtkbcplnlehdjfaaGreat
theorem small_wake {nx code : Int} {y : ProcP} (h : SmallP y) (hn : (Lit.int .i64 nx).wf = true) : SmallP (wakeF nx code y) := by
 have z : (Lit.int .i64 0).wf = true := by decide
 unfold wakeF
 split
 ·exact ⟨⟨h.1.1, h.1.2.1, Nat.zero_le _, h.1.2.2.2⟩, h.2.1, z, z⟩
 ·exact ⟨⟨h.1.1, h.1.2.1, Nat.zero_le _, h.1.2.2.2⟩, h.2.1, z, hn⟩
theorem small_step {now : Int} {p : PartP} {x : ProcP} (h : p.Small) (hw : Wk now p) : (wakeStep p x).Small := by
 have hn : (Lit.int .i64 p.next).wf = true := by
  have h2 := hw.room
  have e1 : IntKind.min .i64 ≤ 0 := by decide
  have e2 : 2000000000 ≤ IntKind.max .i64 := by decide
  simp only [Lit.wf, Bool.and_eq_true, decide_eq_true_eq]
  omega
 refine ⟨by show (turnP _ _ p.procs).length ≤ _; simpa [turnP] using h.nProc, h.nSem, h.nEvent, h.nBoard, h.nBuffer, h.nPort, fun y hy => ?_, h.sems, h.events, h.boards, h.buffers, h.ports⟩
 rcases turn_mem hy with h1 | ⟨z, hz, rfl⟩
 ·exact h.procs y h1
 ·exact small_wake (h.procs z hz) hn
theorem total_step {p : PartP} {x : ProcP} : (wakeStep p x).total = p.total := by
 have h1 : (turnP x.id (wakeF p.next (codeOf x)) p.procs).map (fun x : ProcP => x.prog.length) = p.procs.map (fun x : ProcP => x.prog.length) := by
  unfold turnP
  rw [List.map_map]
  refine List.map_congr_left fun y _ => ?_
  simp only [Function.comp_def]
  split
  ·rw [(wakeF_id _ _ _).2]
  ·rfl
 have h2 : (turnP x.id (wakeF p.next (codeOf x)) p.procs).length = p.procs.length := by simp [turnP]
 simp only [PartP.total, wakeStep, sumL, h1, h2]
theorem wokenN_small {now : Int} : ∀ (n : Nat) {p : PartP}, p.Small → Wk now p → (wokenN now n p).Small ∧ (wokenN now n p).total = p.total
 | 0, _, h, _ => ⟨h, rfl⟩
 | n + 1, p, h, hw => by
  unfold wokenN
  split
  ·exact ⟨h, rfl⟩
  ·rename_i x hx
   have h1 := wokenN_small n (small_step (x := x) h hw) (hw.step hx).1
   exact ⟨h1.1, h1.2.trans total_step⟩
theorem woken_cases {p : PartP} {now : Int} (h : p.Small) : ((wokenP p now).getD zeroPart).Small ∧ ((wokenP p now).getD zeroPart).total ≤ p.total := by
 unfold wokenP
 split
 ·rename_i hc
  simp only [Bool.and_eq_true, decide_eq_true_eq] at hc
  have h1 := wokenN_small (now := now) (dueL now p.procs).length h (Wk.of ((partB_iff _).1 hc.1.1) hc.2)
  exact ⟨h1.1, Nat.le_of_eq h1.2⟩
 ·exact ⟨zero_small, by simp [PartP.total, zeroPart, sumL]⟩
end Go.Proofs.YtkbcplnlehdjfaaGreat

/- A thing laid into an open partition. (Made by mkwitho.py.) -/
namespace Go.Proofs.YtkbcplnlehdjfaaGreat
open Go.RowKit Go.Maps
theorem OpenAt.lt {w : World} {base o : Nat} {S : OpenD} (h : OpenAt w base o S) : ∀ c ∈ o :: (S.boxes ++ S.kids), c < w.heap.size := fun c hc => by
 simp only [OpenD.boxes, OpenD.kids, List.mem_cons, List.mem_append] at hc
 rcases hc with rfl | ((hc | hc | hc | hc | hc | hc) | hc | hc | hc)
 ·exact (Array.getElem?_eq_some_iff.1 h.opn).1
 ·exact h.procs.lt c (List.mem_cons.2 hc)
 ·exact h.sems.lt c (List.mem_cons.2 hc)
 ·exact h.events.lt c (List.mem_cons.2 hc)
 ·exact h.boards.lt c (List.mem_cons.2 hc)
 ·exact h.buffers.lt c (List.mem_cons.2 hc)
 ·exact h.ports.lt c (List.mem_cons.2 hc)
 ·obtain ⟨r, hr, hk⟩ := List.mem_filterMap.1 hc
  exact ((h.mineP r hr).lt hk).2
 ·obtain ⟨r, hr, hk⟩ := List.mem_filterMap.1 hc
  exact ((h.mineF r hr).lt hk).2
 ·obtain ⟨r, hr, hk⟩ := List.mem_filterMap.1 hc
  exact ((h.mineQ r hr).lt hk).2
end Go.Proofs.YtkbcplnlehdjfaaGreat

/- An open partition in a world that has drawn. -/
namespace Go.Proofs.YtkbcplnlehdjfaaGreat
open Go.RowKit Go.Maps
abbrev zero8 : Array Value := #[.int .i64 0, .int .i64 0, .slice none 0 0, .slice none 0 0, .slice none 0 0, .slice none 0 0, .slice none 0 0, .slice none 0 0]
theorem OpenAt.drew {w : World} {base o : Nat} {S : OpenD} (h : OpenAt w base o S) : OpenAt w.drew base o S :=
 ⟨h.opn, h.procs.same fun _ _ => rfl, h.sems.same fun _ _ => rfl, h.events.same fun _ _ => rfl, h.boards.same fun _ _ => rfl, h.buffers.same fun _ _ => rfl, h.ports.same fun _ _ => rfl, fun p hp => (h.mineP p hp).same fun _ _ => rfl, fun p hp => (h.mineF p hp).same fun _ _ => rfl, fun p hp => (h.mineQ p hp).same fun _ _ => rfl, h.nodup, h.low⟩
end Go.Proofs.YtkbcplnlehdjfaaGreat
