/- What the proof leans on, part 6: ChPure, TameY, ChSpec, ChImpl, ChosenI, SrcCells, ChosenLaw, OpenL. -/
import Derived.ProofKit
import Derived.Lib.SmallJoins
import Derived.Deep.Strs
import Derived.Deep.Fields
import Derived.Test.YtkbcplnlehdjfaaGreatOwn0
import Derived.Test.YtkbcplnlehdjfaaGreatOwn1
import Derived.Test.YtkbcplnlehdjfaaGreatOwn2
import Derived.Test.YtkbcplnlehdjfaaGreatOwn3
import Derived.Test.YtkbcplnlehdjfaaGreatOwn4
import Derived.Test.YtkbcplnlehdjfaaGreatOwn5

namespace Go.Proofs.YtkbcplnlehdjfaaGreat

/-- One is ahead of another. -/
def aheadB (a b : ProcP) : Bool := if a.prio = b.prio then decide (a.since < b.since) else decide (b.prio < a.prio)
def bestStep (r : Option ProcP) (x : ProcP) : Option ProcP := match r with
  | none => some x
  | some b => if aheadB x b then some x else some b
def bestL (l : List ProcP) : Option ProcP := l.foldl bestStep none
theorem bestL_snoc (l : List ProcP) (x : ProcP) : bestL (l ++ [x]) = bestStep (bestL l) x := by simp [bestL]
theorem bestStep_mem {r : Option ProcP} {x y : ProcP} (h : bestStep r x = some y) : y = x ∨ r = some y := by
  unfold bestStep at h
  split at h
  · exact .inl (Option.some.inj h).symm
  · split at h
    · exact .inl (Option.some.inj h).symm
    · exact .inr h
theorem bestStep_some (r : Option ProcP) (x : ProcP) : ∃ y, bestStep r x = some y := by
  unfold bestStep
  split
  · exact ⟨_, rfl⟩
  · split <;> exact ⟨_, rfl⟩
/-- What is the best of those of the first k that are looked at, by its place. -/
def BestIs (f : ProcP → Bool) (l : List ProcP) (k : Nat) (i : Int) : Prop := match bestL ((l.take k).filter f) with
  | none => i = -1
  | some x => ∃ n : Nat, i = n ∧ n < k ∧ l[n]? = some x
section
variable {f : ProcP → Bool} {l : List ProcP} {k : Nat} {i : Int} {x : ProcP}
theorem BestIs.start (f : ProcP → Bool) (l : List ProcP) : BestIs f l 0 (-1) := by simp [BestIs, bestL]
theorem filter_up (hx : l[k]? = some x) : (l.take (k + 1)).filter f = (l.take k).filter f ++ (if f x then [x] else []) := by
  rw [take_up hx, List.filter_append]
  by_cases h : f x = true <;> simp [h]
theorem BestIs.skip (h : BestIs f l k i) (hx : l[k]? = some x) (hf : f x = false) : BestIs f l (k + 1) i := by
  unfold BestIs at h ⊢
  rw [filter_up hx, hf]
  simp only [Bool.false_eq_true, if_false, List.append_nil]
  split at h
  · exact h
  · obtain ⟨n, h1, h2, h3⟩ := h
    exact ⟨n, h1, by omega, h3⟩
theorem BestIs.first (h : BestIs f l k i) (hi : i < 0) (hx : l[k]? = some x) (hf : f x = true) : BestIs f l (k + 1) k := by
  unfold BestIs at h ⊢
  rw [filter_up hx, hf]
  simp only [if_true]
  rw [bestL_snoc]
  split at h
  · rename_i e
    rw [e]
    exact ⟨k, rfl, by omega, hx⟩
  · obtain ⟨n, h1, _⟩ := h
    omega
theorem BestIs.got (h : BestIs f l k i) (hi : ¬ i < 0) : ∃ (n : Nat) (y : ProcP), i = n ∧ n < k ∧ l[n]? = some y ∧ bestL ((l.take k).filter f) = some y := by
  unfold BestIs at h
  split at h
  · omega
  · rename_i y e
    obtain ⟨n, h1, h2, h3⟩ := h
    exact ⟨n, y, h1, h2, h3, e⟩
theorem BestIs.next {n : Nat} {y : ProcP} (hn : n < k) (hy : l[n]? = some y) (he : bestL ((l.take k).filter f) = some y) (hx : l[k]? = some x) (hf : f x = true) : BestIs f l (k + 1) (if aheadB x y then (k : Int) else (n : Int)) := by
  unfold BestIs
  rw [filter_up hx, hf]
  simp only [if_true]
  rw [bestL_snoc, he]
  simp only [bestStep]
  by_cases ha : aheadB x y = true
  · simp only [ha, if_true]
    exact ⟨k, rfl, by omega, hx⟩
  · simp only [ha, Bool.false_eq_true, if_false]
    exact ⟨n, rfl, by omega, hy⟩
end
/-- Who is chosen in a partition. -/
def chosenL (l : List ProcP) : Int := match bestL (l.filter fun x => decide (x.state = 1)) with
  | none => 0
  | some x => x.id
def chosenB (p : PartP) : Int := if partB p then chosenL p.procs else 0
/-- Those that the specification looks at are the ready ones, where all are right. -/
theorem ready_on {l : List ProcP} (h : ∀ x ∈ l, procB x = true) : l.filter (fun x => decide (x.state = 1) && decide (x.on = 0)) = l.filter fun x => decide (x.state = 1) := by
  apply List.filter_congr
  intro x hx
  have h1 := h x hx
  simp only [procB, Bool.and_eq_true] at h1
  have h2 := h1.2
  by_cases hs : x.state = 1
  · unfold stateB at h2
    rw [if_neg (by rw [hs]; decide), if_pos hs] at h2
    simp only [Bool.and_eq_true, decide_eq_true_eq] at h2
    simp [hs, h2.1.2]
  · simp [hs]
end Go.Proofs.YtkbcplnlehdjfaaGreat

/- The next operation in the order of the text: runs of operations in one row. -/
namespace Go.Proofs.YtkbcplnlehdjfaaGreat
open Go

section
variable {P : Program} {md : Region.Mode} {ops : Array Oper} {Q : Exit → Act → World → Prop} {S : World → Prop}
/-- The next one in the order of the text. -/
theorem ty {oi : Oper} {v : Value} {fuel : Nat} {listed : Array Bool} {a : Act} (d : Option Tmp) (hi : ops[ops.size - (fuel + 1)]? = some oi) (_hd : oi.dst = d) (hc : tmB md ops listed (ops.size - (fuel + 1)) oi d = true)
    (hQ : ∀ c a w, Q (.panic c) (a.put d v) w → Q (.panic c) a w) (hy : Does P ops S oi v a)
    (h : wpAnyD P md ops Q S fuel (listed.setIfInBounds (ops.size - (fuel + 1)) true) (a.put d v)) : wpAnyD P md ops Q S (fuel + 1) listed a := tm (ops.size - (fuel + 1)) d hi hc hQ hy h
theorem ly {L : Nat} (n : Nat) {oi : Oper} {v : Value} {fuel : Nat} {listed : Array Bool} {a : Act} (d : Option Tmp) (hi : ops[ops.size - (fuel + 1)]? = some oi) (_hd : oi.dst = d) (hc : lsB md ops listed (ops.size - (fuel + 1)) L n oi d = true)
    (hQ : ∀ c a w, Q (.panic c) (a.put d v) w → Q (.panic c) a w) (hy : Does P ops S oi v a)
    (h : wpAnyL P md ops Q S L fuel (listed.setIfInBounds (ops.size - (fuel + 1)) true) (a.put d v)) : wpAnyL P md ops Q S L (fuel + 1) listed a := ls (ops.size - (fuel + 1)) n d hi hc hQ hy h
end

end Go.Proofs.YtkbcplnlehdjfaaGreat

/- The best of a partition's processes: what the specification answers. (Made by mkchspec.py.) -/
namespace Go.Proofs.YtkbcplnlehdjfaaGreat
open Go.RowKit
attribute [local go_sem ↓] Go.wp_at_zero Go.wp_at_succ

set_option maxRecDepth 100000 in
set_option maxHeartbeats 8000000 in
theorem l4Best_any (p : PartD) (st on : Int) (w : World) (hl : p.procs.length ≤ 1048576) (h : PartD.At w p) :
    Calls Tryz.prog 101 #[.agg p.cells, .int .i64 st, .int .i64 on] w fun e w' => (∃ i : Int, e = .returned (.int .i64 i) ∧ BestIs (fun x : ProcP => decide (x.state = st) && decide (x.on = on)) p.pure.procs p.procs.length i) ∧ Below w.heap.size w w' := by
  have HB : Hid (PartBox (w.alloc (.cells p.cells 32)) w.heap.size p ∧ PartD.At (w.alloc (.cells p.cells 32)) p ∧ Below w.heap.size w (w.alloc (.cells p.cells 32))) := ⟨heap_alloc_new _ _, h.below ((Below.refl _ _).alloc (Nat.le_refl _) _), (Below.refl _ _).alloc (Nat.le_refl _) _⟩
  clear h
  unfold PartD.cells at *
  go_enter Tryz.func101, Tryz.ntmps101
  go_wp2_with fail
  generalize w.alloc (.cells #[.int .i64 p.id, .int .i64 p.next, .slice p.procA p.procs.length p.procC, .slice p.semA p.sems.length p.semC, .slice p.eventA p.events.length p.eventC, .slice p.boardA p.boards.length p.boardC, .slice p.bufferA p.buffers.length p.bufferC, .slice p.portA p.ports.length p.portC] 32) = W at *
  go_loopw [7, 8] (fun b i wr => ∃ (k : Nat) (z : Int), k ≤ p.procs.length ∧ i = .int .i64 k ∧ b = .int .i64 z ∧ Hid (BestIs (fun x : ProcP => decide (x.state = st) && decide (x.on = on)) p.pure.procs k z ∧ Below W.heap.size W wr)) (fun _ i _ => p.procs.length - (intOf i).toNat)
  case atStart => exact ⟨0, -1, Nat.zero_le _, rfl, rfl, ⟨BestIs.start _ _, Below.refl _ _⟩⟩
  case round =>
    obtain ⟨k, z, hk, rfl, rfl, HA⟩ := hrel
    have HW : Hid (PartBox wr w.heap.size p ∧ PartD.At wr p ∧ Below w.heap.size w wr) := ⟨HB.out.1.below HA.out.2, HB.out.2.1.below HA.out.2, HB.out.2.2.trans (HA.out.2.mono HB.out.2.2.size)⟩
    obtain ⟨-, -, m2, -⟩ := HW.out.1.cells
    by_cases hlt : k < p.procs.length
    · have i0 : (0 : Int) ≤ (k : Int) := by omega
      have i1 : (k : Int) < (p.procs.length : Int) := by omega
      obtain ⟨x, hx⟩ : ∃ x, p.procs[k]? = some x := ⟨_, List.getElem?_eq_getElem hlt⟩
      have HX : Hid (p.procs[k]? = some x ∧ p.pure.procs[k]? = some x.toProcP) := ⟨hx, by show (p.procs.map (·.toProcP))[k]? = _; rw [List.getElem?_map, hx]; rfl⟩
      obtain ⟨gs, ha, hat⟩ := proc_at HW.out.2.1.1 hx
      have HG : Hid (p.procA = some ⟨gs, 0, none⟩) := ha
      rw [ha] at m2
      obtain ⟨d0, d1, d2, d3, d4, d5, d6, d7, d8, d9, d10, d11⟩ := hat
      clear hx ha
      have hgl : w.heap.size < wr.heap.size := (Array.getElem?_eq_some_iff.1 HW.out.1).1
      have HN : Hid (PartBox (wr.alloc (.cells #[.int .i64 x.id, .int .i64 x.prio, .slice x.progA x.prog.length x.progC, .int .i64 x.state, .int .i64 x.pc, .int .i64 x.left, .int .i64 x.wake, .int .i64 x.on, .string x.held, .string x.got, .int .i64 x.code, .int .i64 x.since] 43)) w.heap.size p ∧ PartD.At (wr.alloc (.cells #[.int .i64 x.id, .int .i64 x.prio, .slice x.progA x.prog.length x.progC, .int .i64 x.state, .int .i64 x.pc, .int .i64 x.left, .int .i64 x.wake, .int .i64 x.on, .string x.held, .string x.got, .int .i64 x.code, .int .i64 x.since] 43)) p ∧ ProcBox (wr.alloc (.cells #[.int .i64 x.id, .int .i64 x.prio, .slice x.progA x.prog.length x.progC, .int .i64 x.state, .int .i64 x.pc, .int .i64 x.left, .int .i64 x.wake, .int .i64 x.on, .string x.held, .string x.got, .int .i64 x.code, .int .i64 x.since] 43)) wr.heap.size x ∧ Below W.heap.size W (wr.alloc (.cells #[.int .i64 x.id, .int .i64 x.prio, .slice x.progA x.prog.length x.progC, .int .i64 x.state, .int .i64 x.pc, .int .i64 x.left, .int .i64 x.wake, .int .i64 x.on, .string x.held, .string x.got, .int .i64 x.code, .int .i64 x.since] 43))) := ⟨HW.out.1.below ((Below.refl _ _).alloc (Nat.le_refl _) _), HW.out.2.1.below ((Below.refl _ _).alloc (Nat.le_refl _) _), heap_alloc_new _ _, HA.out.2.alloc HA.out.2.size _⟩
      by_cases hs : x.state = st
      · by_cases ho : x.on = on
        · have HF : Hid ((fun x : ProcP => decide (x.state = st) && decide (x.on = on)) x.toProcP = true) := by show _ = true; simp [hs, ho]
          have e1 : (x.state != st) = false := by simp [hs]
          have e2 : (x.on != on) = false := by simp [ho]
          clear hs ho
          go_wp2_with fail
          generalize wr.alloc (.cells #[.int .i64 x.id, .int .i64 x.prio, .slice x.progA x.prog.length x.progC, .int .i64 x.state, .int .i64 x.pc, .int .i64 x.left, .int .i64 x.wake, .int .i64 x.on, .string x.held, .string x.got, .int .i64 x.code, .int .i64 x.since] 43) = W5 at *
          generalize wr.heap.size = X at *
          clear d0 d1 d2 d3 d4 d5 d6 d7 d8 d9 d10 d11 m2 e1 e2 hgl
          obtain ⟨-, -, m2, -⟩ := HN.out.1.cells
          rw [HG.out] at m2
          obtain ⟨-, b1, -, -, -, -, -, -, -, -, -, b11⟩ := HN.out.2.2.1.cells
          by_cases hz : z < 0
          · have dz : decide (z < 0) = true := decide_eq_true hz
            have HY : Hid (BestIs (fun x : ProcP => decide (x.state = st) && decide (x.on = on)) p.pure.procs (k + 1) k) := HA.out.1.first hz HX.out.2 HF.out
            refine tame_region (fun w' => w' = W5.drew) (by kernel_rfl) rfl ?_
            iterate 3 (refine ty (v := ?_) (some _) rfl rfl (by kernel_rfl) (fun _ _ _ h => h) (does_yield (by kernel_rfl) ?_) ?_; rotate_left; (intro w0 hS0; subst hS0; go_simp; try with_reducible rfl); simp only [pt, sb, s0, s1])
            iterate 9 (refine ty (some _) rfl rfl (by kernel_rfl) (fun _ _ _ h => h) (does_skip (by kernel_rfl)) ?_; simp only [pt, sb, s0, s1])
            iterate 2 (refine ty (v := ?_) (some _) rfl rfl (by kernel_rfl) (fun _ _ _ h => h) (does_yield (by kernel_rfl) ?_) ?_; rotate_left; (intro w0 hS0; subst hS0; go_simp; try with_reducible rfl); simp only [pt, sb, s0, s1])
            iterate 20 (refine ty (some _) rfl rfl (by kernel_rfl) (fun _ _ _ h => h) (does_skip (by kernel_rfl)) ?_; simp only [pt, sb, s0, s1])
            (refine ty (v := ?_) (some _) rfl rfl (by kernel_rfl) (fun _ _ _ h => h) (does_yield (by kernel_rfl) ?_) ?_; rotate_left; (intro w0 hS0; subst hS0; go_simp; try with_reducible rfl); simp only [pt, sb, s0, s1])
            refine tame_done (by kernel_rfl) ?_ _
            intro w1 hS1
            subst hS1
            go_wp2
            go_roundw
            case rel => exact ⟨k + 1, k, by omega, by go_num, rfl, ⟨HY.out, HN.out.2.2.2.drew⟩⟩
            case measure => simp [intOf]; omega
          have dz : decide (z < 0) = false := decide_eq_false hz
          obtain ⟨n, y0, hzn, hn, hy0, hbe⟩ := HA.out.1.got hz
          subst hzn
          have HYB : Hid (BestIs (fun x : ProcP => decide (x.state = st) && decide (x.on = on)) p.pure.procs (k + 1) (if aheadB x.toProcP y0 then (k : Int) else (n : Int))) := BestIs.next hn hy0 hbe HX.out.2 HF.out
          obtain ⟨y, hy, rfl⟩ : ∃ y, p.procs[n]? = some y ∧ y.toProcP = y0 := by
            have h5 : (p.procs.map (·.toProcP))[n]? = some y0 := hy0
            rw [List.getElem?_map, Option.map_eq_some_iff] at h5
            exact h5
          have j0 : (0 : Int) ≤ (n : Int) := by omega
          have j1 : (n : Int) < (p.procs.length : Int) := by omega
          obtain ⟨gs2, ha2, hat2⟩ := proc_at HN.out.2.1.1 hy
          rw [HG.out] at ha2
          cases ha2
          obtain ⟨-, y1, -, -, -, -, -, -, -, -, -, y11⟩ := hat2
          clear hy hy0 hbe hz
          by_cases hp : y.prio < x.prio
          · have dp : decide (y.prio < x.prio) = true := decide_eq_true hp
            have HY : Hid (BestIs (fun x : ProcP => decide (x.state = st) && decide (x.on = on)) p.pure.procs (k + 1) k) := by have h5 := HYB.out; rwa [show aheadB x.toProcP y.toProcP = true by unfold aheadB; rw [if_neg (by intro e; have e2 : x.prio = y.prio := e; omega)]; exact decide_eq_true hp, if_pos rfl] at h5
            clear hp HYB
            refine tame_region (fun w' => w' = W5.drew) (by kernel_rfl) rfl ?_
            iterate 14 (refine ty (v := ?_) (some _) rfl rfl (by kernel_rfl) (fun _ _ _ h => h) (does_yield (by kernel_rfl) ?_) ?_; rotate_left; (intro w0 hS0; subst hS0; go_simp; try with_reducible rfl); simp only [pt, sb, s0, s1])
            iterate 20 (refine ty (some _) rfl rfl (by kernel_rfl) (fun _ _ _ h => h) (does_skip (by kernel_rfl)) ?_; simp only [pt, sb, s0, s1])
            (refine ty (v := ?_) (some _) rfl rfl (by kernel_rfl) (fun _ _ _ h => h) (does_yield (by kernel_rfl) ?_) ?_; rotate_left; (intro w0 hS0; subst hS0; go_simp; try with_reducible rfl); simp only [pt, sb, s0, s1])
            refine tame_done (by kernel_rfl) ?_ _
            intro w1 hS1
            subst hS1
            go_wp2
            go_roundw
            case rel => exact ⟨k + 1, k, by omega, by go_num, rfl, ⟨HY.out, HN.out.2.2.2.drew⟩⟩
            case measure => simp [intOf]; omega
          have dp : decide (y.prio < x.prio) = false := decide_eq_false hp
          by_cases hq : x.prio = y.prio
          · have dq : (x.prio == y.prio) = true := by simp [hq]
            by_cases hr : x.since < y.since
            · have dr : decide (x.since < y.since) = true := decide_eq_true hr
              have HY : Hid (BestIs (fun x : ProcP => decide (x.state = st) && decide (x.on = on)) p.pure.procs (k + 1) k) := by have h5 := HYB.out; rwa [show aheadB x.toProcP y.toProcP = true by unfold aheadB; rw [if_pos hq]; exact dr, if_pos rfl] at h5
              clear hp hr HYB hq
              refine tame_region (fun w' => w' = W5.drew) (by kernel_rfl) rfl ?_
              iterate 35 (refine ty (v := ?_) (some _) rfl rfl (by kernel_rfl) (fun _ _ _ h => h) (does_yield (by kernel_rfl) ?_) ?_; rotate_left; (intro w0 hS0; subst hS0; go_simp; try with_reducible rfl); simp only [pt, sb, s0, s1])
              refine tame_done (by kernel_rfl) ?_ _
              intro w1 hS1
              subst hS1
              go_wp2
              go_roundw
              case rel => exact ⟨k + 1, k, by omega, by go_num, rfl, ⟨HY.out, HN.out.2.2.2.drew⟩⟩
              case measure => simp [intOf]; omega
            · have dr : decide (x.since < y.since) = false := decide_eq_false hr
              have HY : Hid (BestIs (fun x : ProcP => decide (x.state = st) && decide (x.on = on)) p.pure.procs (k + 1) n) := by have h5 := HYB.out; rwa [show aheadB x.toProcP y.toProcP = false by unfold aheadB; rw [if_pos hq]; exact dr, if_neg Bool.false_ne_true] at h5
              clear hp hr HYB hq
              refine tame_region (fun w' => w' = W5.drew) (by kernel_rfl) rfl ?_
              iterate 35 (refine ty (v := ?_) (some _) rfl rfl (by kernel_rfl) (fun _ _ _ h => h) (does_yield (by kernel_rfl) ?_) ?_; rotate_left; (intro w0 hS0; subst hS0; go_simp; try with_reducible rfl); simp only [pt, sb, s0, s1])
              refine tame_done (by kernel_rfl) ?_ _
              intro w1 hS1
              subst hS1
              go_wp2
              go_roundw
              case rel => exact ⟨k + 1, n, by omega, by go_num, rfl, ⟨HY.out, HN.out.2.2.2.drew⟩⟩
              case measure => simp [intOf]; omega
          · have dq : (x.prio == y.prio) = false := by simp [hq]
            have HY : Hid (BestIs (fun x : ProcP => decide (x.state = st) && decide (x.on = on)) p.pure.procs (k + 1) n) := by have h5 := HYB.out; rwa [show aheadB x.toProcP y.toProcP = false by unfold aheadB; rw [if_neg hq]; exact dp, if_neg Bool.false_ne_true] at h5
            clear hp HYB hq
            refine tame_region (fun w' => w' = W5.drew) (by kernel_rfl) rfl ?_
            iterate 24 (refine ty (v := ?_) (some _) rfl rfl (by kernel_rfl) (fun _ _ _ h => h) (does_yield (by kernel_rfl) ?_) ?_; rotate_left; (intro w0 hS0; subst hS0; go_simp; try with_reducible rfl); simp only [pt, sb, s0, s1])
            iterate 9 (refine ty (some _) rfl rfl (by kernel_rfl) (fun _ _ _ h => h) (does_skip (by kernel_rfl)) ?_; simp only [pt, sb, s0, s1])
            iterate 2 (refine ty (v := ?_) (some _) rfl rfl (by kernel_rfl) (fun _ _ _ h => h) (does_yield (by kernel_rfl) ?_) ?_; rotate_left; (intro w0 hS0; subst hS0; go_simp; try with_reducible rfl); simp only [pt, sb, s0, s1])
            refine tame_done (by kernel_rfl) ?_ _
            intro w1 hS1
            subst hS1
            go_wp2
            go_roundw
            case rel => exact ⟨k + 1, n, by omega, by go_num, rfl, ⟨HY.out, HN.out.2.2.2.drew⟩⟩
            case measure => simp [intOf]; omega
        · have HY : Hid (BestIs (fun x : ProcP => decide (x.state = st) && decide (x.on = on)) p.pure.procs (k + 1) z) := HA.out.1.skip HX.out.2 (by simp [ho])
          have e1 : (x.state != st) = false := by simp [hs]
          have e2 : (x.on != on) = true := by simp [ho]
          clear hs ho
          go_wp2
          go_roundw
          case rel => exact ⟨k + 1, z, by omega, by go_num, rfl, ⟨HY.out, HN.out.2.2.2⟩⟩
          case measure => simp [intOf]; omega
      · have HY : Hid (BestIs (fun x : ProcP => decide (x.state = st) && decide (x.on = on)) p.pure.procs (k + 1) z) := HA.out.1.skip HX.out.2 (by simp [hs])
        have e1 : (x.state != st) = true := by simp [hs]
        clear hs
        go_wp2
        go_roundw
        case rel => exact ⟨k + 1, z, by omega, by go_num, rfl, ⟨HY.out, HN.out.2.2.2⟩⟩
        case measure => simp [intOf]; omega
    · have i1 : ¬ (k : Int) < (p.procs.length : Int) := by omega
      have HE : Hid (BestIs (fun x : ProcP => decide (x.state = st) && decide (x.on = on)) p.pure.procs p.procs.length z) := by have h5 := HA.out.1; rwa [show k = p.procs.length by omega] at h5
      go_wp2
      go_ret
      exact ⟨⟨z, rfl, HE.out⟩, HW.out.2.2⟩

end Go.Proofs.YtkbcplnlehdjfaaGreat

/- The best of an open partition's ready processes: what the programme answers. (Made by mkchimpl.py.) -/
namespace Go.Proofs.YtkbcplnlehdjfaaGreat
open Go.RowKit Go.Maps
attribute [local go_sem ↓] Go.wp_at_zero Go.wp_at_succ

/-- The best of some, each with its block. -/
def stepD (r : Option (ProcD × Nat)) (x : ProcD × Nat) : Option (ProcD × Nat) := match r with
  | none => some x
  | some b => if aheadB x.1.toProcP b.1.toProcP then some x else some b
def bestD (l : List (ProcD × Nat)) : Option (ProcD × Nat) := l.foldl stepD none
theorem bestD_snoc (l : List (ProcD × Nat)) (x : ProcD × Nat) : bestD (l ++ [x]) = stepD (bestD l) x := by simp [bestD]
theorem stepD_some (r : Option (ProcD × Nat)) (x : ProcD × Nat) : ∃ y, stepD r x = some y ∧ (y = x ∨ r = some y) := by
  unfold stepD
  split
  · exact ⟨_, rfl, .inl rfl⟩
  · split
    · exact ⟨_, rfl, .inl rfl⟩
    · exact ⟨_, rfl, .inr rfl⟩
theorem bestD_take {l : List (ProcD × Nat)} : ∀ {k : Nat}, 0 < k → k ≤ l.length → ∃ y, bestD (l.take k) = some y ∧ y ∈ l
  | 0, h, _ => absurd h (by omega)
  | k + 1, _, hk => by
    obtain ⟨x, hx⟩ : ∃ x, l[k]? = some x := ⟨_, List.getElem?_eq_getElem (by omega)⟩
    rw [take_up hx, bestD_snoc]
    obtain ⟨y, hy, h1⟩ := stepD_some (bestD (l.take k)) x
    refine ⟨y, hy, ?_⟩
    rcases h1 with rfl | h1
    · exact List.mem_of_getElem? hx
    · by_cases h0 : 0 < k
      · obtain ⟨z, hz, hm⟩ := bestD_take h0 (by omega : k ≤ l.length)
        rw [hz] at h1
        cases h1
        exact hm
      · rw [show k = 0 by omega] at h1
        simp [bestD] at h1
theorem bestD_pure (l : List (ProcD × Nat)) : (bestD l).map (fun p => p.1.toProcP) = bestL (l.map fun p => p.1.toProcP) := by
  have key : ∀ (l : List (ProcD × Nat)) (r : Option (ProcD × Nat)), (l.foldl stepD r).map (fun p => p.1.toProcP) = (l.map fun p => p.1.toProcP).foldl bestStep (r.map fun p => p.1.toProcP) := by
    intro l
    induction l with
    | nil => intro r; rfl
    | cons x l ih =>
      intro r
      simp only [List.foldl_cons, List.map_cons, ih]
      congr 1
      cases r with
      | none => rfl
      | some b =>
        simp only [stepD, bestStep, Option.map_some]
        split <;> rfl
  exact key l none
def readyL (l : List (ProcD × Nat)) : List (ProcD × Nat) := l.filter fun p => decide (p.1.state = 1)
theorem readyL_snoc (l : List (ProcD × Nat)) (p : ProcD × Nat) : readyL (l ++ [p]) = readyL l ++ (if p.1.state = 1 then [p] else []) := by
  unfold readyL
  rw [List.filter_append]
  by_cases h : p.1.state = 1 <;> simp [h]
theorem readyL_pure (l : List (ProcD × Nat)) : (readyL l).map (fun p => p.1.toProcP) = (l.map fun p => p.1.toProcP).filter fun x => decide (x.state = 1) := by
  unfold readyL
  rw [List.filter_map]
  rfl
theorem readyL_le (l : List (ProcD × Nat)) (k : Nat) : (readyL (l.take k)).length ≤ k := Nat.le_trans (List.length_filter_le _ _) (by rw [List.length_take]; omega)

set_option maxRecDepth 100000 in
set_option maxHeartbeats 4000000 in
theorem isBetter_any (A B : Nat) (a b : ProcD) (w : World) (ha : w.heap[A]? = some (.cells (procVs a) 43 (0, 0))) (hb : w.heap[B]? = some (.cells (procVs b) 43 (0, 0))) :
    Calls Tryz.prog 158 #[.pointer (some ⟨A, 0, none⟩), .pointer (some ⟨B, 0, none⟩)] w fun e w' => e = .returned (.bool (aheadB a.toProcP b.toProcP)) ∧ Below w.heap.size w w' := by
  obtain ⟨-, a1, -, -, -, -, -, -, -, -, -, a11⟩ := proc_cells ha
  obtain ⟨-, b1, -, -, -, -, -, -, -, -, -, b11⟩ := proc_cells hb
  clear ha hb
  go_enter Tryz.func158, Tryz.ntmps158
  by_cases hp : a.prio = b.prio
  · have e1 : (a.prio != b.prio) = false := by simp [hp]
    by_cases hs : a.since < b.since
    · have ds : decide (a.since < b.since) = true := decide_eq_true hs
      have HV : Hid (aheadB a.toProcP b.toProcP = true) := by show aheadB _ _ = _; unfold aheadB; rw [if_pos hp]; exact ds
      clear hp hs
      go_wp2_with fail
      refine tame_region (fun w' => w' = w.drew) (by kernel_rfl) rfl ?_
      iterate 9 (refine ty (v := ?_) (some _) rfl rfl (by kernel_rfl) (fun _ _ _ h => h) (does_yield (by kernel_rfl) ?_) ?_; rotate_left; (intro w0 hS0; subst hS0; go_simp; try with_reducible rfl); simp only [pt, sb, s0, s1])
      refine tame_done (by kernel_rfl) ?_ _
      intro w1 hS1
      subst hS1
      go_wp2_with fail
      refine tame_region (fun w' => w' = w.drew.drew) (by kernel_rfl) rfl ?_
      iterate 10 (refine ty (v := ?_) (some _) rfl rfl (by kernel_rfl) (fun _ _ _ h => h) (does_yield (by kernel_rfl) ?_) ?_; rotate_left; (intro w0 hS0; subst hS0; go_simp; try with_reducible rfl); simp only [pt, sb, s0, s1])
      refine tame_done (by kernel_rfl) ?_ _
      intro w1 hS1
      subst hS1
      go_wp2
      go_ret
      exact ⟨ret_bool HV.out.symm, (Below.refl _ _).drew.drew⟩
    · have ds : decide (a.since < b.since) = false := decide_eq_false hs
      have HV : Hid (aheadB a.toProcP b.toProcP = false) := by show aheadB _ _ = _; unfold aheadB; rw [if_pos hp]; exact ds
      clear hp hs
      go_wp2_with fail
      refine tame_region (fun w' => w' = w.drew) (by kernel_rfl) rfl ?_
      iterate 9 (refine ty (v := ?_) (some _) rfl rfl (by kernel_rfl) (fun _ _ _ h => h) (does_yield (by kernel_rfl) ?_) ?_; rotate_left; (intro w0 hS0; subst hS0; go_simp; try with_reducible rfl); simp only [pt, sb, s0, s1])
      refine tame_done (by kernel_rfl) ?_ _
      intro w1 hS1
      subst hS1
      go_wp2_with fail
      refine tame_region (fun w' => w' = w.drew.drew) (by kernel_rfl) rfl ?_
      iterate 10 (refine ty (v := ?_) (some _) rfl rfl (by kernel_rfl) (fun _ _ _ h => h) (does_yield (by kernel_rfl) ?_) ?_; rotate_left; (intro w0 hS0; subst hS0; go_simp; try with_reducible rfl); simp only [pt, sb, s0, s1])
      refine tame_done (by kernel_rfl) ?_ _
      intro w1 hS1
      subst hS1
      go_wp2
      go_ret
      exact ⟨ret_bool HV.out.symm, (Below.refl _ _).drew.drew⟩
  · have e1 : (a.prio != b.prio) = true := by simp [hp]
    by_cases hs : b.prio < a.prio
    · have ds : decide (b.prio < a.prio) = true := decide_eq_true hs
      have HV : Hid (aheadB a.toProcP b.toProcP = true) := by show aheadB _ _ = _; unfold aheadB; rw [if_neg hp]; exact ds
      clear hp hs
      go_wp2_with fail
      refine tame_region (fun w' => w' = w.drew) (by kernel_rfl) rfl ?_
      iterate 9 (refine ty (v := ?_) (some _) rfl rfl (by kernel_rfl) (fun _ _ _ h => h) (does_yield (by kernel_rfl) ?_) ?_; rotate_left; (intro w0 hS0; subst hS0; go_simp; try with_reducible rfl); simp only [pt, sb, s0, s1])
      refine tame_done (by kernel_rfl) ?_ _
      intro w1 hS1
      subst hS1
      go_wp2_with fail
      refine tame_region (fun w' => w' = w.drew.drew) (by kernel_rfl) rfl ?_
      iterate 10 (refine ty (v := ?_) (some _) rfl rfl (by kernel_rfl) (fun _ _ _ h => h) (does_yield (by kernel_rfl) ?_) ?_; rotate_left; (intro w0 hS0; subst hS0; go_simp; try with_reducible rfl); simp only [pt, sb, s0, s1])
      refine tame_done (by kernel_rfl) ?_ _
      intro w1 hS1
      subst hS1
      go_wp2
      go_ret
      exact ⟨ret_bool HV.out.symm, (Below.refl _ _).drew.drew⟩
    · have ds : decide (b.prio < a.prio) = false := decide_eq_false hs
      have HV : Hid (aheadB a.toProcP b.toProcP = false) := by show aheadB _ _ = _; unfold aheadB; rw [if_neg hp]; exact ds
      clear hp hs
      go_wp2_with fail
      refine tame_region (fun w' => w' = w.drew) (by kernel_rfl) rfl ?_
      iterate 9 (refine ty (v := ?_) (some _) rfl rfl (by kernel_rfl) (fun _ _ _ h => h) (does_yield (by kernel_rfl) ?_) ?_; rotate_left; (intro w0 hS0; subst hS0; go_simp; try with_reducible rfl); simp only [pt, sb, s0, s1])
      refine tame_done (by kernel_rfl) ?_ _
      intro w1 hS1
      subst hS1
      go_wp2_with fail
      refine tame_region (fun w' => w' = w.drew.drew) (by kernel_rfl) rfl ?_
      iterate 10 (refine ty (v := ?_) (some _) rfl rfl (by kernel_rfl) (fun _ _ _ h => h) (does_yield (by kernel_rfl) ?_) ?_; rotate_left; (intro w0 hS0; subst hS0; go_simp; try with_reducible rfl); simp only [pt, sb, s0, s1])
      refine tame_done (by kernel_rfl) ?_ _
      intro w1 hS1
      subst hS1
      go_wp2
      go_ret
      exact ⟨ret_bool HV.out.symm, (Below.refl _ _).drew.drew⟩

set_option maxRecDepth 100000 in
set_option maxHeartbeats 4000000 in
theorem bestOf_better (a : Option Addr) (l : List (ProcD × Nat)) (cap : Nat) (w : World) (hl : l.length ≤ 1048576) (hr : Row w a (l.map fun p => ptrV p.2)) (hb : ∀ p ∈ l, w.heap[p.2]? = some (.cells (procVs p.1) 43 (0, 0))) :
    Calls Tryz.prog 156 #[.slice a l.length cap, .func (.func 158) #[] #[]] w fun e w' => e = .returned (.tuple #[ptrO ((bestD l).map (·.2)), .bool (decide (0 < l.length))]) ∧ Below w.heap.size w w' := by
  have H : Hid (Row w a (l.map fun p => ptrV p.2) ∧ ∀ p ∈ l, w.heap[p.2]? = some (.cells (procVs p.1) 43 (0, 0))) := ⟨hr, hb⟩
  clear hr hb
  go_enter Tryz.func156, Tryz.ntmps156
  go_wp2_with fail
  go_loopw [6, 11] (fun b i wr => ∃ (k : Nat) (r : Option (ProcD × Nat)), k ≤ l.length ∧ i = .int .i64 k ∧ b = ptrO (r.map (·.2)) ∧ Hid (r = bestD (l.take k) ∧ Below w.heap.size w wr)) (fun _ i _ => l.length - (intOf i).toNat)
  case atStart => exact ⟨0, none, Nat.zero_le _, rfl, rfl, ⟨by simp [bestD], Below.refl _ _⟩⟩
  case round =>
    obtain ⟨k, r, hk, rfl, rfl, HA⟩ := hrel
    by_cases hlt : k < l.length
    · have i0 : (0 : Int) ≤ (k : Int) := by omega
      have i1 : (k : Int) < (l.length : Int) := by omega
      obtain ⟨p, hp⟩ : ∃ p, l[k]? = some p := ⟨_, List.getElem?_eq_getElem hlt⟩
      obtain ⟨g, ha, hc⟩ := (H.out.1.below HA.out.2) k (ptrV p.2) (by simp [hp])
      subst ha
      unfold ptrV at hc
      have HP : Hid (l[k]? = some p ∧ p ∈ l) := ⟨hp, List.mem_of_getElem? hp⟩
      clear hp
      by_cases hk0 : k = 0
      · have e0 : ((k : Int) == 0) = true := by simp [hk0]
        have HS : Hid (some p = bestD (l.take (k + 1))) := by show _ = _; rw [take_up HP.out.1, bestD_snoc, hk0]; rfl
        clear hk0
        go_wp2
        go_roundw
        case rel => exact ⟨k + 1, some p, by omega, by go_num, rfl, ⟨HS.out, HA.out.2⟩⟩
        case measure => simp [intOf]; omega
      · have e0 : ((k : Int) == 0) = false := by simp [hk0]
        obtain ⟨y, hy, hym⟩ := bestD_take (l := l) (by omega : 0 < k) hk
        have hry : r = some y := HA.out.1.trans hy
        subst hry
        have HQ : Hid (bestD (l.take k) = some y ∧ y ∈ l) := ⟨hy, hym⟩
        clear hk0 hy hym
        simp only [ptrO, ptrV, Option.map_some]
        go_wp2_with fail
        refine (isBetter_any p.2 y.2 p.1 y.1 wr ((HA.out.2.block _ (Array.getElem?_eq_some_iff.1 (H.out.2 p HP.out.2)).1).trans (H.out.2 p HP.out.2)) ((HA.out.2.block _ (Array.getElem?_eq_some_iff.1 (H.out.2 y HQ.out.2)).1).trans (H.out.2 y HQ.out.2))).mono ?_
        rintro e w4 ⟨rfl, hb4⟩
        have HB4 : Hid (Below w.heap.size w w4) := HA.out.2.trans (hb4.mono HA.out.2.size)
        clear hb4
        cases hah : aheadB p.1.toProcP y.1.toProcP with
        | true =>
          have HS : Hid (some p = bestD (l.take (k + 1))) := by show _ = _; rw [take_up HP.out.1, bestD_snoc, HQ.out.1]; simp [stepD, hah]
          clear hah
          go_wp2
          go_roundw
          case rel => exact ⟨k + 1, some p, by omega, by go_num, rfl, ⟨HS.out, HB4.out⟩⟩
          case measure => simp [intOf]; omega
        | false =>
          have HS : Hid (some y = bestD (l.take (k + 1))) := by show _ = _; rw [take_up HP.out.1, bestD_snoc, HQ.out.1]; simp [stepD, hah]
          clear hah
          go_wp2
          go_roundw
          case rel => exact ⟨k + 1, some y, by omega, by go_num, rfl, ⟨HS.out, HB4.out⟩⟩
          case measure => simp [intOf]; omega
    · have i1 : ¬ (k : Int) < (l.length : Int) := by omega
      have HE : Hid (r = bestD l) := by have h5 := HA.out.1; rwa [List.take_of_length_le (by omega)] at h5
      go_wp2
      go_ret2
      refine ⟨?_, HA.out.2⟩
      rw [HE.out]
      simp

set_option maxRecDepth 100000 in
set_option maxHeartbeats 4000000 in
theorem ready_any (o : Nat) (q : Opn) (lp : List (ProcD × Nat)) (base : Nat) (w : World) (hop : OpenBox w o q) (hsh : Shelf procVs (fun x : ProcD => x.id) 43 w base q.bp lp) (hl : lp.length ≤ 1048576) (hwf : ∀ p ∈ keysOf (fun x : ProcD => x.id) lp, (Lit.int .i64 p.1).wf = true) :
    Calls Tryz.prog 157 #[.pointer (some ⟨o, 0, none⟩)] w fun e w' => (∃ a cap, e = .returned (.slice a (readyL lp).length cap) ∧ Row w' a ((readyL lp).map fun p => ptrV p.2)) ∧ Below w.heap.size w w' := by
  obtain ⟨i0, hi, e0⟩ := Option.map_eq_some_iff.1 ptrInfoProc
  simp only [Prod.mk.injEq] at e0
  have HI : Hid (Tryz.prog.info? 102 = some i0 ∧ i0.zero = some (.pointer none) ∧ i0.size = 1 ∧ i0.bytes = 8) := ⟨hi, e0⟩
  have H : Hid (Shelf procVs (fun x : ProcD => x.id) 43 w base q.bp lp ∧ ∀ p ∈ keysOf (fun x : ProcD => x.id) lp, (Lit.int .i64 p.1).wf = true) := ⟨hsh, hwf⟩
  have c2 : w.cell? ⟨o, 2, none⟩ = some (.int .i64 6) := hop.cell 2
  have c3 : w.cell? ⟨o, 3, none⟩ = some (.map (some q.bp)) := hop.cell 3
  have HK : Hid ((keysOf (fun x : ProcD => x.id) lp).length = lp.length) := keysOf_length lp
  clear hop hsh hwf hi e0
  go_enter Tryz.func157, Tryz.ntmps157
  go_wp2_with fail
  refine (allProc_any 6 q.bp (keysOf (fun x : ProcD => x.id) lp) w H.out.1.map (by rw [HK.out]; exact hl) H.out.2).mono ?_
  rintro e w2 ⟨a, cap, rfl, hown, hb2⟩
  obtain ⟨a', cap', hv, hrow⟩ := own_form hown
  cases hv
  have HR : Hid (Row w2 a ((keysOf (fun x : ProcD => x.id) lp).map fun p => ptrV p.2)) := hrow
  have HO : Hid (Shelf procVs (fun x : ProcD => x.id) 43 w2 base q.bp lp ∧ Below w.heap.size w w2) := ⟨H.out.1.below hb2, hb2⟩
  rw [HK.out]
  clear hown hrow hb2 c2 c3
  go_wp2_with fail
  go_loopw [3, 12] (fun l i wr => ∃ (k n : Nat), k ≤ lp.length ∧ n ≤ k ∧ i = .int .i64 k ∧ ∃ a' cap', l = .slice a' n cap' ∧ Hid (n = (readyL (lp.take k)).length ∧ wr.ownsRow w2.heap.size 102 1 (.slice a' n cap') n ((readyL (lp.take k)).map fun p => ptrV p.2) ∧ Below w2.heap.size w2 wr)) (fun _ i _ => lp.length - (intOf i).toNat)
  case atStart => exact ⟨0, 0, Nat.zero_le _, Nat.le_refl _, rfl, none, 0, rfl, ⟨rfl, World.ownsRow_nil _ _ _ _, Below.refl _ _⟩⟩
  case round =>
    obtain ⟨k, n, hk, hn, rfl, a', cap', rfl, HA⟩ := hrel
    by_cases hlt : k < lp.length
    · have i0' : (0 : Int) ≤ (k : Int) := by omega
      have i1 : (k : Int) < (lp.length : Int) := by omega
      obtain ⟨p, hp⟩ : ∃ p, lp[k]? = some p := ⟨_, List.getElem?_eq_getElem hlt⟩
      obtain ⟨g, ha, hc⟩ := (HR.out.below HA.out.2.2) k (ptrV p.2) (by simp [keysOf, hp])
      subst ha
      unfold ptrV at hc
      have HP : Hid (lp[k]? = some p) := hp
      have hbx : wr.heap[p.2]? = some (.cells (procVs p.1) 43 (0, 0)) := (HO.out.1.below HA.out.2.2).box p (List.mem_of_getElem? hp)
      obtain ⟨-, -, -, s3, -⟩ := proc_cells hbx
      have hsz3 := HA.out.2.2.size
      clear hp hbx
      by_cases hs : p.1.state = 1
      · have e1 : (p.1.state == 1) = true := by simp [hs]
        have HRL : Hid ((readyL (lp.take (k + 1))) = (readyL (lp.take k)) ++ [p]) := by show _ = _; rw [take_up HP.out, readyL_snoc, if_pos hs]
        clear hs
        go_wp2_with (at_builtin; refine wpList_append_own_at _ rfl _ _ 204 rfl w2.heap.size 102 i0 (.pointer none) 1 8 Tryz.underlying204 HI.out.1 HI.out.2.1 HI.out.2.2.1 HI.out.2.2.2 rfl (by decide) (.slice a' n cap') n ((readyL (lp.take k)).map fun p => ptrV p.2) rfl (HA.out.2.1.alloc _) ⟨wr.heap.size, 0, none⟩ 1 1 [.pointer (some ⟨p.2, 0, none⟩)] (by rfl) rfl (World.news_of_block (cs := #[.pointer (some ⟨p.2, 0, none⟩)]) (t := 102) (fr := (0, 0)) (heap_alloc_new wr _)) (by simp [Value.oneCell']) (by unfold maxLen; omega) (by omega) (by simp; omega) ?_; intro v' w5 hown' hgrow hnil hloc; obtain ⟨a5, cap5, rfl, -⟩ := own_form hown'; have HN : Hid (n + 1 = (readyL (lp.take (k + 1))).length ∧ w5.ownsRow w2.heap.size 102 1 (.slice a5 (n + 1) cap5) (n + 1) ((readyL (lp.take (k + 1))).map fun p => ptrV p.2) ∧ Below w2.heap.size w2 w5) := ⟨by rw [HRL.out, List.length_append, ← HA.out.1]; rfl, by rw [HRL.out, List.map_append]; exact hown', (HA.out.2.2.alloc hsz3 _).grown hgrow (by simp; omega) (fun q hq => (HA.out.2.1.lt q hq).1)⟩; clear hown' hgrow hnil hloc)
        go_roundw
        case rel => exact ⟨k + 1, n + 1, by omega, by omega, by go_num, a5, cap5, rfl, HN⟩
        case measure => simp [intOf]; omega
      · have e1 : (p.1.state == 1) = false := by simp [hs]
        have HRL : Hid ((readyL (lp.take (k + 1))) = (readyL (lp.take k))) := by show _ = _; rw [take_up HP.out, readyL_snoc, if_neg hs, List.append_nil]
        clear hs
        go_wp2
        go_roundw
        case rel => exact ⟨k + 1, n, by omega, by omega, by go_num, a', cap', rfl, by show _ ∧ _; rw [HRL.out]; exact HA.out⟩
        case measure => simp [intOf]; omega
    · have i1 : ¬ (k : Int) < (lp.length : Int) := by omega
      have HE : Hid (n = (readyL lp).length ∧ Row wr a' ((readyL lp).map fun p => ptrV p.2)) := by
        have h5 := HA.out
        rw [List.take_of_length_le (by omega)] at h5
        obtain ⟨b1, b2, hv, hrow⟩ := own_form h5.2.1
        cases hv
        exact ⟨h5.1, hrow⟩
      go_wp2
      go_ret
      exact ⟨⟨a', ⟨cap', by rw [← HE.out.1]; rfl⟩, HE.out.2⟩, HO.out.2.trans (HA.out.2.2.mono HO.out.2.size)⟩

set_option maxRecDepth 100000 in
set_option maxHeartbeats 4000000 in
theorem chosen_any (o : Nat) (q : Opn) (lp : List (ProcD × Nat)) (base : Nat) (w : World) (hop : OpenBox w o q) (hsh : Shelf procVs (fun x : ProcD => x.id) 43 w base q.bp lp) (hl : lp.length ≤ 1048576) (hwf : ∀ p ∈ keysOf (fun x : ProcD => x.id) lp, (Lit.int .i64 p.1).wf = true) :
    Calls Tryz.prog 80 #[.pointer (some ⟨o, 0, none⟩)] w fun e w' => e = .returned (.tuple #[ptrO ((bestD (readyL lp)).map (·.2)), .bool (decide (0 < (readyL lp).length))]) ∧ Below w.heap.size w w' := by
  have H : Hid (OpenBox w o q ∧ Shelf procVs (fun x : ProcD => x.id) 43 w base q.bp lp ∧ ∀ p ∈ keysOf (fun x : ProcD => x.id) lp, (Lit.int .i64 p.1).wf = true) := ⟨hop, hsh, hwf⟩
  have HLR : Hid ((readyL lp).length ≤ 1048576) := Nat.le_trans (List.length_filter_le _ _) hl
  clear hop hsh hwf
  go_enter Tryz.func80, Tryz.ntmps80
  go_wp2_with fail
  refine (ready_any o q lp base w H.out.1 H.out.2.1 hl H.out.2.2).mono ?_
  rintro e w2 ⟨⟨a, cap, rfl, hr⟩, hb2⟩
  have HB : Hid (Row w2 a ((readyL lp).map fun p => ptrV p.2) ∧ Below w.heap.size w w2 ∧ ∀ p ∈ readyL lp, w2.heap[p.2]? = some (.cells (procVs p.1) 43 (0, 0))) := ⟨hr, hb2, fun p hp => (H.out.2.1.below hb2).box p (List.mem_filter.1 hp).1⟩
  clear hr hb2
  go_wp2_with fail
  refine (bestOf_better a (readyL lp) cap w2 HLR.out HB.out.1 HB.out.2.2).mono ?_
  rintro e w3 ⟨rfl, hb3⟩
  have HB3 : Hid (Below w.heap.size w w3) := HB.out.2.1.trans (hb3.mono HB.out.2.1.size)
  clear hb3
  go_wp2
  go_ret2
  exact ⟨rfl, HB3.out⟩

end Go.Proofs.YtkbcplnlehdjfaaGreat

/- Who is chosen: the specification and the programme. (Made by mkchosen.py.) -/
namespace Go.Proofs.YtkbcplnlehdjfaaGreat
open Go.RowKit Go.Maps
attribute [local go_sem ↓] Go.wp_at_zero Go.wp_at_succ

theorem part_procs {p : PartP} (h : partB p = true) : ∀ x ∈ p.procs, inB x.id 1 1000 = true ∧ procB x = true := fun x hx => by
  have h1 := things_all ((partB_iff _).1 h).procs x hx
  have h2 := h1.2
  simp only [Bool.and_eq_true] at h2
  exact ⟨h1.1, h2.1.1⟩
theorem chosen_none {p : PartP} (h : partB p = true) (hb : bestL (p.procs.filter fun x => decide (x.state = 1) && decide (x.on = 0)) = none) : chosenB p = 0 := by
  rw [ready_on fun x hx => (part_procs h x hx).2] at hb
  simp only [chosenB, h, if_true, chosenL, hb]
theorem chosen_some {p : PartP} {y : ProcP} (h : partB p = true) (hb : bestL (p.procs.filter fun x => decide (x.state = 1) && decide (x.on = 0)) = some y) : chosenB p = y.id := by
  rw [ready_on fun x hx => (part_procs h x hx).2] at hb
  simp only [chosenB, h, if_true, chosenL, hb]
theorem best_none {f : ProcP → Bool} {l : List ProcP} {i : Int} (h : BestIs f l l.length i) (hi : i < 0) : bestL (l.filter f) = none := by
  unfold BestIs at h
  rw [List.take_length] at h
  split at h
  · assumption
  · obtain ⟨n, h1, _⟩ := h
    omega

set_option maxRecDepth 100000 in
set_option maxHeartbeats 4000000 in
theorem specChosen_any (p : PartD) (w : World) (hf : p.Fit) (hs : ∀ x ∈ p.procs, x.Short) (h : PartD.At w p) :
    Calls Tryz.prog 53 #[.agg p.cells] w fun e w' => e = .returned (.int .i64 (chosenB p.pure)) ∧ Below w.heap.size w w' := by
  have HB : Hid (PartBox (w.alloc (.cells p.cells 32)) w.heap.size p ∧ PartD.At (w.alloc (.cells p.cells 32)) p ∧ Below w.heap.size w (w.alloc (.cells p.cells 32))) := ⟨heap_alloc_new _ _, h.below ((Below.refl _ _).alloc (Nat.le_refl _) _), (Below.refl _ _).alloc (Nat.le_refl _) _⟩
  have HFT : Hid (p.Fit ∧ ∀ x ∈ p.procs, x.Short) := ⟨hf, hs⟩
  clear h hf hs
  unfold PartD.cells at *
  go_enter Tryz.func53, Tryz.ntmps53
  go_wp2_with fail
  generalize w.alloc (.cells #[.int .i64 p.id, .int .i64 p.next, .slice p.procA p.procs.length p.procC, .slice p.semA p.sems.length p.semC, .slice p.eventA p.events.length p.eventC, .slice p.boardA p.boards.length p.boardC, .slice p.bufferA p.buffers.length p.bufferC, .slice p.portA p.ports.length p.portC] 32) = W at *
  refine (specPartOk_any p W HFT.out.1 HFT.out.2 HB.out.2.1).mono ?_
  rintro e W1 ⟨rfl, hb1⟩
  have HB1 : Hid (PartBox W1 w.heap.size p ∧ PartD.At W1 p ∧ Below w.heap.size w W1) := ⟨HB.out.1.below hb1, HB.out.2.1.below hb1, HB.out.2.2.trans (hb1.mono HB.out.2.2.size)⟩
  clear hb1 HB
  cases h4 : partB p.pure
  · have HN : Hid (chosenB p.pure = 0) := by show chosenB _ = 0; simp [chosenB, h4]
    clear h4
    go_wp2
    go_ret
    exact ⟨ret_int HN.out.symm, HB1.out.2.2⟩
  have H4 : Hid (partB p.pure = true) := h4
  clear h4
  obtain ⟨m0, m1, m2, m3, m4, m5, m6, m7⟩ := HB1.out.1.cells
  go_wp2_with fail
  clear m0 m1 m2 m3 m4 m5 m6 m7
  refine (l4Best_any p 1 0 W1 HFT.out.1.short.procs HB1.out.2.1).mono ?_
  rintro e W2 ⟨⟨i, rfl, hbi⟩, hb2⟩
  have HB2 : Hid (PartBox W2 w.heap.size p ∧ PartD.At W2 p ∧ Below w.heap.size w W2) := ⟨HB1.out.1.below hb2, HB1.out.2.1.below hb2, HB1.out.2.2.trans (hb2.mono HB1.out.2.2.size)⟩
  have hpl : p.pure.procs.length = p.procs.length := by simp [PartD.pure]
  by_cases hi : i < 0
  · have HN : Hid (chosenB p.pure = 0) := chosen_none H4.out (best_none (by rw [hpl]; exact hbi) hi)
    have dz : decide (i < 0) = true := decide_eq_true hi
    clear hbi hb2 hpl hi
    go_wp2
    go_ret
    exact ⟨ret_int HN.out.symm, HB2.out.2.2⟩
  have dz : decide (i < 0) = false := decide_eq_false hi
  obtain ⟨n, y0, hin, hn, hy0, hbe⟩ := hbi.got hi
  subst hin
  rw [List.take_of_length_le (by omega)] at hbe
  obtain ⟨y, hy, rfl⟩ : ∃ y, p.procs[n]? = some y ∧ y.toProcP = y0 := by
    have h5 : (p.procs.map (·.toProcP))[n]? = some y0 := hy0
    rw [List.getElem?_map, Option.map_eq_some_iff] at h5
    exact h5
  have HN : Hid (chosenB p.pure = y.id) := chosen_some H4.out hbe
  have j0 : (0 : Int) ≤ (n : Int) := by omega
  have j1 : (n : Int) < (p.procs.length : Int) := by omega
  obtain ⟨gs, ha, hat⟩ := proc_at HB2.out.2.1.1 hy
  obtain ⟨-, -, m2, -⟩ := HB2.out.1.cells
  rw [ha] at m2
  have y0 := hat.1
  clear hy hy0 hbe hi hat hbi hb2 hpl ha
  go_wp2
  go_ret
  exact ⟨ret_int HN.out.symm, HB2.out.2.2⟩

theorem open_wf {S : OpenD} (h : PartR S.pure) : ∀ p ∈ keysOf (fun x : ProcD => x.id) S.lp, (Lit.int .i64 p.1).wf = true := fun p hp => by
  obtain ⟨r, hr, rfl⟩ := List.mem_map.1 hp
  have h1 := (things_all h.procs r.1.toProcP (List.mem_map.2 ⟨r, hr, rfl⟩)).1
  have h2 := inB_iff.1 h1
  have e1 : IntKind.min .i64 ≤ 0 := by decide
  have e2 : 100000 ≤ IntKind.max .i64 := by decide
  simp only [Lit.wf, Bool.and_eq_true, decide_eq_true_eq]
  have h3 : r.1.toProcP.id = r.1.id := rfl
  omega

set_option maxRecDepth 100000 in
set_option maxHeartbeats 4000000 in
theorem implChosen_any (p : PartD) (w : World) (hg : p.Good w) : Calls Tryz.prog 25 #[.agg p.cells] w fun e w' => e = .returned (.int .i64 (chosenB p.pure)) ∧ Below w.heap.size w w' := by
  have HG : Hid (p.Good (w.alloc (.cells p.cells 32)) ∧ Below w.heap.size w (w.alloc (.cells p.cells 32))) := ⟨hg.below ((Below.refl _ _).alloc (Nat.le_refl _) _), (Below.refl _ _).alloc (Nat.le_refl _) _⟩
  clear hg
  unfold PartD.cells at *
  go_enter Tryz.func25, Tryz.ntmps25
  go_wp2_with fail
  generalize w.alloc (.cells #[.int .i64 p.id, .int .i64 p.next, .slice p.procA p.procs.length p.procC, .slice p.semA p.sems.length p.semC, .slice p.eventA p.events.length p.eventC, .slice p.boardA p.boards.length p.boardC, .slice p.bufferA p.buffers.length p.bufferC, .slice p.portA p.ports.length p.portC] 32) = W at *
  refine (opened_any p W HG.out.1).mono ?_
  rintro e w1 ⟨hb1, ⟨hno, rfl⟩ | ⟨hyes, o, S, rfl, hat, hpu⟩⟩
  · have HZ : Hid (Below w.heap.size w w1 ∧ chosenB p.pure = 0) := ⟨HG.out.2.trans (hb1.mono HG.out.2.size), by simp [chosenB, partB_false hno]⟩
    clear hb1 hno
    go_wp2
    go_ret
    exact ⟨ret_int HZ.out.2.symm, HZ.out.1⟩
  have HZ : Hid (Below w.heap.size w w1 ∧ PartR S.pure ∧ OpenAt w1 W.heap.size o S ∧ S.pure = p.pure) := ⟨HG.out.2.trans (hb1.mono HG.out.2.size), by rw [hpu]; exact hyes, hat, hpu⟩
  have HLN : Hid (S.lp.length ≤ 1048576) := by have h5 := HZ.out.2.1.nProc; have h6 : S.pure.procs.length = S.lp.length := (by simp [OpenD.pure]); show S.lp.length ≤ _; omega
  clear hb1 hyes hat hpu
  go_wp2_with fail
  refine (chosen_any o S.q S.lp W.heap.size w1 HZ.out.2.2.1.opn HZ.out.2.2.1.procs HLN.out (open_wf HZ.out.2.1)).mono ?_
  rintro e w2 ⟨rfl, hb2⟩
  have HB2 : Hid (Below w.heap.size w w2) := HZ.out.1.trans (hb2.mono HZ.out.1.size)
  by_cases hr : 0 < (readyL S.lp).length
  · have dr : decide (0 < (readyL S.lp).length) = true := decide_eq_true hr
    obtain ⟨y, hy, hym⟩ := bestD_take (l := readyL S.lp) hr (Nat.le_refl _)
    rw [List.take_length] at hy
    have HC : Hid (chosenB p.pure = y.1.id) := by
      have h5 := bestD_pure (readyL S.lp)
      rw [hy, readyL_pure] at h5
      show chosenB _ = _
      rw [← HZ.out.2.2.2]
      simp only [chosenB, partB_true HZ.out.2.1, if_true, chosenL]
      have h6 : bestL (S.pure.procs.filter fun x => decide (x.state = 1)) = some y.1.toProcP := h5.symm
      rw [h6]
    have hbx : w2.heap[y.2]? = some (.cells (procVs y.1) 43 (0, 0)) := (HZ.out.2.2.1.procs.below hb2).box y (List.mem_filter.1 hym).1
    obtain ⟨s0, -⟩ := proc_cells hbx
    rw [hy, dr]
    simp only [ptrO, ptrV, Option.map_some]
    clear hb2 hr dr hy hym hbx
    go_wp2
    go_ret
    exact ⟨ret_int HC.out.symm, HB2.out⟩
  · have dr : decide (0 < (readyL S.lp).length) = false := decide_eq_false hr
    have he : readyL S.lp = [] := List.eq_nil_of_length_eq_zero (by omega)
    have HC : Hid (chosenB p.pure = 0) := by
      have h5 := bestD_pure (readyL S.lp)
      rw [readyL_pure] at h5
      show chosenB _ = _
      rw [← HZ.out.2.2.2]
      simp only [chosenB, partB_true HZ.out.2.1, if_true, chosenL]
      have h6 : bestL (S.pure.procs.filter fun x => decide (x.state = 1)) = none := by rw [show S.pure.procs = S.lp.map (·.1.toProcP) from rfl, ← h5, he]; rfl
      rw [h6]
    rw [dr, he]
    clear hb2 hr dr he
    go_wp2
    go_ret
    exact ⟨ret_int HC.out.symm, HB2.out⟩

end Go.Proofs.YtkbcplnlehdjfaaGreat

/- The cells of a partition that lies in a block. (Made by mkchosenlaw.py.) -/
namespace Go.Proofs.YtkbcplnlehdjfaaGreat
open Go.RowKit

theorem srcCells {W : World} {B : Nat} {p : PartD} {T : TypeId} (h : W.heap[B]? = some (.cells #[.int .i64 p.id, .int .i64 p.next, .slice p.procA p.procs.length p.procC, .slice p.semA p.sems.length p.semC, .slice p.eventA p.events.length p.eventC, .slice p.boardA p.boards.length p.boardC, .slice p.bufferA p.buffers.length p.bufferC, .slice p.portA p.ports.length p.portC] T (0, 0))) : W.cell? ⟨B, 0, none⟩ = some (.int .i64 p.id) ∧ W.cell? ⟨B, 1, none⟩ = some (.int .i64 p.next) ∧ W.cell? ⟨B, 2, none⟩ = some (.slice p.procA p.procs.length p.procC) ∧ W.cell? ⟨B, 3, none⟩ = some (.slice p.semA p.sems.length p.semC) ∧ W.cell? ⟨B, 4, none⟩ = some (.slice p.eventA p.events.length p.eventC) ∧ W.cell? ⟨B, 5, none⟩ = some (.slice p.boardA p.boards.length p.boardC) ∧ W.cell? ⟨B, 6, none⟩ = some (.slice p.bufferA p.buffers.length p.bufferC) ∧ W.cell? ⟨B, 7, none⟩ = some (.slice p.portA p.ports.length p.portC) := by
  simp [World.cell?, h]

end Go.Proofs.YtkbcplnlehdjfaaGreat

/- The exact law of Chosen, called at any partition: true, and nothing that was there is changed. (Made by mkchosenlaw.py.) -/
namespace Go.Proofs.YtkbcplnlehdjfaaGreat
open Go.RowKit
attribute [local go_sem ↓] Go.wp_at_zero Go.wp_at_succ

set_option maxRecDepth 100000 in
set_option maxHeartbeats 4000000 in
theorem chosenLaw_any (p : PartD) (w : World) (hb : p.Big) (hc : p.Came w) (hi : p.Ints) :
    Calls Tryz.prog 16 #[.agg p.cells] w fun e w' => e = .returned (.bool true) ∧ Below w.heap.size w w' := by
  have HB : Hid (p.Big ∧ p.Ints) := ⟨hb, hi⟩
  have HC : Hid (p.Came w) := hc
  have HX : Hid ((w.alloc (.cells #[.int .i64 p.id, .int .i64 p.next, .slice p.procA p.procs.length p.procC, .slice p.semA p.sems.length p.semC, .slice p.eventA p.events.length p.eventC, .slice p.boardA p.boards.length p.boardC, .slice p.bufferA p.buffers.length p.bufferC, .slice p.portA p.ports.length p.portC] 73)).heap[w.heap.size]? = some (.cells #[.int .i64 p.id, .int .i64 p.next, .slice p.procA p.procs.length p.procC, .slice p.semA p.sems.length p.semC, .slice p.eventA p.events.length p.eventC, .slice p.boardA p.boards.length p.boardC, .slice p.bufferA p.buffers.length p.bufferC, .slice p.portA p.ports.length p.portC] 73 (0, 0)) ∧ Below w.heap.size w (w.alloc (.cells #[.int .i64 p.id, .int .i64 p.next, .slice p.procA p.procs.length p.procC, .slice p.semA p.sems.length p.semC, .slice p.eventA p.events.length p.eventC, .slice p.boardA p.boards.length p.boardC, .slice p.bufferA p.buffers.length p.bufferC, .slice p.portA p.ports.length p.portC] 73))) := ⟨heap_alloc_new _ _, (Below.refl _ _).alloc (Nat.le_refl _) _⟩
  clear hb hc hi
  unfold PartD.cells
  go_enter Tryz.func16, Tryz.ntmps16
  go_wp2_with fail
  generalize w.alloc (.cells #[.int .i64 p.id, .int .i64 p.next, .slice p.procA p.procs.length p.procC, .slice p.semA p.sems.length p.semC, .slice p.eventA p.events.length p.eventC, .slice p.boardA p.boards.length p.boardC, .slice p.bufferA p.buffers.length p.bufferC, .slice p.portA p.ports.length p.portC] 73) = W0 at *
  refine (szPart_l p 1048576 W0 HB.out.1 (HC.out.below HX.out.2) (by omega) (by omega)).mono ?_
  rintro e W1 ⟨r, rfl, r0, r1, hr, hb1⟩
  have HY : Hid (W1.heap[w.heap.size]? = some (.cells #[.int .i64 p.id, .int .i64 p.next, .slice p.procA p.procs.length p.procC, .slice p.semA p.sems.length p.semC, .slice p.eventA p.events.length p.eventC, .slice p.boardA p.boards.length p.boardC, .slice p.bufferA p.buffers.length p.bufferC, .slice p.portA p.ports.length p.portC] 73 (0, 0)) ∧ Below w.heap.size w W1) := ⟨(hb1.block _ (Array.getElem?_eq_some_iff.1 HX.out.1).1).trans HX.out.1, HX.out.2.trans (hb1.mono HX.out.2.size)⟩
  clear HX
  have HX := HY
  clear HY
  clear hb1
  by_cases hneg : r < 0
  · go_wp2
    go_ret
    exact ⟨rfl, HX.out.2⟩
  have HSM : Hid (p.Shorts ∧ p.pure.Small) := ⟨hr (by omega), small_of (hr (by omega)) HB.out.2⟩
  clear hr
  obtain ⟨m0, m1, m2, m3, m4, m5, m6, m7⟩ := srcCells HX.out.1
  go_wp2_with fail
  clear m0 m1 m2 m3 m4 m5 m6 m7
  refine (toPart_l p W1 HSM.out.1 (HC.out.below HX.out.2)).mono ?_
  rintro e W2 ⟨p2, rfl, ho2, hp2, hb2⟩
  have H2 : Hid (PartOwn W2 W1.heap.size p2 ∧ p2.pure = p.pure ∧ p2.pure.Small) := ⟨ho2, hp2, by rw [hp2]; exact HSM.out.2⟩
  have HY : Hid (W2.heap[w.heap.size]? = some (.cells #[.int .i64 p.id, .int .i64 p.next, .slice p.procA p.procs.length p.procC, .slice p.semA p.sems.length p.semC, .slice p.eventA p.events.length p.eventC, .slice p.boardA p.boards.length p.boardC, .slice p.bufferA p.buffers.length p.bufferC, .slice p.portA p.ports.length p.portC] 73 (0, 0)) ∧ Below w.heap.size w W2) := ⟨(hb2.block _ (Array.getElem?_eq_some_iff.1 HX.out.1).1).trans HX.out.1, HX.out.2.trans (hb2.mono HX.out.2.size)⟩
  clear HX
  have HX := HY
  clear HY
  clear ho2 hp2 hb2
  go_wp2_with fail
  refine (specChosen_any p2 W2 (small_fit H2.out.2.2) (fun x hx => (small_proc H2.out.2.2 hx).1) H2.out.1.at).mono ?_
  rintro e W3 ⟨rfl, hb3⟩
  have HY : Hid (W3.heap[w.heap.size]? = some (.cells #[.int .i64 p.id, .int .i64 p.next, .slice p.procA p.procs.length p.procC, .slice p.semA p.sems.length p.semC, .slice p.eventA p.events.length p.eventC, .slice p.boardA p.boards.length p.boardC, .slice p.bufferA p.buffers.length p.bufferC, .slice p.portA p.ports.length p.portC] 73 (0, 0)) ∧ Below w.heap.size w W3) := ⟨(hb3.block _ (Array.getElem?_eq_some_iff.1 HX.out.1).1).trans HX.out.1, HX.out.2.trans (hb3.mono HX.out.2.size)⟩
  clear HX
  have HX := HY
  clear HY
  clear hb3
  rw [H2.out.2.1]
  clear H2
  obtain ⟨m0, m1, m2, m3, m4, m5, m6, m7⟩ := srcCells HX.out.1
  go_wp2_with fail
  clear m0 m1 m2 m3 m4 m5 m6 m7
  refine (toPart_l p W3 HSM.out.1 (HC.out.below HX.out.2)).mono ?_
  rintro e V4 ⟨p4, rfl, ho4, hp4, hb4⟩
  have H4 : Hid (PartOwn (V4.alloc (.cells #[.int .i64 p4.id, .int .i64 p4.next, .slice p4.procA p4.procs.length p4.procC, .slice p4.semA p4.sems.length p4.semC, .slice p4.eventA p4.events.length p4.eventC, .slice p4.boardA p4.boards.length p4.boardC, .slice p4.bufferA p4.buffers.length p4.bufferC, .slice p4.portA p4.ports.length p4.portC] 32)) W3.heap.size p4 ∧ p4.pure = p.pure ∧ p4.pure.Small ∧ (V4.alloc (.cells #[.int .i64 p4.id, .int .i64 p4.next, .slice p4.procA p4.procs.length p4.procC, .slice p4.semA p4.sems.length p4.semC, .slice p4.eventA p4.events.length p4.eventC, .slice p4.boardA p4.boards.length p4.boardC, .slice p4.bufferA p4.buffers.length p4.bufferC, .slice p4.portA p4.ports.length p4.portC] 32)).heap[V4.heap.size]? = some (.cells #[.int .i64 p4.id, .int .i64 p4.next, .slice p4.procA p4.procs.length p4.procC, .slice p4.semA p4.sems.length p4.semC, .slice p4.eventA p4.events.length p4.eventC, .slice p4.boardA p4.boards.length p4.boardC, .slice p4.bufferA p4.buffers.length p4.bufferC, .slice p4.portA p4.ports.length p4.portC] 32 (0, 0))) := ⟨ho4.below ((Below.refl _ _).alloc (Nat.le_refl _) _), hp4, by rw [hp4]; exact HSM.out.2, heap_alloc_new _ _⟩
  have hb4' : Below W3.heap.size W3 (V4.alloc (.cells #[.int .i64 p4.id, .int .i64 p4.next, .slice p4.procA p4.procs.length p4.procC, .slice p4.semA p4.sems.length p4.semC, .slice p4.eventA p4.events.length p4.eventC, .slice p4.boardA p4.boards.length p4.boardC, .slice p4.bufferA p4.buffers.length p4.bufferC, .slice p4.portA p4.ports.length p4.portC] 32)) := hb4.alloc hb4.size _
  unfold PartD.cells
  go_wp2_with fail
  generalize V4.alloc (.cells #[.int .i64 p4.id, .int .i64 p4.next, .slice p4.procA p4.procs.length p4.procC, .slice p4.semA p4.sems.length p4.semC, .slice p4.eventA p4.events.length p4.eventC, .slice p4.boardA p4.boards.length p4.boardC, .slice p4.bufferA p4.buffers.length p4.bufferC, .slice p4.portA p4.ports.length p4.portC] 32) = W4 at *
  generalize V4.heap.size = X4 at *
  have HY : Hid (W4.heap[w.heap.size]? = some (.cells #[.int .i64 p.id, .int .i64 p.next, .slice p.procA p.procs.length p.procC, .slice p.semA p.sems.length p.semC, .slice p.eventA p.events.length p.eventC, .slice p.boardA p.boards.length p.boardC, .slice p.bufferA p.buffers.length p.bufferC, .slice p.portA p.ports.length p.portC] 73 (0, 0)) ∧ Below w.heap.size w W4) := ⟨(hb4'.block _ (Array.getElem?_eq_some_iff.1 HX.out.1).1).trans HX.out.1, HX.out.2.trans (hb4'.mono HX.out.2.size)⟩
  clear HX
  have HX := HY
  clear HY ho4 hp4 hb4 hb4'
  refine (implChosen_any p4 W4 (small_good H4.out.2.2.1 H4.out.1)).mono ?_
  rintro e W5 ⟨rfl, hb5⟩
  have HY : Hid (W5.heap[w.heap.size]? = some (.cells #[.int .i64 p.id, .int .i64 p.next, .slice p.procA p.procs.length p.procC, .slice p.semA p.sems.length p.semC, .slice p.eventA p.events.length p.eventC, .slice p.boardA p.boards.length p.boardC, .slice p.bufferA p.buffers.length p.bufferC, .slice p.portA p.ports.length p.portC] 73 (0, 0)) ∧ Below w.heap.size w W5) := ⟨(hb5.block _ (Array.getElem?_eq_some_iff.1 HX.out.1).1).trans HX.out.1, HX.out.2.trans (hb5.mono HX.out.2.size)⟩
  clear HX
  have HX := HY
  clear HY
  have H5 : Hid (PartOwn W5 W3.heap.size p4 ∧ p4.pure = p.pure ∧ p4.pure.Small ∧ W5.heap[X4]? = some (.cells #[.int .i64 p4.id, .int .i64 p4.next, .slice p4.procA p4.procs.length p4.procC, .slice p4.semA p4.sems.length p4.semC, .slice p4.eventA p4.events.length p4.eventC, .slice p4.boardA p4.boards.length p4.boardC, .slice p4.bufferA p4.buffers.length p4.bufferC, .slice p4.portA p4.ports.length p4.portC] 32 (0, 0))) := ⟨H4.out.1.below hb5, H4.out.2.1, H4.out.2.2.1, (hb5.block _ (Array.getElem?_eq_some_iff.1 H4.out.2.2.2).1).trans H4.out.2.2.2⟩
  rw [H4.out.2.1]
  clear H4 hb5
  generalize chosenB p.pure = ok at *
  have dn : (ok != ok) = false := by simp
  go_wp2_with fail
  have HS : Hid (W5.heap[X4]? = some (.cells #[.int .i64 p4.id, .int .i64 p4.next, .slice p4.procA p4.procs.length p4.procC, .slice p4.semA p4.sems.length p4.semC, .slice p4.eventA p4.events.length p4.eventC, .slice p4.boardA p4.boards.length p4.boardC, .slice p4.bufferA p4.buffers.length p4.bufferC, .slice p4.portA p4.ports.length p4.portC] 32 (0, 0)) ∧ W5.heap[w.heap.size]? = some (.cells #[.int .i64 p.id, .int .i64 p.next, .slice p.procA p.procs.length p.procC, .slice p.semA p.sems.length p.semC, .slice p.eventA p.events.length p.eventC, .slice p.boardA p.boards.length p.boardC, .slice p.bufferA p.buffers.length p.bufferC, .slice p.portA p.ports.length p.portC] 73 (0, 0))) := ⟨H5.out.2.2.2, HX.out.1⟩
  refine wp_region_held_drew (S := fun w' => w'.heap[X4]? = some (.cells #[.int .i64 p4.id, .int .i64 p4.next, .slice p4.procA p4.procs.length p4.procC, .slice p4.semA p4.sems.length p4.semC, .slice p4.eventA p4.events.length p4.eventC, .slice p4.boardA p4.boards.length p4.boardC, .slice p4.bufferA p4.buffers.length p4.bufferC, .slice p4.portA p4.ports.length p4.portC] 32 (0, 0)) ∧ w'.heap[w.heap.size]? = some (.cells #[.int .i64 p.id, .int .i64 p.next, .slice p.procA p.procs.length p.procC, .slice p.semA p.sems.length p.semC, .slice p.eventA p.events.length p.eventC, .slice p.boardA p.boards.length p.boardC, .slice p.bufferA p.buffers.length p.bufferC, .slice p.portA p.ports.length p.portC] 73 (0, 0))) (by kernel_rfl) HS.out (fun hHeld => ?_)
  refine wpAnyH_take (i := 0) (v := .agg #[.int .i64 p4.id, .int .i64 p4.next, .slice p4.procA p4.procs.length p4.procC, .slice p4.semA p4.sems.length p4.semC, .slice p4.eventA p4.events.length p4.eventC, .slice p4.boardA p4.boards.length p4.boardC, .slice p4.bufferA p4.buffers.length p4.bufferC, .slice p4.portA p4.ports.length p4.portC]) rfl (by kernel_rfl) (by kernel_rfl) (by kernel_rfl) (fun _ _ _ h => h) (yieldsIf_row (by rfl) 32 _ rfl X4 (by rfl) 32 _ _ (fun _ h => h.1) Tryz.underlying32 rfl (by kernel_rfl)) hHeld ?_
  simp only [List.getElem_toArray, List.getElem_cons_zero, Act.put, List.setIfInBounds_toArray, List.set_cons_zero, List.set_cons_succ]
  refine wpAnyH_take (i := 1) (v := .agg #[.int .i64 p.id, .int .i64 p.next, .slice p.procA p.procs.length p.procC, .slice p.semA p.sems.length p.semC, .slice p.eventA p.events.length p.eventC, .slice p.boardA p.boards.length p.boardC, .slice p.bufferA p.buffers.length p.bufferC, .slice p.portA p.ports.length p.portC]) rfl (by kernel_rfl) (by kernel_rfl) (by kernel_rfl) (fun _ _ _ h => h) (yieldsIf_row (by rfl) 73 _ rfl w.heap.size (by rfl) 73 _ _ (fun _ h => h.2) Tryz.underlying73 rfl (by kernel_rfl)) hHeld ?_
  simp only [List.getElem_toArray, List.getElem_cons_zero, List.getElem_cons_succ, Act.put, List.setIfInBounds_toArray, List.set_cons_zero, List.set_cons_succ]
  refine wpAnyH_ready (rs := [2]) (by kernel_rfl) (by simp) ?_
  refine AllReadyH.cons rfl (fun K hK => ?_) AllReadyH.nil
  simp only [List.getElem_toArray, List.getElem_cons_zero, List.getElem_cons_succ]
  rw [if_pos (by rfl)]
  go_wp2_with fail
  refine (toPart_l p W5.drew HSM.out.1 (HC.out.below HX.out.2.drew)).mono ?_
  rintro e W6 ⟨p6, rfl, ho6, hp6, hb6'⟩
  have hb6 : Below W5.heap.size W5 W6 := below_undrew' hb6'
  have HY : Hid (W6.heap[w.heap.size]? = some (.cells #[.int .i64 p.id, .int .i64 p.next, .slice p.procA p.procs.length p.procC, .slice p.semA p.sems.length p.semC, .slice p.eventA p.events.length p.eventC, .slice p.boardA p.boards.length p.boardC, .slice p.bufferA p.buffers.length p.bufferC, .slice p.portA p.ports.length p.portC] 73 (0, 0)) ∧ Below w.heap.size w W6) := ⟨(hb6.block _ (Array.getElem?_eq_some_iff.1 HX.out.1).1).trans HX.out.1, HX.out.2.trans (hb6.mono HX.out.2.size)⟩
  clear HX
  have HX := HY
  clear HY
  have H6 : Hid (PartOwn W6 W3.heap.size p4 ∧ p4.pure = p.pure ∧ p4.pure.Small ∧ W6.heap[X4]? = some (.cells #[.int .i64 p4.id, .int .i64 p4.next, .slice p4.procA p4.procs.length p4.procC, .slice p4.semA p4.sems.length p4.semC, .slice p4.eventA p4.events.length p4.eventC, .slice p4.boardA p4.boards.length p4.boardC, .slice p4.bufferA p4.buffers.length p4.bufferC, .slice p4.portA p4.ports.length p4.portC] 32 (0, 0))) := ⟨H5.out.1.below hb6, H5.out.2.1, H5.out.2.2.1, (hb6.block _ (Array.getElem?_eq_some_iff.1 H5.out.2.2.2).1).trans H5.out.2.2.2⟩
  have H7 : Hid (PartD.At W6 p6 ∧ p6.pure = p4.pure) := ⟨ho6.at, by rw [hp6, H6.out.2.1]⟩
  clear H5 hb6 hb6' ho6 hp6 HS hHeld
  refine hK.out _ _ ⟨H6.out.2.2.2, HX.out.1⟩ (fun hHeld => ?_)
  clear hK K
  try simp only [List.getElem_toArray, List.getElem_cons_zero, List.getElem_cons_succ, Act.put, List.setIfInBounds_toArray, List.set_cons_zero, List.set_cons_succ]
  refine wpAnyH_ready (rs := [3]) (by kernel_rfl) (by simp) ?_
  refine AllReadyH.cons rfl (fun K hK => ?_) AllReadyH.nil
  simp only [List.getElem_toArray, List.getElem_cons_zero, List.getElem_cons_succ]
  rw [if_pos (by rfl)]
  go_wp2_with fail
  refine (eqPart_l p4 p6 W6 H6.out.2.2.1 H7.out.2 H6.out.1.at H7.out.1).mono ?_
  rintro e W7 ⟨rfl, hb7⟩
  have HY : Hid (W7.heap[w.heap.size]? = some (.cells #[.int .i64 p.id, .int .i64 p.next, .slice p.procA p.procs.length p.procC, .slice p.semA p.sems.length p.semC, .slice p.eventA p.events.length p.eventC, .slice p.boardA p.boards.length p.boardC, .slice p.bufferA p.buffers.length p.bufferC, .slice p.portA p.ports.length p.portC] 73 (0, 0)) ∧ Below w.heap.size w W7) := ⟨(hb7.block _ (Array.getElem?_eq_some_iff.1 HX.out.1).1).trans HX.out.1, HX.out.2.trans (hb7.mono HX.out.2.size)⟩
  clear HX
  have HX := HY
  clear HY
  have HS : Hid (W7.heap[X4]? = some (.cells #[.int .i64 p4.id, .int .i64 p4.next, .slice p4.procA p4.procs.length p4.procC, .slice p4.semA p4.sems.length p4.semC, .slice p4.eventA p4.events.length p4.eventC, .slice p4.boardA p4.boards.length p4.boardC, .slice p4.bufferA p4.buffers.length p4.bufferC, .slice p4.portA p4.ports.length p4.portC] 32 (0, 0))) := (hb7.block _ (Array.getElem?_eq_some_iff.1 H6.out.2.2.2).1).trans H6.out.2.2.2
  clear hb7
  refine hK.out _ _ ⟨HS.out, HX.out.1⟩ (fun hHeld => ?_)
  clear hK K
  try simp only [List.getElem_toArray, List.getElem_cons_zero, List.getElem_cons_succ, Act.put, List.setIfInBounds_toArray, List.set_cons_zero, List.set_cons_succ]
  refine wpAnyH_take (i := 4) (v := .bool false) rfl (by kernel_rfl) (by kernel_rfl) (by kernel_rfl) (fun _ _ _ h => h) (Or.inl ⟨by rfl, fun _ _ => rfl⟩) ⟨HS.out, HX.out.1⟩ ?_
  simp only [List.getElem_toArray, List.getElem_cons_zero, List.getElem_cons_succ, Act.put, List.setIfInBounds_toArray, List.set_cons_zero, List.set_cons_succ]
  refine wpAnyH_done (by kernel_rfl) ?_ _
  go_wp2
  go_ret
  exact ⟨rfl, HX.out.2⟩

end Go.Proofs.YtkbcplnlehdjfaaGreat

/- What comes in as a law's argument, opened: lists of things, and a partition. (Made by mkopenl.py.) -/
namespace Go.Proofs.YtkbcplnlehdjfaaGreat
open Go.RowKit Go.ChangeShapes Go.WideShapes Go.Joins Go.Deep

theorem list_of {α : Type} {p : Nat → α → Prop} : ∀ n, (∀ i, i < n → ∃ y, p i y) → ∃ l : List α, l.length = n ∧ ∀ i y, l[i]? = some y → p i y
  | 0, _ => ⟨[], rfl, fun i y h => by simp at h⟩
  | n + 1, h => by
    obtain ⟨l, hl, hp⟩ := list_of n fun i hi => h i (by omega)
    obtain ⟨y, hy⟩ := h n (by omega)
    refine ⟨l ++ [y], by simp [hl], fun i z hz => ?_⟩
    by_cases hi : i < l.length
    · rw [List.getElem?_append_left hi] at hz
      exact hp i z hz
    · rw [List.getElem?_append_right (by omega)] at hz
      have e : i - l.length = 0 := by
        have := (List.getElem?_eq_some_iff.1 hz).1
        simp at this
        omega
      rw [e] at hz
      simp only [List.getElem?_cons_zero, Option.some.injEq] at hz
      subst hz
      have : i = n := by omega
      subst this
      exact hy

section
variable {H : Type} {enc : TypeId × Value → H} {W : World}
/-- The fields of a struct of one-cell fields, each by itself. -/
theorem fields1 {t : TypeId} {fs : Array Field} {fuel : Nat} {cs : List Value} {x : DataW H × List MemPlace} (ht : Tryz.prog.underlying t = some (.struct fs)) (hone : oneCellFields Tryz.prog fs = true) (h : DataW.trod enc Tryz.prog W 0 (fun _ => true) true fuel t cs = some x) :
    cs.length = Tryz.prog.cellsOf t ∧ ∃ n, ∀ (i : Nat) (f : Field) (v : Value), fs[i]? = some f → cs[i]? = some v → ∃ y, DataW.trod enc Tryz.prog W 0 (fun _ => true) true n f.type [v] = some y := by
  obtain ⟨xs, n, _, _, hl, hlen, hf⟩ := DataW.trod_struct ht h
  refine ⟨hl, n, fun i f v hfi hv => ?_⟩
  obtain ⟨o1, o2⟩ := hone_of hone i f hfi
  have h1 := hf i f hfi
  have hi : i < xs.length := by rw [hlen]; exact (Array.getElem?_eq_some_iff.1 hfi).1
  rw [o1, o2, List.getElem?_eq_getElem hi] at h1
  have h2 : (cs.drop i).take 1 = [v] := by
    obtain ⟨hlt, rfl⟩ := List.getElem?_eq_some_iff.1 hv
    rw [List.drop_eq_getElem_cons hlt]
    rfl
  rw [h2] at h1
  exact ⟨_, h1⟩

/-- A list of things that came in. -/
theorem open_list {α : Type} (K : Kind α) (G : α → Prop) {t e : TypeId} (ht : Tryz.prog.underlying t = some (.slice e)) (hn : Tryz.prog.cellsOf e = K.n) (hel : ∀ n cs x, DataW.trod enc Tryz.prog W 0 (fun _ => true) true n e cs = some x → ∃ y, cs = K.vals y ∧ G y)
    {fuel : Nat} {v : Value} {x : DataW H × List MemPlace} (h : DataW.trod enc Tryz.prog W 0 (fun _ => true) true fuel t [v] = some x) :
    ∃ (a : Option Addr) (l : List α) (cap : Nat), v = .slice a l.length cap ∧ l.length ≤ maxLen ∧ Src W a (K.flat l) ∧ ∀ y ∈ l, G y := by
  rcases open_slice ht h with ⟨e1, _⟩ | ⟨a, len, cap, q, n, Dd, Pl, e1, _, hl, hm, hq, _, hx⟩
  · simp only [List.cons.injEq, and_true] at e1
    exact ⟨none, [], 0, e1, Nat.zero_le _, (fun j u hu => by simp [Kind.flat] at hu), fun y hy => by cases hy⟩
  · simp only [List.cons.injEq, and_true] at e1
    simp only [if_true] at hq
    have key : ∀ i, i < len → ∃ y, (∀ r, r < K.n → W.cell? (a.add (i * K.n + r)) = (K.vals y)[r]?) ∧ G y := fun i hi => by
      obtain ⟨cs', k1, k2⟩ := hx i (by omega)
      rw [hn] at k1
      obtain ⟨_, _, kc⟩ := World.cells?_some k1
      obtain ⟨y, rfl, hy⟩ := hel _ _ _ k2
      refine ⟨y, fun r hr => ?_, hy⟩
      have := kc r hr
      rw [add_add] at this
      exact this
    obtain ⟨l, hlen, hp⟩ := list_of len key
    refine ⟨some a, l, cap, by rw [hlen]; exact e1, by rw [hlen]; omega, fun j u hu => ?_, fun y hy => ?_⟩
    · have hj : j < l.length * K.n := by
        rw [← K.flat_length]
        exact (List.getElem?_eq_some_iff.1 hu).1
      have hi : j / K.n < l.length := Nat.div_lt_of_lt_mul (by rw [Nat.mul_comm]; exact hj)
      have hr : j % K.n < K.n := Nat.mod_lt _ K.pos
      have ej : j / K.n * K.n + j % K.n = j := by rw [Nat.mul_comm]; exact Nat.div_add_mod j K.n
      obtain ⟨y, hy⟩ : ∃ y, l[j / K.n]? = some y := ⟨_, List.getElem?_eq_getElem hi⟩
      have h1 := (hp _ _ hy).1 (j % K.n) hr
      rw [← K.flat_get hy hr, ej, hu] at h1
      obtain ⟨b, off, spot⟩ := a
      have hspot : spot = none := by
        obtain ⟨y0, hy0⟩ : ∃ y, l[0]? = some y := ⟨_, List.getElem?_eq_getElem (Nat.lt_of_le_of_lt (Nat.zero_le _) hi)⟩
        have h2 := (hp _ _ hy0).1 0 K.pos
        rw [List.getElem?_eq_getElem (by rw [K.len]; exact K.pos)] at h2
        have := World.cell?_spot h2
        simpa [Addr.add] using this
      subst hspot
      rw [add_plain] at h1
      exact ⟨b, off, rfl, h1⟩
    · obtain ⟨i, hi⟩ := List.mem_iff_getElem?.1 hy
      exact (hp _ _ hi).2

theorem cellsStr : Tryz.prog.cellsOf 9 = strK.n := by kernel_rfl
theorem openStr_in {fuel : Nat} {cs : List Value} {x : DataW H × List MemPlace} (h : DataW.trod enc Tryz.prog W 0 (fun _ => true) true fuel 9 cs = some x) : ∃ s : ByteArray, cs = strK.vals s ∧ s.size ≤ maxLen := by
  obtain ⟨s, e, -, hs⟩ := DataW.trod_string Tryz.underlying9 h
  exact ⟨s, e, hs⟩
theorem cellsOp : Tryz.prog.cellsOf 174 = 4 := by kernel_rfl
theorem openOp_in {fuel : Nat} {cs : List Value} {x : DataW H × List MemPlace} (h : DataW.trod enc Tryz.prog W 0 (fun _ => true) true fuel 174 cs = some x) : ∃ y, cs = opK.vals y ∧ (fun o : OpD => o.2.2.2.size ≤ maxLen) y := by
  obtain ⟨hlen, n, hf⟩ := fields1 Tryz.underlying174 (by kernel_rfl) h
  rw [cellsOp] at hlen
  match cs, hlen with
  | [v0, v1, v2, v3], _ =>
    obtain ⟨y0, h0⟩ := hf 0 _ v0 rfl rfl
    obtain ⟨a0, e0, -, w0⟩ := DataW.trod_int Tryz.underlying2 h0
    obtain ⟨y1, h1⟩ := hf 1 _ v1 rfl rfl
    obtain ⟨a1, e1, -, w1⟩ := DataW.trod_int Tryz.underlying2 h1
    obtain ⟨y2, h2⟩ := hf 2 _ v2 rfl rfl
    obtain ⟨a2, e2, -, w2⟩ := DataW.trod_int Tryz.underlying2 h2
    obtain ⟨y3, h3⟩ := hf 3 _ v3 rfl rfl
    obtain ⟨a3, e3, -, s3⟩ := DataW.trod_string Tryz.underlying9 h3
    simp only [List.cons.injEq, and_true] at e0 e1 e2 e3
    subst e0 e1 e2 e3
    exact ⟨(a0, a1, a2, a3), rfl, s3⟩

theorem cellsSem : Tryz.prog.cellsOf 83 = 3 := by kernel_rfl
theorem openSem_in {fuel : Nat} {cs : List Value} {x : DataW H × List MemPlace} (h : DataW.trod enc Tryz.prog W 0 (fun _ => true) true fuel 83 cs = some x) : ∃ y, cs = semK.vals y ∧ (fun y : SemD => (Lit.int .i64 y.id).wf = true) y := by
  obtain ⟨hlen, n, hf⟩ := fields1 Tryz.underlying83 (by kernel_rfl) h
  rw [cellsSem] at hlen
  match cs, hlen with
  | [v0, v1, v2], _ =>
    obtain ⟨y0, h0⟩ := hf 0 _ v0 rfl rfl
    obtain ⟨a0, e0, -, w0⟩ := DataW.trod_int Tryz.underlying2 h0
    obtain ⟨y1, h1⟩ := hf 1 _ v1 rfl rfl
    obtain ⟨a1, e1, -, w1⟩ := DataW.trod_int Tryz.underlying2 h1
    obtain ⟨y2, h2⟩ := hf 2 _ v2 rfl rfl
    obtain ⟨a2, e2, -, w2⟩ := DataW.trod_int Tryz.underlying2 h2
    simp only [List.cons.injEq, and_true] at e0 e1 e2
    subst e0 e1 e2
    exact ⟨⟨a0, a1, a2⟩, rfl, w0⟩

theorem cellsEvent : Tryz.prog.cellsOf 242 = 2 := by kernel_rfl
theorem openEvent_in {fuel : Nat} {cs : List Value} {x : DataW H × List MemPlace} (h : DataW.trod enc Tryz.prog W 0 (fun _ => true) true fuel 242 cs = some x) : ∃ y, cs = eventK.vals y ∧ (fun y : EventD => (Lit.int .i64 y.id).wf = true) y := by
  obtain ⟨hlen, n, hf⟩ := fields1 Tryz.underlying242 (by kernel_rfl) h
  rw [cellsEvent] at hlen
  match cs, hlen with
  | [v0, v1], _ =>
    obtain ⟨y0, h0⟩ := hf 0 _ v0 rfl rfl
    obtain ⟨a0, e0, -, w0⟩ := DataW.trod_int Tryz.underlying2 h0
    obtain ⟨y1, h1⟩ := hf 1 _ v1 rfl rfl
    obtain ⟨a1, e1, -⟩ := DataW.trod_bool Tryz.underlying4 h1
    simp only [List.cons.injEq, and_true] at e0 e1
    subst e0 e1
    exact ⟨⟨a0, a1⟩, rfl, w0⟩

theorem cellsBoard : Tryz.prog.cellsOf 237 = 3 := by kernel_rfl
theorem openBoard_in {fuel : Nat} {cs : List Value} {x : DataW H × List MemPlace} (h : DataW.trod enc Tryz.prog W 0 (fun _ => true) true fuel 237 cs = some x) : ∃ y, cs = boardK.vals y ∧ (fun y : BoardD => (Lit.int .i64 y.id).wf = true ∧ y.text.size ≤ maxLen) y := by
  obtain ⟨hlen, n, hf⟩ := fields1 Tryz.underlying237 (by kernel_rfl) h
  rw [cellsBoard] at hlen
  match cs, hlen with
  | [v0, v1, v2], _ =>
    obtain ⟨y0, h0⟩ := hf 0 _ v0 rfl rfl
    obtain ⟨a0, e0, -, w0⟩ := DataW.trod_int Tryz.underlying2 h0
    obtain ⟨y1, h1⟩ := hf 1 _ v1 rfl rfl
    obtain ⟨a1, e1, -⟩ := DataW.trod_bool Tryz.underlying4 h1
    obtain ⟨y2, h2⟩ := hf 2 _ v2 rfl rfl
    obtain ⟨a2, e2, -, s2⟩ := DataW.trod_string Tryz.underlying9 h2
    simp only [List.cons.injEq, and_true] at e0 e1 e2
    subst e0 e1 e2
    exact ⟨⟨a0, a1, a2⟩, rfl, w0, s2⟩

theorem cellsBuffer : Tryz.prog.cellsOf 239 = 3 := by kernel_rfl
theorem openBuffer_in {fuel : Nat} {cs : List Value} {x : DataW H × List MemPlace} (h : DataW.trod enc Tryz.prog W 0 (fun _ => true) true fuel 239 cs = some x) : ∃ y, cs = bufferK.vals y ∧ (fun y : BufferD => (Lit.int .i64 y.id).wf = true ∧ (y.items.length ≤ maxLen ∧ ∀ s ∈ y.items, s.size ≤ maxLen) ∧ Src W y.itemsA (strK.flat y.items)) y := by
  obtain ⟨hlen, n, hf⟩ := fields1 Tryz.underlying239 (by kernel_rfl) h
  rw [cellsBuffer] at hlen
  match cs, hlen with
  | [v0, v1, v2], _ =>
    obtain ⟨y0, h0⟩ := hf 0 _ v0 rfl rfl
    obtain ⟨a0, e0, -, w0⟩ := DataW.trod_int Tryz.underlying2 h0
    obtain ⟨y1, h1⟩ := hf 1 _ v1 rfl rfl
    obtain ⟨a1, e1, -, w1⟩ := DataW.trod_int Tryz.underlying2 h1
    obtain ⟨y2, h2⟩ := hf 2 _ v2 rfl rfl
    obtain ⟨b2, l2, c2, e2, z2, r2, g2⟩ := open_list strK (fun s => s.size ≤ maxLen) Tryz.underlying59 cellsStr (fun _ _ _ h => openStr_in h) h2
    simp only [List.cons.injEq, and_true] at e0 e1
    subst e0 e1 e2
    exact ⟨⟨⟨a0, a1, l2⟩, b2, c2⟩, rfl, w0, ⟨z2, g2⟩, r2⟩

theorem cellsPort : Tryz.prog.cellsOf 88 = 5 := by kernel_rfl
theorem openPort_in {fuel : Nat} {cs : List Value} {x : DataW H × List MemPlace} (h : DataW.trod enc Tryz.prog W 0 (fun _ => true) true fuel 88 cs = some x) : ∃ y, cs = portK.vals y ∧ (fun y : PortD => (Lit.int .i64 y.id).wf = true ∧ (y.items.length ≤ maxLen ∧ ∀ s ∈ y.items, s.size ≤ maxLen) ∧ Src W y.itemsA (strK.flat y.items)) y := by
  obtain ⟨hlen, n, hf⟩ := fields1 Tryz.underlying88 (by kernel_rfl) h
  rw [cellsPort] at hlen
  match cs, hlen with
  | [v0, v1, v2, v3, v4], _ =>
    obtain ⟨y0, h0⟩ := hf 0 _ v0 rfl rfl
    obtain ⟨a0, e0, -, w0⟩ := DataW.trod_int Tryz.underlying2 h0
    obtain ⟨y1, h1⟩ := hf 1 _ v1 rfl rfl
    obtain ⟨a1, e1, -⟩ := DataW.trod_bool Tryz.underlying4 h1
    obtain ⟨y2, h2⟩ := hf 2 _ v2 rfl rfl
    obtain ⟨a2, e2, -⟩ := DataW.trod_bool Tryz.underlying4 h2
    obtain ⟨y3, h3⟩ := hf 3 _ v3 rfl rfl
    obtain ⟨a3, e3, -, w3⟩ := DataW.trod_int Tryz.underlying2 h3
    obtain ⟨y4, h4⟩ := hf 4 _ v4 rfl rfl
    obtain ⟨b4, l4, c4, e4, z4, r4, g4⟩ := open_list strK (fun s => s.size ≤ maxLen) Tryz.underlying59 cellsStr (fun _ _ _ h => openStr_in h) h4
    simp only [List.cons.injEq, and_true] at e0 e1 e2 e3
    subst e0 e1 e2 e3 e4
    exact ⟨⟨⟨a0, a1, a2, a3, l4⟩, b4, c4⟩, rfl, w0, ⟨z4, g4⟩, r4⟩

theorem cellsProc : Tryz.prog.cellsOf 235 = 12 := by kernel_rfl
theorem openProc_in {fuel : Nat} {cs : List Value} {x : DataW H × List MemPlace} (h : DataW.trod enc Tryz.prog W 0 (fun _ => true) true fuel 235 cs = some x) : ∃ y, cs = procK.vals y ∧ (fun y : ProcD => y.Wf ∧ ((y.prog.length ≤ maxLen ∧ ∀ o ∈ y.prog, o.2.2.2.size ≤ maxLen) ∧ y.held.size ≤ maxLen ∧ y.got.size ≤ maxLen) ∧ Src W y.progA (opK.flat y.prog)) y := by
  obtain ⟨hlen, n, hf⟩ := fields1 Tryz.underlying235 (by kernel_rfl) h
  rw [cellsProc] at hlen
  match cs, hlen with
  | [v0, v1, v2, v3, v4, v5, v6, v7, v8, v9, v10, v11], _ =>
    obtain ⟨y0, h0⟩ := hf 0 _ v0 rfl rfl
    obtain ⟨a0, e0, -, w0⟩ := DataW.trod_int Tryz.underlying2 h0
    obtain ⟨y1, h1⟩ := hf 1 _ v1 rfl rfl
    obtain ⟨a1, e1, -, w1⟩ := DataW.trod_int Tryz.underlying2 h1
    obtain ⟨y2, h2⟩ := hf 2 _ v2 rfl rfl
    obtain ⟨b2, l2, c2, e2, z2, r2, g2⟩ := open_list opK (fun o => o.2.2.2.size ≤ maxLen) Tryz.underlying77 cellsOp (fun _ _ _ h => openOp_in h) h2
    obtain ⟨y3, h3⟩ := hf 3 _ v3 rfl rfl
    obtain ⟨a3, e3, -, w3⟩ := DataW.trod_int Tryz.underlying2 h3
    obtain ⟨y4, h4⟩ := hf 4 _ v4 rfl rfl
    obtain ⟨a4, e4, -, w4⟩ := DataW.trod_int Tryz.underlying2 h4
    obtain ⟨y5, h5⟩ := hf 5 _ v5 rfl rfl
    obtain ⟨a5, e5, -, w5⟩ := DataW.trod_int Tryz.underlying2 h5
    obtain ⟨y6, h6⟩ := hf 6 _ v6 rfl rfl
    obtain ⟨a6, e6, -, w6⟩ := DataW.trod_int Tryz.underlying2 h6
    obtain ⟨y7, h7⟩ := hf 7 _ v7 rfl rfl
    obtain ⟨a7, e7, -, w7⟩ := DataW.trod_int Tryz.underlying2 h7
    obtain ⟨y8, h8⟩ := hf 8 _ v8 rfl rfl
    obtain ⟨a8, e8, -, s8⟩ := DataW.trod_string Tryz.underlying9 h8
    obtain ⟨y9, h9⟩ := hf 9 _ v9 rfl rfl
    obtain ⟨a9, e9, -, s9⟩ := DataW.trod_string Tryz.underlying9 h9
    obtain ⟨y10, h10⟩ := hf 10 _ v10 rfl rfl
    obtain ⟨a10, e10, -, w10⟩ := DataW.trod_int Tryz.underlying2 h10
    obtain ⟨y11, h11⟩ := hf 11 _ v11 rfl rfl
    obtain ⟨a11, e11, -, w11⟩ := DataW.trod_int Tryz.underlying2 h11
    simp only [List.cons.injEq, and_true] at e0 e1 e3 e4 e5 e6 e7 e8 e9 e10 e11
    subst e0 e1 e3 e4 e5 e6 e7 e8 e9 e10 e11 e2
    exact ⟨⟨⟨a0, a1, l2, a3, a4, a5, a6, a7, a8, a9, a10, a11⟩, b2, c2⟩, rfl, ⟨w0, w7, w11⟩, ⟨⟨z2, g2⟩, s8, s9⟩, r2⟩

set_option maxRecDepth 100000 in
/-- A partition that came in. -/
theorem open_part_cells {fuel : Nat} {cs : List Value} {x : DataW H × List MemPlace} (h : DataW.trod enc Tryz.prog W 0 (fun _ => true) true fuel 73 cs = some x) : ∃ p : PartD, cs = p.cells.toList ∧ p.Big ∧ p.Came W ∧ p.Ints := by
  obtain ⟨hlen, n, hf⟩ := fields1 Tryz.underlying73 (by kernel_rfl) h
  rw [show Tryz.prog.cellsOf 73 = 8 by kernel_rfl] at hlen
  match cs, hlen with
  | [v0, v1, v2, v3, v4, v5, v6, v7], _ =>
    obtain ⟨y0, h0⟩ := hf 0 _ v0 rfl rfl
    obtain ⟨y1, h1⟩ := hf 1 _ v1 rfl rfl
    obtain ⟨a0, e0, -, -⟩ := DataW.trod_int Tryz.underlying2 h0
    obtain ⟨a1, e1, -, -⟩ := DataW.trod_int Tryz.underlying2 h1
    obtain ⟨y2, h2⟩ := hf 2 _ v2 rfl rfl
    obtain ⟨b2, l2, c2, e2, z2, r2, g2⟩ := open_list procK (fun y : ProcD => y.Wf ∧ ((y.prog.length ≤ maxLen ∧ ∀ o ∈ y.prog, o.2.2.2.size ≤ maxLen) ∧ y.held.size ≤ maxLen ∧ y.got.size ≤ maxLen) ∧ Src W y.progA (opK.flat y.prog)) Tryz.underlying66 (by kernel_rfl) (fun _ _ _ h => openProc_in h) h2
    obtain ⟨y3, h3⟩ := hf 3 _ v3 rfl rfl
    obtain ⟨b3, l3, c3, e3, z3, r3, g3⟩ := open_list semK (fun y : SemD => (Lit.int .i64 y.id).wf = true) Tryz.underlying67 (by kernel_rfl) (fun _ _ _ h => openSem_in h) h3
    obtain ⟨y4, h4⟩ := hf 4 _ v4 rfl rfl
    obtain ⟨b4, l4, c4, e4, z4, r4, g4⟩ := open_list eventK (fun y : EventD => (Lit.int .i64 y.id).wf = true) Tryz.underlying68 (by kernel_rfl) (fun _ _ _ h => openEvent_in h) h4
    obtain ⟨y5, h5⟩ := hf 5 _ v5 rfl rfl
    obtain ⟨b5, l5, c5, e5, z5, r5, g5⟩ := open_list boardK (fun y : BoardD => (Lit.int .i64 y.id).wf = true ∧ y.text.size ≤ maxLen) Tryz.underlying69 (by kernel_rfl) (fun _ _ _ h => openBoard_in h) h5
    obtain ⟨y6, h6⟩ := hf 6 _ v6 rfl rfl
    obtain ⟨b6, l6, c6, e6, z6, r6, g6⟩ := open_list bufferK (fun y : BufferD => (Lit.int .i64 y.id).wf = true ∧ (y.items.length ≤ maxLen ∧ ∀ s ∈ y.items, s.size ≤ maxLen) ∧ Src W y.itemsA (strK.flat y.items)) Tryz.underlying70 (by kernel_rfl) (fun _ _ _ h => openBuffer_in h) h6
    obtain ⟨y7, h7⟩ := hf 7 _ v7 rfl rfl
    obtain ⟨b7, l7, c7, e7, z7, r7, g7⟩ := open_list portK (fun y : PortD => (Lit.int .i64 y.id).wf = true ∧ (y.items.length ≤ maxLen ∧ ∀ s ∈ y.items, s.size ≤ maxLen) ∧ Src W y.itemsA (strK.flat y.items)) Tryz.underlying71 (by kernel_rfl) (fun _ _ _ h => openPort_in h) h7
    simp only [List.cons.injEq, and_true] at e0 e1
    subst e0 e1 e2 e3 e4 e5 e6 e7
    refine ⟨⟨a0, a1, l2, b2, c2, l3, b3, c3, l4, b4, c4, l5, b5, c5, l6, b6, c6, l7, b7, c7⟩, rfl, ⟨z2, z3, z4, z5, z6, z7, fun x hx => (g2 x hx).2.1, fun x hx => (g5 x hx).2, fun x hx => (g6 x hx).2.1, fun x hx => (g7 x hx).2.1⟩, ⟨⟨r2, fun x hx r hr => ?_⟩, ⟨r3, fun x hx r hr => ?_⟩, ⟨r4, fun x hx r hr => ?_⟩, ⟨r5, fun x hx r hr => ?_⟩, ⟨r6, fun x hx r hr => ?_⟩, ⟨r7, fun x hx r hr => ?_⟩⟩, ⟨fun x hx => (g2 x hx).1, g3, g4, fun x hx => (g5 x hx).1, fun x hx => (g6 x hx).1, fun x hx => (g7 x hx).1⟩⟩
    · simp only [procK, List.mem_cons, List.not_mem_nil, or_false] at hr
      subst hr
      exact (g2 x hx).2.2
    · simp [semK] at hr
    · simp [eventK] at hr
    · simp [boardK] at hr
    · simp only [bufferK, List.mem_cons, List.not_mem_nil, or_false] at hr
      subst hr
      exact (g6 x hx).2.2
    · simp only [portK, List.mem_cons, List.not_mem_nil, or_false] at hr
      subst hr
      exact (g7 x hx).2.2
set_option maxRecDepth 100000 in
theorem open_part {r : Reach} {b0 : Nat} {v : Value} {d : DataW H} {pl : List MemPlace} (hv : Value.okWide Tryz.prog W r b0 73 v) (h : DataW.Trod enc Tryz.prog W 0 (fun _ => true) true 73 v d pl) : ∃ p : PartD, v = .agg p.cells ∧ p.Big ∧ p.Came W ∧ p.Ints := by
  obtain ⟨cs, rfl, hsz⟩ := okWide_struct Tryz.underlying73 hv
  obtain ⟨fuel, hf⟩ := h
  obtain ⟨p, hp, h1, h2, h3⟩ := open_part_cells hf
  refine ⟨p, ?_, h1, h2, h3⟩
  have e : cs.toList = p.cells.toList := by simpa [Value.cells] using hp
  rw [Array.toList_inj.1 e]
end

end Go.Proofs.YtkbcplnlehdjfaaGreat
