/- What the proof leans on, part 16: ChSpec, WaitsI. -/
import Derived.Test.YtkbcplnlehdjfaaGreatOwnCh1
import Derived.Test.YtkbcplnlehdjfaaGreatOwnCh6
import Derived.Test.YtkbcplnlehdjfaaGreatOwnCh10
import Derived.Test.YtkbcplnlehdjfaaGreatOwnCh12
import Derived.Test.YtkbcplnlehdjfaaGreatOwnCh13

namespace Go.Proofs.YtkbcplnlehdjfaaGreat
open Go.RowKit
attribute [local go_sem ↓] Go.wp_at_zero Go.wp_at_succ
set_option maxRecDepth 100000 in
set_option maxHeartbeats 8000000 in
theorem l4Best_any (p : PartD) (st on : Int) (w : World) (hl : p.procs.length ≤ 1048576) (h : PartD.At w p) :
  Calls Tryz.prog 101 #[.agg p.cells, .int .i64 st, .int .i64 on] w fun e w' => (∃ i : Int, e = .returned (.int .i64 i) ∧ BestIs (fun x : ProcP => decide (x.state = st) && decide (x.on = on)) p.pure.procs p.procs.length i) ∧ Below w.heap.size w w' := by
 have HB : Hid (PartBox (w.alloc (.cells p.cells 32)) w.heap.size p ∧ PartD.At (w.alloc (.cells p.cells 32)) p ∧ Below w.heap.size w (w.alloc (.cells p.cells 32))) := ⟨heap_alloc_new _ _, h.below ((Below.refl _ _).alloc (Nat.le_refl _) _), (Below.refl _ _).alloc (Nat.le_refl _) _⟩
 clear h
 unfold PartD.cells at *
 go_enter Tryz.func101, Tryz.ntmps101
 go_wp2_with fail
 generalize w.alloc (.cells #[.int .i64 p.id, .int .i64 p.next, .slice p.procA p.procs.length p.procC, .slice p.semA p.sems.length p.semC, .slice p.eventA p.events.length p.eventC, .slice p.boardA p.boards.length p.boardC, .slice p.bufferA p.buffers.length p.bufferC, .slice p.portA p.ports.length p.portC] 32) = W at *
 go_loopw [7, 8] (fun b i wr => ∃ (k : Nat) (z : Int), k ≤ p.procs.length ∧ i = .int .i64 k ∧ b = .int .i64 z ∧ Hid (BestIs (fun x : ProcP => decide (x.state = st) && decide (x.on = on)) p.pure.procs k z ∧ Below W.heap.size W wr)) (fun _ i _ => p.procs.length - (intOf i).toNat)
 case atStart => exact ⟨0, -1, Nat.zero_le _, rfl, rfl, ⟨BestIs.start _ _, Below.refl _ _⟩⟩
 case round =>
  obtain ⟨k, z, hk, rfl, rfl, HA⟩ := hrel
  have HW : Hid (PartBox wr w.heap.size p ∧ PartD.At wr p ∧ Below w.heap.size w wr) := ⟨HB.out.1.below HA.out.2, HB.out.2.1.below HA.out.2, HB.out.2.2.trans (HA.out.2.mono HB.out.2.2.size)⟩
  obtain ⟨-, -, m2, -⟩ := HW.out.1.cells
  by_cases hlt : k < p.procs.length
  ·have i0 : (0 : Int) ≤ (k : Int) := by omega
   have i1 : (k : Int) < (p.procs.length : Int) := by omega
   obtain ⟨x, hx⟩ : ∃ x, p.procs[k]? = some x := ⟨_, List.getElem?_eq_getElem hlt⟩
   have HX : Hid (p.procs[k]? = some x ∧ p.pure.procs[k]? = some x.toProcP) := ⟨hx, by show (p.procs.map (·.toProcP))[k]? = _; rw [List.getElem?_map, hx]; rfl⟩
   obtain ⟨gs, ha, hat⟩ := proc_at HW.out.2.1.1 hx
   have HG : Hid (p.procA = some ⟨gs, 0, none⟩) := ha
   rw [ha] at m2
   obtain ⟨d0, d1, d2, d3, d4, d5, d6, d7, d8, d9, d10, d11⟩ := hat
   clear hx ha
   have hgl : w.heap.size < wr.heap.size := (Array.getElem?_eq_some_iff.1 HW.out.1).1
   have HN : Hid (PartBox (wr.alloc (.cells #[.int .i64 x.id, .int .i64 x.prio, .slice x.progA x.prog.length x.progC, .int .i64 x.state, .int .i64 x.pc, .int .i64 x.left, .int .i64 x.wake, .int .i64 x.on, .string x.held, .string x.got, .int .i64 x.code, .int .i64 x.since] 43)) w.heap.size p ∧ PartD.At (wr.alloc (.cells #[.int .i64 x.id, .int .i64 x.prio, .slice x.progA x.prog.length x.progC, .int .i64 x.state, .int .i64 x.pc, .int .i64 x.left, .int .i64 x.wake, .int .i64 x.on, .string x.held, .string x.got, .int .i64 x.code, .int .i64 x.since] 43)) p ∧ ProcBox (wr.alloc (.cells #[.int .i64 x.id, .int .i64 x.prio, .slice x.progA x.prog.length x.progC, .int .i64 x.state, .int .i64 x.pc, .int .i64 x.left, .int .i64 x.wake, .int .i64 x.on, .string x.held, .string x.got, .int .i64 x.code, .int .i64 x.since] 43)) wr.heap.size x ∧ Below W.heap.size W (wr.alloc (.cells #[.int .i64 x.id, .int .i64 x.prio, .slice x.progA x.prog.length x.progC, .int .i64 x.state, .int .i64 x.pc, .int .i64 x.left, .int .i64 x.wake, .int .i64 x.on, .string x.held, .string x.got, .int .i64 x.code, .int .i64 x.since] 43))) := ⟨HW.out.1.below ((Below.refl _ _).alloc (Nat.le_refl _) _), HW.out.2.1.below ((Below.refl _ _).alloc (Nat.le_refl _) _), heap_alloc_new _ _, HA.out.2.alloc HA.out.2.size _⟩
   by_cases hs : x.state = st
   ·by_cases ho : x.on = on
    ·have HF : Hid ((fun x : ProcP => decide (x.state = st) && decide (x.on = on)) x.toProcP = true) := by show _ = true; simp [hs, ho]
     have e1 : (x.state != st) = false := by simp [hs]
     have e2 : (x.on != on) = false := by simp [ho]
     clear hs ho
     go_wp2_with fail
     generalize wr.alloc (.cells #[.int .i64 x.id, .int .i64 x.prio, .slice x.progA x.prog.length x.progC, .int .i64 x.state, .int .i64 x.pc, .int .i64 x.left, .int .i64 x.wake, .int .i64 x.on, .string x.held, .string x.got, .int .i64 x.code, .int .i64 x.since] 43) = W5 at *
     generalize wr.heap.size = X at *
     clear d0 d1 d2 d3 d4 d5 d6 d7 d8 d9 d10 d11 m2 e1 e2 hgl
     obtain ⟨-, -, m2, -⟩ := HN.out.1.cells
     rw [HG.out] at m2
     obtain ⟨-, b1, -, -, -, -, -, -, -, -, -, b11⟩ := HN.out.2.2.1.cells
     by_cases hz : z < 0
     ·have dz : decide (z < 0) = true := decide_eq_true hz
      have HY : Hid (BestIs (fun x : ProcP => decide (x.state = st) && decide (x.on = on)) p.pure.procs (k + 1) k) := HA.out.1.first hz HX.out.2 HF.out
      refine tame_region (fun w' => w' = W5.drew) (by kernel_rfl) rfl ?_
      iterate 3 (refine ty (v := ?_) (some _) rfl rfl (by kernel_rfl) (fun _ _ _ h => h) (does_yield (by kernel_rfl) ?_) ?_; rotate_left; (intro w0 hS0; subst hS0; go_simp; try with_reducible rfl); simp only [pt, sb, s0, s1])
      iterate 9 (refine ty (some _) rfl rfl (by kernel_rfl) (fun _ _ _ h => h) (does_skip (by kernel_rfl)) ?_; simp only [pt, sb, s0, s1])
      iterate 2 (refine ty (v := ?_) (some _) rfl rfl (by kernel_rfl) (fun _ _ _ h => h) (does_yield (by kernel_rfl) ?_) ?_; rotate_left; (intro w0 hS0; subst hS0; go_simp; try with_reducible rfl); simp only [pt, sb, s0, s1])
      iterate 20 (refine ty (some _) rfl rfl (by kernel_rfl) (fun _ _ _ h => h) (does_skip (by kernel_rfl)) ?_; simp only [pt, sb, s0, s1])
      (refine ty (v := ?_) (some _) rfl rfl (by kernel_rfl) (fun _ _ _ h => h) (does_yield (by kernel_rfl) ?_) ?_; rotate_left; (intro w0 hS0; subst hS0; go_simp; try with_reducible rfl); simp only [pt, sb, s0, s1])
      refine tame_done (by kernel_rfl) ?_ _
      intro w1 hS1
      subst hS1
      go_wp2
      go_roundw
      case rel => exact ⟨k + 1, k, by omega, by go_num, rfl, ⟨HY.out, HN.out.2.2.2.drew⟩⟩
      case measure => simp [intOf]; omega
     have dz : decide (z < 0) = false := decide_eq_false hz
     obtain ⟨n, y0, hzn, hn, hy0, hbe⟩ := HA.out.1.got hz
     subst hzn
     have HYB : Hid (BestIs (fun x : ProcP => decide (x.state = st) && decide (x.on = on)) p.pure.procs (k + 1) (if aheadB x.toProcP y0 then (k : Int) else (n : Int))) := BestIs.next hn hy0 hbe HX.out.2 HF.out
     obtain ⟨y, hy, rfl⟩ : ∃ y, p.procs[n]? = some y ∧ y.toProcP = y0 := by
      have h5 : (p.procs.map (·.toProcP))[n]? = some y0 := hy0
      rw [List.getElem?_map, Option.map_eq_some_iff] at h5
      exact h5
     have j0 : (0 : Int) ≤ (n : Int) := by omega
     have j1 : (n : Int) < (p.procs.length : Int) := by omega
     obtain ⟨gs2, ha2, hat2⟩ := proc_at HN.out.2.1.1 hy
     rw [HG.out] at ha2
     cases ha2
     obtain ⟨-, y1, -, -, -, -, -, -, -, -, -, y11⟩ := hat2
     clear hy hy0 hbe hz
     by_cases hp : y.prio < x.prio
     ·have dp : decide (y.prio < x.prio) = true := decide_eq_true hp
      have HY : Hid (BestIs (fun x : ProcP => decide (x.state = st) && decide (x.on = on)) p.pure.procs (k + 1) k) := by have h5 := HYB.out; rwa [show aheadB x.toProcP y.toProcP = true by unfold aheadB; rw [if_neg (by intro e; have e2 : x.prio = y.prio := e; omega)]; exact decide_eq_true hp, if_pos rfl] at h5
      clear hp HYB
      refine tame_region (fun w' => w' = W5.drew) (by kernel_rfl) rfl ?_
      iterate 14 (refine ty (v := ?_) (some _) rfl rfl (by kernel_rfl) (fun _ _ _ h => h) (does_yield (by kernel_rfl) ?_) ?_; rotate_left; (intro w0 hS0; subst hS0; go_simp; try with_reducible rfl); simp only [pt, sb, s0, s1])
      iterate 20 (refine ty (some _) rfl rfl (by kernel_rfl) (fun _ _ _ h => h) (does_skip (by kernel_rfl)) ?_; simp only [pt, sb, s0, s1])
      (refine ty (v := ?_) (some _) rfl rfl (by kernel_rfl) (fun _ _ _ h => h) (does_yield (by kernel_rfl) ?_) ?_; rotate_left; (intro w0 hS0; subst hS0; go_simp; try with_reducible rfl); simp only [pt, sb, s0, s1])
      refine tame_done (by kernel_rfl) ?_ _
      intro w1 hS1
      subst hS1
      go_wp2
      go_roundw
      case rel => exact ⟨k + 1, k, by omega, by go_num, rfl, ⟨HY.out, HN.out.2.2.2.drew⟩⟩
      case measure => simp [intOf]; omega
     have dp : decide (y.prio < x.prio) = false := decide_eq_false hp
     by_cases hq : x.prio = y.prio
     ·have dq : (x.prio == y.prio) = true := by simp [hq]
      by_cases hr : x.since < y.since
      ·have dr : decide (x.since < y.since) = true := decide_eq_true hr
       have HY : Hid (BestIs (fun x : ProcP => decide (x.state = st) && decide (x.on = on)) p.pure.procs (k + 1) k) := by have h5 := HYB.out; rwa [show aheadB x.toProcP y.toProcP = true by unfold aheadB; rw [if_pos hq]; exact dr, if_pos rfl] at h5
       clear hp hr HYB hq
       refine tame_region (fun w' => w' = W5.drew) (by kernel_rfl) rfl ?_
       iterate 35 (refine ty (v := ?_) (some _) rfl rfl (by kernel_rfl) (fun _ _ _ h => h) (does_yield (by kernel_rfl) ?_) ?_; rotate_left; (intro w0 hS0; subst hS0; go_simp; try with_reducible rfl); simp only [pt, sb, s0, s1])
       refine tame_done (by kernel_rfl) ?_ _
       intro w1 hS1
       subst hS1
       go_wp2
       go_roundw
       case rel => exact ⟨k + 1, k, by omega, by go_num, rfl, ⟨HY.out, HN.out.2.2.2.drew⟩⟩
       case measure => simp [intOf]; omega
      ·have dr : decide (x.since < y.since) = false := decide_eq_false hr
       have HY : Hid (BestIs (fun x : ProcP => decide (x.state = st) && decide (x.on = on)) p.pure.procs (k + 1) n) := by have h5 := HYB.out; rwa [show aheadB x.toProcP y.toProcP = false by unfold aheadB; rw [if_pos hq]; exact dr, if_neg Bool.false_ne_true] at h5
       clear hp hr HYB hq
       refine tame_region (fun w' => w' = W5.drew) (by kernel_rfl) rfl ?_
       iterate 35 (refine ty (v := ?_) (some _) rfl rfl (by kernel_rfl) (fun _ _ _ h => h) (does_yield (by kernel_rfl) ?_) ?_; rotate_left; (intro w0 hS0; subst hS0; go_simp; try with_reducible rfl); simp only [pt, sb, s0, s1])
       refine tame_done (by kernel_rfl) ?_ _
       intro w1 hS1
       subst hS1
       go_wp2
       go_roundw
       case rel => exact ⟨k + 1, n, by omega, by go_num, rfl, ⟨HY.out, HN.out.2.2.2.drew⟩⟩
       case measure => simp [intOf]; omega
     ·have dq : (x.prio == y.prio) = false := by simp [hq]
      have HY : Hid (BestIs (fun x : ProcP => decide (x.state = st) && decide (x.on = on)) p.pure.procs (k + 1) n) := by have h5 := HYB.out; rwa [show aheadB x.toProcP y.toProcP = false by unfold aheadB; rw [if_neg hq]; exact dp, if_neg Bool.false_ne_true] at h5
      clear hp HYB hq
      refine tame_region (fun w' => w' = W5.drew) (by kernel_rfl) rfl ?_
      iterate 24 (refine ty (v := ?_) (some _) rfl rfl (by kernel_rfl) (fun _ _ _ h => h) (does_yield (by kernel_rfl) ?_) ?_; rotate_left; (intro w0 hS0; subst hS0; go_simp; try with_reducible rfl); simp only [pt, sb, s0, s1])
      iterate 9 (refine ty (some _) rfl rfl (by kernel_rfl) (fun _ _ _ h => h) (does_skip (by kernel_rfl)) ?_; simp only [pt, sb, s0, s1])
      iterate 2 (refine ty (v := ?_) (some _) rfl rfl (by kernel_rfl) (fun _ _ _ h => h) (does_yield (by kernel_rfl) ?_) ?_; rotate_left; (intro w0 hS0; subst hS0; go_simp; try with_reducible rfl); simp only [pt, sb, s0, s1])
      refine tame_done (by kernel_rfl) ?_ _
      intro w1 hS1
      subst hS1
      go_wp2
      go_roundw
      case rel => exact ⟨k + 1, n, by omega, by go_num, rfl, ⟨HY.out, HN.out.2.2.2.drew⟩⟩
      case measure => simp [intOf]; omega
    ·have HY : Hid (BestIs (fun x : ProcP => decide (x.state = st) && decide (x.on = on)) p.pure.procs (k + 1) z) := HA.out.1.skip HX.out.2 (by simp [ho])
     have e1 : (x.state != st) = false := by simp [hs]
     have e2 : (x.on != on) = true := by simp [ho]
     clear hs ho
     go_wp2
     go_roundw
     case rel => exact ⟨k + 1, z, by omega, by go_num, rfl, ⟨HY.out, HN.out.2.2.2⟩⟩
     case measure => simp [intOf]; omega
   ·have HY : Hid (BestIs (fun x : ProcP => decide (x.state = st) && decide (x.on = on)) p.pure.procs (k + 1) z) := HA.out.1.skip HX.out.2 (by simp [hs])
    have e1 : (x.state != st) = true := by simp [hs]
    clear hs
    go_wp2
    go_roundw
    case rel => exact ⟨k + 1, z, by omega, by go_num, rfl, ⟨HY.out, HN.out.2.2.2⟩⟩
    case measure => simp [intOf]; omega
  ·have i1 : ¬ (k : Int) < (p.procs.length : Int) := by omega
   have HE : Hid (BestIs (fun x : ProcP => decide (x.state = st) && decide (x.on = on)) p.pure.procs p.procs.length z) := by have h5 := HA.out.1; rwa [show k = p.procs.length by omega] at h5
   go_wp2
   go_ret
   exact ⟨⟨z, rfl, HE.out⟩, HW.out.2.2⟩
end Go.Proofs.YtkbcplnlehdjfaaGreat

/- Whether each process's want is there: what the programme answers of an open partition. -/
namespace Go.Proofs.YtkbcplnlehdjfaaGreat
open Go.RowKit Go.Maps
structure OpenIn (w W : World) (o : Nat) (q : Opn) (lp : List (ProcD × Nat)) (ms me mb mf : MapL) : Prop where
 opn : OpenBox W o q
 shelf : Shelf procVs (fun x : ProcD => x.id) 43 W 0 q.bp lp
 ms : MapIs W q.bs ms
 me : MapIs W q.be me
 mb : MapIs W q.bb mb
 mf : MapIs W q.bf mf
 bel : Below w.heap.size w W
theorem OpenIn.below {w W W' : World} {o : Nat} {q : Opn} {lp : List (ProcD × Nat)} {ms me mb mf : MapL} (h : OpenIn w W o q lp ms me mb mf) (hb : Below W.heap.size W W') : OpenIn w W' o q lp ms me mb mf :=
 ⟨h.opn.below hb, h.shelf.below hb, h.ms.below hb, h.me.below hb, h.mb.below hb, h.mf.below hb, h.bel.trans (hb.mono h.bel.size)⟩
theorem OpenIn.has {w W : World} {o : Nat} {q : Opn} {lp : List (ProcD × Nat)} {ms me mb mf : MapL} (h : OpenIn w W o q lp ms me mb mf) {p : ProcD × Nat} (hp : p ∈ lp) : HasIn W W o p.2 q p.1 ms me mb mf :=
 ⟨h.opn, h.shelf.box p hp, h.ms, h.me, h.mb, h.mf, Below.refl _ _⟩
structure ProcD.Wf (x : ProcD) : Prop where
 id : (Lit.int .i64 x.id).wf = true
 on : (Lit.int .i64 x.on).wf = true
 since : (Lit.int .i64 x.since).wf = true
theorem keys_wf {lp : List (ProcD × Nat)} (h : ∀ p ∈ lp, p.1.Wf) : ∀ p ∈ keysOf (fun x : ProcD => x.id) lp, (Lit.int .i64 p.1).wf = true := fun p hp => by
 obtain ⟨r, hr, rfl⟩ := List.mem_map.1 hp
 exact (h r hr).id
set_option maxRecDepth 100000 in
set_option maxHeartbeats 2000000 in
theorem waitsOk_any (o : Nat) (q : Opn) (lp : List (ProcD × Nat)) (ms me mb mf : MapL) (w : World) (h : OpenIn w w o q lp ms me mb mf) (hl : lp.length ≤ 1048576) (hwf : ∀ p ∈ lp, p.1.Wf) :
  Calls Tryz.prog 154 #[.pointer (some ⟨o, 0, none⟩)] w fun e w' => e = .returned (.bool (lp.all fun p => waitK ms me mb mf p.1)) ∧ Below w.heap.size w w' := by
 have H : Hid (OpenIn w w o q lp ms me mb mf ∧ ∀ p ∈ lp, p.1.Wf) := ⟨h, hwf⟩
 have c2 : w.cell? ⟨o, 2, none⟩ = some (.int .i64 6) := h.opn.cell 2
 have c3 : w.cell? ⟨o, 3, none⟩ = some (.map (some q.bp)) := h.opn.cell 3
 have hkl : (keysOf (fun x : ProcD => x.id) lp).length = lp.length := keysOf_length lp
 have HK : Hid ((keysOf (fun x : ProcD => x.id) lp).length = lp.length) := hkl
 clear h hwf hkl
 go_enter Tryz.func154, Tryz.ntmps154
 go_wp2_with fail
 refine (allProc_any 6 q.bp (keysOf (fun x : ProcD => x.id) lp) w H.out.1.shelf.map (by rw [HK.out]; exact hl) (keys_wf H.out.2)).mono ?_
 rintro e w2 ⟨a, cap, rfl, hown, hb2⟩
 obtain ⟨a', cap', hv, hrow⟩ := own_form hown
 cases hv
 have HR : Hid (Row w2 a ((keysOf (fun x : ProcD => x.id) lp).map fun p => ptrV p.2)) := hrow
 have HO : Hid (OpenIn w w2 o q lp ms me mb mf) := H.out.1.below hb2
 rw [HK.out]
 clear hown hrow hb2 c2 c3
 go_wp2_with fail
 go_loopw [11] (fun i wr => ∃ k : Nat, k ≤ lp.length ∧ i = .int .i64 k ∧ Hid (((lp.take k).all fun p => waitK ms me mb mf p.1) = true ∧ Below w2.heap.size w2 wr)) (fun i _ => lp.length - (intOf i).toNat)
 case atStart => exact ⟨0, Nat.zero_le _, rfl, ⟨by simp, Below.refl _ _⟩⟩
 case round =>
  obtain ⟨k, hk, rfl, HA⟩ := hrel
  have HO2 : Hid (OpenIn w wr o q lp ms me mb mf) := HO.out.below HA.out.2
  by_cases hlt : k < lp.length
  ·have i0 : (0 : Int) ≤ (k : Int) := by omega
   have i1 : (k : Int) < (lp.length : Int) := by omega
   obtain ⟨p, hp⟩ : ∃ p, lp[k]? = some p := ⟨_, List.getElem?_eq_getElem hlt⟩
   have hpm := List.mem_of_getElem? hp
   obtain ⟨g, ha, hc⟩ := (HR.out.below HA.out.2) k (ptrV p.2) (by simp [keysOf, hp])
   subst ha
   unfold ptrV at hc
   have HP : Hid (lp[k]? = some p ∧ p ∈ lp) := ⟨hp, hpm⟩
   clear hp hpm
   go_wp2_with fail
   refine (hasWait_any o p.2 q p.1 ms me mb mf wr (HO2.out.has HP.out.2) (H.out.2 p HP.out.2).on).mono ?_
   rintro e w4 ⟨rfl, hb4⟩
   have HB4 : Hid (Below w2.heap.size w2 w4) := HA.out.2.trans (hb4.mono HA.out.2.size)
   have HF4 : Hid (Below w.heap.size w w4) := HO2.out.bel.trans (hb4.mono HO2.out.bel.size)
   clear hb4
   cases hwt : waitK ms me mb mf p.1 with
   | true =>
    have HY : Hid (((lp.take (k + 1)).all fun p => waitK ms me mb mf p.1) = true) := by
     show _ = true
     rw [take_up HP.out.1, List.all_append, HA.out.1]
     simp [hwt]
    clear hwt
    go_wp2
    go_roundw
    case rel => exact ⟨k + 1, by omega, by go_num, ⟨HY.out, HB4.out⟩⟩
    case measure => simp [intOf]; omega
   | false =>
    have HN : Hid ((lp.all fun p => waitK ms me mb mf p.1) = false) := by
     show _ = false
     rw [List.all_eq_false]
     exact ⟨p, HP.out.2, by simp [hwt]⟩
    clear hwt
    go_wp2
    go_ret
    exact ⟨ret_bool HN.out.symm, HF4.out⟩
  ·have i1 : ¬ (k : Int) < (lp.length : Int) := by omega
   have HT : Hid ((lp.all fun p => waitK ms me mb mf p.1) = true) := by have := HA.out.1; rwa [List.take_of_length_le (by omega)] at this
   go_wp2
   go_ret
   exact ⟨ret_bool HT.out.symm, HO2.out.bel⟩
end Go.Proofs.YtkbcplnlehdjfaaGreat
