/- What the proof leans on, part 11: SoSem, KdProc, AlBoard, AlPort, AlSem. -/
import Derived.Test.YtkbcplnlehdjfaaGreatOwnCh7
import Derived.Test.YtkbcplnlehdjfaaGreatOwnCh8
import Derived.Test.YtkbcplnlehdjfaaGreatOwnCh9

namespace Go.Proofs.YtkbcplnlehdjfaaGreat
open Go.RowKit
attribute [local go_sem ↓] Go.wp_at_zero Go.wp_at_succ
def ShSemAt (w : World) (most : Int) (list : List SemD) (k : Nat) (wr : World) : Prop :=
 ∃ l : List (SemD × Nat), l.map (·.1) = list.take k ∧ ShIn semVs (fun x : SemD => x.id) 49 113 w wr most l ∧ thingsB (fun x : SemD => x.id) (fun x : SemD => semB x) 0 (list.take k) = true ∧ (k : Int) ≤ max most 0
set_option maxRecDepth 100000 in
set_option maxHeartbeats 4000000 in
theorem shelfOfSem_any (a : Option Addr) (list : List SemD) (cap : Nat) (most : Int) (w : World) (hl : list.length ≤ 1048576) (h : semK.Lies w a list) (hf : ∀ x ∈ list, SemFit w x) (hw : ∀ x ∈ list, (Lit.int .i64 x.id).wf = true) :
  Calls Tryz.prog 148 #[.slice a list.length cap, .int .i64 most] w fun e w' => ShelfEnds semVs (fun x : SemD => x.id) 49 w most (thingsB (fun x : SemD => x.id) (fun x : SemD => semB x) 0 list && decide ((list.length : Int) ≤ max most 0)) list e w' := by
 have hmk := run_makeMap (P := Tryz.prog) 111
 have hmn := meth_numberSem
 have H0 : Hid (ShIn semVs (fun x : SemD => x.id) 49 113 w (((w.alloc (.cells #[.int .i64 0, .map none] 113)).alloc (.map #[] 0)).alloc (.cells #[.int .i64 most, .map (some (w.heap.size + 1))] 113)) most []) := ShIn.start 113 w most
 have HL : Hid (semK.Lies w a list ∧ (∀ x ∈ list, SemFit w x) ∧ ∀ x ∈ list, (Lit.int .i64 x.id).wf = true) := ⟨h, hf, hw⟩
 clear h hf hw
 go_enter Tryz.func148, Tryz.ntmps148
 go_wp2_with fail
 go_loopw [7, 15] (fun last i wr => ∃ k : Nat, k ≤ list.length ∧ i = .int .i64 k ∧ last = .int .i64 (lastOf (fun x : SemD => x.id) 0 (list.take k)) ∧ Hid (ShSemAt w most list k wr)) (fun _ i _ => list.length - (intOf i).toNat)
 case atStart => exact ⟨0, Nat.zero_le _, rfl, rfl, ⟨[], by simp, H0.out, rfl, by simp; omega⟩⟩
 case round =>
  clear H0 hmk
  obtain ⟨k, hk, rfl, rfl, HA⟩ := hrel
  obtain ⟨l, hlm, hin, hth, hkm⟩ := HA.out
  have HT : Hid (l.map (·.1) = list.take k ∧ thingsB (fun x : SemD => x.id) (fun x : SemD => semB x) 0 (list.take k) = true ∧ (k : Int) ≤ max most 0) := ⟨hlm, hth, hkm⟩
  have HI : Hid (ShIn semVs (fun x : SemD => x.id) 49 113 w wr most l) := hin
  clear HA hlm hin hth hkm
  by_cases hlt : k < list.length
  ·have i0 : (0 : Int) ≤ (k : Int) := by omega
   have i1 : (k : Int) < (list.length : Int) := by omega
   obtain ⟨x, hx⟩ : ∃ x, list[k]? = some x := ⟨_, List.getElem?_eq_getElem hlt⟩
   have hmem := List.mem_of_getElem? hx
   have HX : Hid (list[k]? = some x) := hx
   have HF : Hid (SemFit w x ∧ (Lit.int .i64 x.id).wf = true) := ⟨HL.out.2.1 x hmem, HL.out.2.2 x hmem⟩
   obtain ⟨gs, ha, hat⟩ := sem_at (HL.out.1.below HI.out.bel) hx
   obtain ⟨c0, c1, c2⟩ := hat
   subst ha
   clear hx hmem
   go_wp2_with fail
   refine (numberSem_any x _).mono ?_
   rintro e w2 ⟨rfl, hb2⟩
   have HI2 : Hid (ShIn semVs (fun x : SemD => x.id) 49 113 w w2 most l) := (HI.out.below ((Below.refl _ wr).alloc (Nat.le_refl _) (.cells #[.int .i64 x.id, .int .i64 x.n, .int .i64 x.max] 49))).below hb2
   have HB : Hid (w2.heap[wr.heap.size]? = some (.cells (semVs x) 49 (0, 0))) := (hb2.block _ (by simp)).trans (heap_alloc_new _ _)
   have HZ : Hid (w.heap.size + 1 < wr.heap.size) := by show w.heap.size + 1 < wr.heap.size; have := (Array.getElem?_eq_some_iff.1 HI.out.var).1; omega
   clear hb2 HI c0 c1 c2
   obtain ⟨d0, d1, d2⟩ := sem_cells HB.out
   obtain ⟨r0, r1, v0, v1, z0, z1⟩ := HI2.out.cells
   by_cases hle : x.id ≤ lastOf (fun x : SemD => x.id) 0 (list.take k)
   ·have HN : Hid ((thingsB (fun x : SemD => x.id) (fun x : SemD => semB x) 0 list && decide ((list.length : Int) ≤ max most 0)) = false) := by
     show _ = false
     rw [things_no HX.out (fun hh => absurd hh.2.1 (by show ¬ lastOf (fun x : SemD => x.id) 0 (list.take k) < x.id; omega))]; rfl
    go_wp2
    refine bodyPost_ret (v := .tuple #[.agg #[.int .i64 0, .map none], .bool false]) (by simp [results, Tryz.results148, go_sem, *]) rfl ?_
    exact ⟨(HI2.out.away _ _).2, .inl ⟨HN.out, rfl⟩⟩
   have HLT : Hid (lastOf (fun x : SemD => x.id) 0 (list.take k) < x.id) := by show _ < _; omega
   have hkl : (keysOf (fun x : SemD => x.id) l).length ≤ 1048576 := by
    rw [keysOf_length]
    have := congrArg List.length HT.out.1
    simp only [List.length_map, List.length_take] at this
    omega
   go_wp2_with fail
   refine (laySem_any most (w.heap.size + 1) (keysOf (fun x : SemD => x.id) l) x w2 HI2.out.shelf.map HF.out.2 hkl (HF.out.1.below HI2.out.bel)).mono ?_
   rintro e w3 ⟨rfl, hno, hyes⟩
   cases hlay : layB most (keysOf (fun x : SemD => x.id) l) x.id (semB x) with
   | false =>
    have HN : Hid ((thingsB (fun x : SemD => x.id) (fun x : SemD => semB x) 0 list && decide ((list.length : Int) ≤ max most 0)) = false) := things_lay_no HX.out HT.out.1 HT.out.2.1 HLT.out hlay
    have HI3 : Hid (ShIn semVs (fun x : SemD => x.id) 49 113 w w3 most l) := HI2.out.below (hno hlay)
    clear hno hyes hlay HI2 r0 r1 v0 v1 z0 z1 d0 d1 d2 HB
    obtain ⟨r0, r1, v0, v1, z0, z1⟩ := HI3.out.cells
    go_wp2
    refine bodyPost_ret (v := .tuple #[.agg #[.int .i64 0, .map none], .bool false]) (by simp [results, Tryz.results148, go_sem, *]) rfl ?_
    exact ⟨(HI3.out.away _ _).2, .inl ⟨HN.out, rfl⟩⟩
   | true =>
    have HY : Hid (thingsB (fun x : SemD => x.id) (fun x : SemD => semB x) 0 (list.take (k + 1)) = true ∧ ((k + 1 : Nat) : Int) ≤ max most 0) := things_lay_yes HX.out HT.out.1 HT.out.2.1 HLT.out hlay
    obtain ⟨g, hin4⟩ := HI2.out.lay (x := x) (e := .returned (.bool true)) (w' := w3) ⟨rfl, (fun h => by cases h), fun _ => hyes hlay⟩ (rises_last HT.out.1 HT.out.2.1 HLT.out)
    have HI4 : Hid (ShIn semVs (fun x : SemD => x.id) 49 113 w w3 most (l ++ [(x, g)])) := hin4
    have HB3 : Hid (w3.heap[wr.heap.size]? = some (.cells (semVs x) 49 (0, 0))) := by
     obtain ⟨g', _, _, _, hgr⟩ := hyes hlay
     exact (hgr.block _ (Array.getElem?_eq_some_iff.1 HB.out).1 (fun e => by have := Option.some.inj e; have := HZ.out; omega)).trans HB.out
    clear hno hyes hlay HI2 r0 r1 v0 v1 z0 z1 d0 d1 d2 HB hin4
    obtain ⟨d0, d1, d2⟩ := sem_cells HB3.out
    go_wp2_with fail
    refine (numberSem_any x _).mono ?_
    rintro e w5 ⟨rfl, hb5⟩
    have HI5 : Hid (ShIn semVs (fun x : SemD => x.id) 49 113 w w5 most (l ++ [(x, g)])) := HI4.out.below hb5
    have HE : Hid (lastOf (fun x : SemD => x.id) 0 (list.take (k + 1)) = x.id) := lastOf_take HX.out 0
    clear hb5 HI4
    go_wp2
    go_roundw
    case rel => exact ⟨k + 1, by omega, by go_num, by rw [HE.out], ⟨l ++ [(x, g)], by rw [List.map_append, HT.out.1, take_up HX.out]; rfl, HI5.out, HY.out.1, HY.out.2⟩⟩
    case measure => simp [intOf]; omega
  ·have i1 : ¬ (k : Int) < (list.length : Int) := by omega
   have HK : Hid (list.take k = list ∧ ((list.length : Int) ≤ max most 0)) := ⟨List.take_of_length_le (by omega), by have := HT.out.2.2; omega⟩
   have HY : Hid ((thingsB (fun x : SemD => x.id) (fun x : SemD => semB x) 0 list && decide ((list.length : Int) ≤ max most 0)) = true) := by
    show _ = true
    have h1 := HT.out.2.1
    rw [HK.out.1] at h1
    rw [h1, decide_eq_true HK.out.2]; rfl
   obtain ⟨r0, r1, v0, v1, z0, z1⟩ := HI.out.cells
   go_wp2
   refine bodyPost_ret (v := .tuple #[.agg #[.int .i64 most, .map (some (w.heap.size + 1))], .bool true]) (by simp [results, Tryz.results148, go_sem, *]) rfl ?_
   exact ⟨(HI.out.away _ _).2, .inr ⟨HY.out, w.heap.size + 1, l, rfl, by rw [HT.out.1, HK.out.1], (HI.out.away _ _).1⟩⟩
end Go.Proofs.YtkbcplnlehdjfaaGreat

/- A process is right by itself: what right answers. -/
namespace Go.Proofs.YtkbcplnlehdjfaaGreat
open Go.RowKit
set_option maxRecDepth 100000 in
set_option maxHeartbeats 4000000 in
theorem rightProc_any (x : ProcD) (w : World) (hf : ProcFit w x) : Calls Tryz.prog 283 #[.agg (procVs x)] w fun e w' => e = .returned (.bool (procB x.toProcP)) ∧ Below w.heap.size w w' := by
 have HI : Hid (StIn w (w.alloc (.cells (procVs x) 43)) x) := StIn.start hf
 have HE : Hid (procB x.toProcP = (inB x.prio 1 50 && progL x.prog && plainB x.held && plainB x.got && inB x.code 0 3 && stateB x.toProcP)) := rfl
 have HB : Hid (Below w.heap.size w (w.alloc (.cells (procVs x) 43))) := HI.out.bel
 obtain ⟨c0, c1, c2, c3, c4, c5, c6, c7, c8, c9, c10, c11⟩ := proc_cells HI.out.box
 clear hf
 unfold procVs at *
 by_cases h1 : 1 ≤ x.prio
 rotate_left
 ·have HV : Hid (procB x.toProcP = false) := by show procB _ = false; rw [HE.out, inB_low (by omega)]; rfl
  clear HE
  go_enter Tryz.func283, Tryz.ntmps283
  go_wp2
  go_ret
  exact ⟨ret_bool HV.out.symm, HB.out⟩
 by_cases h2 : x.prio ≤ 50
 rotate_left
 ·have HV : Hid (procB x.toProcP = false) := by show procB _ = false; rw [HE.out, inB_high (by omega)]; rfl
  clear HE
  go_enter Tryz.func283, Tryz.ntmps283
  go_wp2
  go_ret
  exact ⟨ret_bool HV.out.symm, HB.out⟩
 have HP : Hid (inB x.prio 1 50 = true) := inB_true h1 h2
 go_enter Tryz.func283, Tryz.ntmps283
 go_wp2_with fail
 refine (implProgL_any x.progA x.prog x.progC _ HI.out.fit.1.prog HI.out.fit.1.ops HI.out.fit.2).mono ?_
 rintro e w1 ⟨rfl, hb1⟩
 have HI1 : Hid (StIn w w1 x) := HI.out.below hb1
 clear hb1 c0 c1 c2 c3 c4 c5 c6 c7 c8 c9 c10 c11 HI HB
 obtain ⟨c0, c1, c2, c3, c4, c5, c6, c7, c8, c9, c10, c11⟩ := proc_cells HI1.out.box
 have hsh := HI1.out.fit.1.held
 have hsg := HI1.out.fit.1.got
 cases hl : progL x.prog with
 | false =>
  have HV : Hid (procB x.toProcP = false) := by show procB _ = false; rw [HE.out, hl]; simp
  clear HE hl
  go_wp2
  go_ret
  exact ⟨ret_bool HV.out.symm, HI1.out.bel⟩
 | true =>
  have HL : Hid (progL x.prog = true) := hl
  clear hl
  go_wp2_with fail
  refine (isPlain_any x.held _ hsh).mono ?_
  rintro e w2 ⟨rfl, hw2⟩
  subst hw2
  cases hh : plainB x.held with
  | false =>
   have HV : Hid (procB x.toProcP = false) := by show procB _ = false; rw [HE.out, hh]; simp
   clear HE hh
   go_wp2
   go_ret
   exact ⟨ret_bool HV.out.symm, HI1.out.bel⟩
  | true =>
   have HH : Hid (plainB x.held = true) := hh
   clear hh
   go_wp2_with fail
   refine (isPlain_any x.got _ hsg).mono ?_
   rintro e w2 ⟨rfl, hw2⟩
   subst hw2
   cases hg : plainB x.got with
   | false =>
    have HV : Hid (procB x.toProcP = false) := by show procB _ = false; rw [HE.out, hg]; simp
    clear HE hg
    go_wp2
    go_ret
    exact ⟨ret_bool HV.out.symm, HI1.out.bel⟩
   | true =>
    have HG : Hid (plainB x.got = true) := hg
    clear hg
    by_cases h3 : 0 ≤ x.code
    rotate_left
    ·have HV : Hid (procB x.toProcP = false) := by show procB _ = false; rw [HE.out, inB_low (n := x.code) (by omega)]; simp
     clear HE
     go_wp2
     go_ret
     exact ⟨ret_bool HV.out.symm, HI1.out.bel⟩
    by_cases h4 : x.code ≤ 3
    rotate_left
    ·have HV : Hid (procB x.toProcP = false) := by show procB _ = false; rw [HE.out, inB_high (n := x.code) (by omega)]; simp
     clear HE
     go_wp2
     go_ret
     exact ⟨ret_bool HV.out.symm, HI1.out.bel⟩
    have HC : Hid (inB x.code 0 3 = true) := inB_true h3 h4
    go_wp2_with fail
    refine (stateOk_any x _ HI1.out.fit).mono ?_
    rintro e w2 ⟨rfl, hb2⟩
    have HI2 : Hid (StIn w w2 x) := HI1.out.below hb2
    clear hb2
    have HV : Hid (procB x.toProcP = stateB x.toProcP) := by show procB _ = _; rw [HE.out, HP.out, HL.out, HH.out, HG.out, HC.out]; simp
    clear HE
    go_wp2
    go_ret
    exact ⟨ret_bool HV.out.symm, HI2.out.bel⟩
end Go.Proofs.YtkbcplnlehdjfaaGreat

/- The things of a shelf of the kind Board, in order. (Made by mkall.py.) -/
namespace Go.Proofs.YtkbcplnlehdjfaaGreat
open Go.RowKit Go.Maps Go.Sort Go.Shelf
end Go.Proofs.YtkbcplnlehdjfaaGreat

/- The things of a shelf of the kind Port, in order. (Made by mkall.py.) -/
namespace Go.Proofs.YtkbcplnlehdjfaaGreat
open Go.RowKit Go.Maps Go.Sort Go.Shelf
end Go.Proofs.YtkbcplnlehdjfaaGreat

/- The things of a shelf of the kind Sem, in order. (Made by mkall.py.) -/
namespace Go.Proofs.YtkbcplnlehdjfaaGreat
open Go.RowKit Go.Maps Go.Sort Go.Shelf
end Go.Proofs.YtkbcplnlehdjfaaGreat
