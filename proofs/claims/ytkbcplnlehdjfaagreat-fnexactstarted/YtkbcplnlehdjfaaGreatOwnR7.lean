/- What the proof leans on, part 7: PSpec1, OpenA, LwB, LyB. -/
import Derived.Deep.MidRow
import Derived.Test.YtkbcplnlehdjfaaGreatOwnR2
import Derived.Test.YtkbcplnlehdjfaaGreatOwnR5
import Derived.Test.YtkbcplnlehdjfaaGreatOwnR6

namespace Go.Proofs.YtkbcplnlehdjfaaGreat
open Go.RowKit
/-- A process lies in a block of its own. -/
def ProcBox (W : World) (X : Nat) (x : ProcD) : Prop := W.heap[X]? = some (.cells #[.int .i64 x.id, .int .i64 x.prio, .slice x.progA x.prog.length x.progC, .int .i64 x.state, .int .i64 x.pc, .int .i64 x.left, .int .i64 x.wake, .int .i64 x.on, .string x.held, .string x.got, .int .i64 x.code, .int .i64 x.since] 43 (0, 0))
def PartBox (W : World) (B : Nat) (p : PartD) : Prop := W.heap[B]? = some (.cells #[.int .i64 p.id, .int .i64 p.next, .slice p.procA p.procs.length p.procC, .slice p.semA p.sems.length p.semC, .slice p.eventA p.events.length p.eventC, .slice p.boardA p.boards.length p.boardC, .slice p.bufferA p.buffers.length p.bufferC, .slice p.portA p.ports.length p.portC] 32 (0, 0))
theorem ProcBox.below {W W' : World} {X : Nat} {x : ProcD} (h : ProcBox W X x) (hb : Below W.heap.size W W') : ProcBox W' X x := (hb.block X (Array.getElem?_eq_some_iff.1 h).1).trans h
theorem PartBox.below {W W' : World} {X : Nat} {x : PartD} (h : PartBox W X x) (hb : Below W.heap.size W W') : PartBox W' X x := (hb.block X (Array.getElem?_eq_some_iff.1 h).1).trans h
theorem ProcBox.cells {W : World} {X : Nat} {x : ProcD} (h : ProcBox W X x) :
  W.cell? ⟨X, 0, none⟩ = some (.int .i64 x.id) ∧ W.cell? ⟨X, 1, none⟩ = some (.int .i64 x.prio) ∧ W.cell? ⟨X, 2, none⟩ = some (.slice x.progA x.prog.length x.progC) ∧ W.cell? ⟨X, 3, none⟩ = some (.int .i64 x.state) ∧ W.cell? ⟨X, 4, none⟩ = some (.int .i64 x.pc) ∧ W.cell? ⟨X, 5, none⟩ = some (.int .i64 x.left) ∧ W.cell? ⟨X, 6, none⟩ = some (.int .i64 x.wake) ∧ W.cell? ⟨X, 7, none⟩ = some (.int .i64 x.on) ∧ W.cell? ⟨X, 8, none⟩ = some (.string x.held) ∧ W.cell? ⟨X, 9, none⟩ = some (.string x.got) ∧ W.cell? ⟨X, 10, none⟩ = some (.int .i64 x.code) ∧ W.cell? ⟨X, 11, none⟩ = some (.int .i64 x.since) := by
 unfold ProcBox at h
 simp [World.cell?, h]
theorem PartBox.cells {W : World} {X : Nat} {p : PartD} (h : PartBox W X p) :
  W.cell? ⟨X, 0, none⟩ = some (.int .i64 p.id) ∧ W.cell? ⟨X, 1, none⟩ = some (.int .i64 p.next) ∧ W.cell? ⟨X, 2, none⟩ = some (.slice p.procA p.procs.length p.procC) ∧ W.cell? ⟨X, 3, none⟩ = some (.slice p.semA p.sems.length p.semC) ∧ W.cell? ⟨X, 4, none⟩ = some (.slice p.eventA p.events.length p.eventC) ∧ W.cell? ⟨X, 5, none⟩ = some (.slice p.boardA p.boards.length p.boardC) ∧ W.cell? ⟨X, 6, none⟩ = some (.slice p.bufferA p.buffers.length p.bufferC) ∧ W.cell? ⟨X, 7, none⟩ = some (.slice p.portA p.ports.length p.portC) := by
 unfold PartBox at h
 simp [World.cell?, h]
def procOkB (p : PartP) (x : ProcP) : Bool := inB x.id 1 1000 && procB x && turnB p.next x && waitB p x
/-- What is there when the walk begins. -/
structure ProcIn (w W : World) (P X : Nat) (p : PartD) (x : ProcD) : Prop where
 part : PartBox W P p
 proc : ProcBox W X x
 at' : PartD.At W p
 prog : Row W x.progA (opK.flat x.prog)
 bel : Below w.heap.size w W
theorem ProcIn.below {w W W' : World} {P X : Nat} {p : PartD} {x : ProcD} (h : ProcIn w W P X p x) (hb : Below W.heap.size W W') : ProcIn w W' P X p x :=
 ⟨h.part.below hb, h.proc.below hb, h.at'.below hb, h.prog.below hb, h.bel.trans (hb.mono h.bel.size)⟩
theorem procIn_start {w : World} {p : PartD} {x : ProcD} (h : PartD.At w p) (hr : Row w x.progA (opK.flat x.prog)) : ProcIn w ((w.alloc (.cells p.cells 32)).alloc (.cells (procVs x) 43)) w.heap.size (w.heap.size + 1) p x := by
 have b1 : Below w.heap.size w (w.alloc (.cells p.cells 32)) := (Below.refl _ _).alloc (Nat.le_refl _) _
 have b2 : Below w.heap.size w ((w.alloc (.cells p.cells 32)).alloc (.cells (procVs x) 43)) := b1.alloc b1.size _
 exact ⟨(heap_alloc_old _ _ (by simp)).trans (heap_alloc_new _ _), heap_alloc2_new _ _ _, h.below b2, hr.below b2, b2⟩
theorem stateB_in {x : ProcP} (h : inB x.state 0 7 = false) : stateB x = false := by
 have h' : x.state < 0 ∨ 7 < x.state := by
  have : ¬ (0 ≤ x.state ∧ x.state ≤ 7) := fun hh => by rw [inB_true hh.1 hh.2] at h; cases h
  omega
 unfold stateB
 rw [if_neg (by omega), if_neg (by omega), if_neg (by omega), if_neg (by omega), if_neg (by omega)]
theorem left_spec {x : ProcP} {n : Nat} {o : OpD} (hp : progL x.prog = true) (hpc : x.pc = n) (ho : x.prog[n]? = some o) : leftB x = (decide (x.left = 0) || (decide (o.1 = 1) && inB x.left 1 (o.2.1 - 1))) := by
 have e1 : opAt x = o := by
  unfold opAt
  rw [hpc, Int.toNat_natCast, ho]
  rfl
 have hn : o.1 = 1 → 1 ≤ o.2.1 := fun h1 => by
  have hk : n < x.prog.length := (List.getElem?_eq_some_iff.1 ho).1
  have hb : progB x.prog.length (kOf x.prog) (nOf x.prog) (mOf x.prog) (sOf x.prog) = true := hp
  simp only [progB, decide_eq_true_eq] at hb
  have := hb.2.2 n hk
  simp only [opAtB, kOf, nOf, ho, Option.getD_some, opB, h1] at this
  simp only [true_or, if_true, Bool.and_eq_true] at this
  have := inB_iff.1 this.1.1
  omega
 simp only [leftB, e1]
 by_cases h1 : o.1 = 1
 ·have := hn h1
  simp only [h1, if_true, decide_true, Bool.true_and]
  by_cases h2 : x.left = 0
  ·simp [h2]; omega
  ·simp only [h2, decide_false, Bool.false_or, inB]
   by_cases h3 : 0 ≤ x.left
   ·by_cases h4 : x.left < o.2.1
    ·simp [h3, h4]; omega
    ·simp [h3, h4]; omega
   ·simp [h3]; omega
 ·simp [h1]
theorem state_op {x : ProcP} {b c : Bool} (h : ¬ x.state = 0) : (stateB x && b && c) = (hasOpB x && (stateB x && b && c)) := by
 cases ho : hasOpB x with
 | true => simp
 | false =>
  have : stateB x = false := by
   simp only [stateB, h, if_false, ho]
   simp
  simp [this]
theorem state_left {x : ProcP} (h0 : ¬ x.state = 0) (h1 : ¬ x.state = 1) (hl : ¬ x.left = 0) : stateB x = false := by
 simp only [stateB, h0, h1, if_false, hl, decide_false]
 simp
theorem state_held {x : ProcP} (h0 : ¬ x.state = 0) (h1 : ¬ x.state = 1) (h5 : ¬ x.state = 5) (hl : emptyB x.held = false) : stateB x = false := by
 simp only [stateB, h0, h1, h5, if_false, hl]
 simp
theorem state_wait {p : PartP} {x : ProcP} (h0 : ¬ x.state = 0) (h1 : ¬ x.state = 1) (h2 : ¬ x.state = 2) (h5 : ¬ x.state = 5) (hb : 0 ≤ x.state ∧ x.state ≤ 7) (ho : hasOpB x = true) (hl : x.left = 0) (hh : emptyB x.held = true) : (stateB x && waitB p x) = (wakeB x.wake && hasB p x.state x.on) := by
 have h4 : x.state = 3 ∨ x.state = 4 ∨ x.state = 6 ∨ x.state = 7 := by omega
 have h3 : 3 ≤ x.state := by omega
 simp only [stateB, waitB, h0, h1, h2, h5, if_false, h4, if_true, h3, ho, hl, hh]
 simp
theorem op_ge {l : List OpD} {n : Nat} {o : OpD} (hp : progL l = true) (ho : l[n]? = some o) : o.1 = 1 → 1 ≤ o.2.1 ∧ o.2.1 ≤ 1000 := by
 intro h1
 ·have hk : n < l.length := (List.getElem?_eq_some_iff.1 ho).1
  have hb : progB l.length (kOf l) (nOf l) (mOf l) (sOf l) = true := hp
  simp only [progB, decide_eq_true_eq] at hb
  have := hb.2.2 n hk
  simp only [opAtB, kOf, nOf, ho, Option.getD_some, opB, h1] at this
  simp only [true_or, if_true, Bool.and_eq_true] at this
  have := inB_iff.1 this.1.1
  exact ⟨by omega, by omega⟩
set_option maxRecDepth 100000 in
set_option maxHeartbeats 16000000 in
theorem l3ProcOk_any (p : PartD) (x : ProcD) (w : World) (hp : p.Short) (hx : x.Short) (h1 : 1 ≤ p.next) (h2 : p.next ≤ 1000000000) (h : PartD.At w p) (hr : Row w x.progA (opK.flat x.prog)) :
  Calls Tryz.prog 103 #[.agg p.cells, .agg (procVs x)] w fun e w' => e = .returned (.bool (procOkB p.pure x.toProcP)) ∧ Below w.heap.size w w' := by
 have H0 : Hid (ProcIn w ((w.alloc (.cells p.cells 32)).alloc (.cells (procVs x) 43)) w.heap.size (w.heap.size + 1) p x) := procIn_start h hr
 have HS : Hid (p.Short ∧ x.Short) := ⟨hp, hx⟩
 have HE : Hid (procOkB p.pure x.toProcP = (inB x.id 1 1000 && (inB x.prio 1 50 && progL x.prog && plainB x.held && plainB x.got && inB x.code 0 3 && stateB x.toProcP) && turnB p.next x.toProcP && waitB p.pure x.toProcP)) := rfl
 obtain ⟨m0, m1, m2, m3, m4, m5, m6, m7⟩ := H0.out.part.cells
 obtain ⟨k0, k1, k2, k3, k4, k5, k6, k7, k8, k9, k10, k11⟩ := H0.out.proc.cells
 have hpl := hx.prog
 have hhs := hx.held
 have hgs := hx.got
 clear h hr hp hx
 unfold PartD.cells procVs at *
 go_enter Tryz.func103, Tryz.ntmps103
 go_wp2_with fail
 generalize (w.alloc (.cells #[.int .i64 p.id, .int .i64 p.next, .slice p.procA p.procs.length p.procC, .slice p.semA p.sems.length p.semC, .slice p.eventA p.events.length p.eventC, .slice p.boardA p.boards.length p.boardC, .slice p.bufferA p.buffers.length p.bufferC, .slice p.portA p.ports.length p.portC] 32)).alloc (.cells #[.int .i64 x.id, .int .i64 x.prio, .slice x.progA x.prog.length x.progC, .int .i64 x.state, .int .i64 x.pc, .int .i64 x.left, .int .i64 x.wake, .int .i64 x.on, .string x.held, .string x.got, .int .i64 x.code, .int .i64 x.since] 43) = W at *
 have HP : Hid (ProcIn w W w.heap.size (w.heap.size + 1) p x) := H0.out
 clear H0
 refine (l1In_any x.id 1 1000 _).mono ?_
 rintro e w9 ⟨rfl, hw9⟩
 rw [hw9]
 clear hw9 w9
 cases ha : inB x.id 1 1000
 ·have hz : True := trivial
  have HV : Hid (procOkB p.pure x.toProcP = false) := by show procOkB _ _ = false; rw [HE.out]; simp [ha]
  clear HE
  go_wp2
  go_ret
  exact ⟨ret_bool (by rw [HV.out]), HP.out.bel⟩
 have HA : Hid (inB x.id 1 1000 = true) := ha
 clear ha
 go_wp2_with fail
 refine (l1In_any x.prio 1 50 _).mono ?_
 rintro e w9 ⟨rfl, hw9⟩
 rw [hw9]
 clear hw9 w9
 cases hb : inB x.prio 1 50
 ·have hz : True := trivial
  have HV : Hid (procOkB p.pure x.toProcP = false) := by show procOkB _ _ = false; rw [HE.out]; simp [hb]
  clear HE
  go_wp2
  go_ret
  exact ⟨ret_bool (by rw [HV.out]), HP.out.bel⟩
 have HB : Hid (inB x.prio 1 50 = true) := hb
 clear hb
 go_wp2_with fail
 refine (specProgL_any x.progA x.prog x.progC _ hpl HS.out.2.ops HP.out.prog).mono ?_
 rintro e w3 ⟨rfl, hb3⟩
 have HP : Hid (ProcIn w w3 w.heap.size (w.heap.size + 1) p x) := HP.out.below hb3
 clear hb3 m0 m1 m2 m3 m4 m5 m6 m7 k0 k1 k2 k3 k4 k5 k6 k7 k8 k9 k10 k11
 obtain ⟨m0, m1, m2, m3, m4, m5, m6, m7⟩ := HP.out.part.cells
 obtain ⟨k0, k1, k2, k3, k4, k5, k6, k7, k8, k9, k10, k11⟩ := HP.out.proc.cells
 cases hc : progL x.prog
 ·have hz : True := trivial
  have HV : Hid (procOkB p.pure x.toProcP = false) := by show procOkB _ _ = false; rw [HE.out]; simp [hc]
  clear HE
  go_wp2
  go_ret
  exact ⟨ret_bool (by rw [HV.out]), HP.out.bel⟩
 have HC : Hid (progL x.prog = true) := hc
 clear hc
 go_wp2_with fail
 refine (l2Plain_any x.held _ hhs).mono ?_
 rintro e w9 ⟨rfl, hw9⟩
 rw [hw9]
 clear hw9 w9
 cases hd : plainB x.held
 ·have hz : True := trivial
  have HV : Hid (procOkB p.pure x.toProcP = false) := by show procOkB _ _ = false; rw [HE.out]; simp [hd]
  clear HE
  go_wp2
  go_ret
  exact ⟨ret_bool (by rw [HV.out]), HP.out.bel⟩
 have HD : Hid (plainB x.held = true) := hd
 clear hd
 go_wp2_with fail
 refine (l2Plain_any x.got _ hgs).mono ?_
 rintro e w9 ⟨rfl, hw9⟩
 rw [hw9]
 clear hw9 w9
 cases hg : plainB x.got
 ·have hz : True := trivial
  have HV : Hid (procOkB p.pure x.toProcP = false) := by show procOkB _ _ = false; rw [HE.out]; simp [hg]
  clear HE
  go_wp2
  go_ret
  exact ⟨ret_bool (by rw [HV.out]), HP.out.bel⟩
 have HG : Hid (plainB x.got = true) := hg
 clear hg
 go_wp2_with fail
 refine (l1In_any x.code 0 3 _).mono ?_
 rintro e w9 ⟨rfl, hw9⟩
 rw [hw9]
 clear hw9 w9
 cases hk : inB x.code 0 3
 ·have hz : True := trivial
  have HV : Hid (procOkB p.pure x.toProcP = false) := by show procOkB _ _ = false; rw [HE.out]; simp [hk]
  clear HE
  go_wp2
  go_ret
  exact ⟨ret_bool (by rw [HV.out]), HP.out.bel⟩
 have HK : Hid (inB x.code 0 3 = true) := hk
 clear hk
 go_wp2_with fail
 refine (l1In_any x.state 0 7 _).mono ?_
 rintro e w9 ⟨rfl, hw9⟩
 rw [hw9]
 clear hw9 w9
 cases hst : inB x.state 0 7
 ·have hz : True := trivial
  have HV : Hid (procOkB p.pure x.toProcP = false) := by show procOkB _ _ = false; rw [HE.out]; simp [stateB_in (x := x.toProcP) hst]
  clear HE
  go_wp2
  go_ret
  exact ⟨ret_bool (by rw [HV.out]), HP.out.bel⟩
 have HST : Hid (0 ≤ x.state ∧ x.state ≤ 7) := inB_iff.1 hst
 clear hst
 have HE : Hid (procOkB p.pure x.toProcP = (stateB x.toProcP && turnB p.next x.toProcP && waitB p.pure x.toProcP)) := by show procOkB _ _ = _; rw [HE.out, HA.out, HB.out, HC.out, HD.out, HG.out, HK.out]; simp
 by_cases hs0 : x.state = 0
 ·have e0 : (x.state == 0) = true := by simp [hs0]
  have HE : Hid (procOkB p.pure x.toProcP = (decide (x.pc = 0) && decide (x.left = 0) && decide (x.wake = 0) && decide (x.on = 0) && decide (x.since = 0) && emptyB x.held)) := by show procOkB _ _ = _; rw [HE.out]; simp [stateB, turnB, waitB, hs0]
  clear hs0
  by_cases g0 : x.pc = 0
  rotate_left
  ·have g0' : (x.pc == 0) = false := by simp [g0]
   have HV : Hid (procOkB p.pure x.toProcP = false) := by show procOkB _ _ = false; rw [HE.out]; simp [g0]
   clear HE
   go_wp2
   go_ret
   exact ⟨ret_bool (by rw [HV.out]), HP.out.bel⟩
  have g0' : (x.pc == 0) = true := by simp [g0]
  have G0 : Hid (x.pc = 0) := g0
  clear g0
  by_cases g1 : x.left = 0
  rotate_left
  ·have g1' : (x.left == 0) = false := by simp [g1]
   have HV : Hid (procOkB p.pure x.toProcP = false) := by show procOkB _ _ = false; rw [HE.out]; simp [g1]
   clear HE
   go_wp2
   go_ret
   exact ⟨ret_bool (by rw [HV.out]), HP.out.bel⟩
  have g1' : (x.left == 0) = true := by simp [g1]
  have G1 : Hid (x.left = 0) := g1
  clear g1
  by_cases g2 : x.wake = 0
  rotate_left
  ·have g2' : (x.wake == 0) = false := by simp [g2]
   have HV : Hid (procOkB p.pure x.toProcP = false) := by show procOkB _ _ = false; rw [HE.out]; simp [g2]
   clear HE
   go_wp2
   go_ret
   exact ⟨ret_bool (by rw [HV.out]), HP.out.bel⟩
  have g2' : (x.wake == 0) = true := by simp [g2]
  have G2 : Hid (x.wake = 0) := g2
  clear g2
  by_cases g3 : x.on = 0
  rotate_left
  ·have g3' : (x.on == 0) = false := by simp [g3]
   have HV : Hid (procOkB p.pure x.toProcP = false) := by show procOkB _ _ = false; rw [HE.out]; simp [g3]
   clear HE
   go_wp2
   go_ret
   exact ⟨ret_bool (by rw [HV.out]), HP.out.bel⟩
  have g3' : (x.on == 0) = true := by simp [g3]
  have G3 : Hid (x.on = 0) := g3
  clear g3
  by_cases g4 : x.held.toList = []
  rotate_left
  ·have g4' : ¬ [] = x.held.toList := fun h => g4 h.symm
   have HV : Hid (procOkB p.pure x.toProcP = false) := by show procOkB _ _ = false; rw [HE.out]; simp [emptyB_no g4]
   clear HE
   go_wp2
   go_ret
   exact ⟨ret_bool (by rw [HV.out]), HP.out.bel⟩
  by_cases g5 : x.since = 0
  rotate_left
  ·have g5' : (x.since == 0) = false := by simp [g5]
   have HV : Hid (procOkB p.pure x.toProcP = false) := by show procOkB _ _ = false; rw [HE.out]; simp [g5]
   clear HE
   go_wp2
   go_ret
   exact ⟨ret_bool (by rw [HV.out]), HP.out.bel⟩
  have g5' : (x.since == 0) = true := by simp [g5]
  have HV : Hid (procOkB p.pure x.toProcP = true) := by show procOkB _ _ = true; rw [HE.out]; simp [G0.out, G1.out, G2.out, G3.out, g5, emptyB_yes g4]
  clear HE
  go_wp2
  go_ret
  exact ⟨ret_bool (by rw [HV.out]), HP.out.bel⟩
 have e0 : (x.state == 0) = false := by simp [hs0]
 have HZ : Hid (¬ x.state = 0) := hs0
 clear hs0
 go_wp2_with fail
 refine (l1In_any x.pc 0 ((x.prog.length : Int) - 1) _).mono ?_
 rintro e w9 ⟨rfl, hw9⟩
 rw [hw9]
 clear hw9 w9
 have HE : Hid (procOkB p.pure x.toProcP = (hasOpB x.toProcP && (stateB x.toProcP && turnB p.next x.toProcP && waitB p.pure x.toProcP))) := by show procOkB _ _ = _; rw [HE.out]; exact state_op HZ.out
 cases hop : inB x.pc 0 ((x.prog.length : Int) - 1)
 ·have hz : hasOpB x.toProcP = false := hop
  have HV : Hid (procOkB p.pure x.toProcP = false) := by show procOkB _ _ = false; rw [HE.out]; simp [hz]
  clear HE
  go_wp2
  go_ret
  exact ⟨ret_bool (by rw [HV.out]), HP.out.bel⟩
 have HOP : Hid (hasOpB x.toProcP = true) := hop
 clear hop
 go_wp2_with fail
 refine (l1In_any x.since 1 (p.next - 1) _).mono ?_
 rintro e w9 ⟨rfl, hw9⟩
 rw [hw9]
 clear hw9 w9
 cases hsi : inB x.since 1 (p.next - 1)
 ·have hz : turnB p.next x.toProcP = false := by simp [turnB, hsi, HZ.out]
  have HV : Hid (procOkB p.pure x.toProcP = false) := by show procOkB _ _ = false; rw [HE.out]; simp [hz]
  clear HE
  go_wp2
  go_ret
  exact ⟨ret_bool (by rw [HV.out]), HP.out.bel⟩
 have HTU : Hid (turnB p.next x.toProcP = true) := by show turnB _ _ = true; simp [turnB, hsi]
 clear hsi
 have HE : Hid (procOkB p.pure x.toProcP = (stateB x.toProcP && waitB p.pure x.toProcP)) := by show procOkB _ _ = _; rw [HE.out, HOP.out, HTU.out]; simp
 by_cases hs1 : x.state = 1
 ·have e1 : (x.state == 1) = true := by simp [hs1]
  obtain ⟨n, hn, hnl, hno⟩ := hasOp_get HOP.out
  have HLS : Hid (leftB x.toProcP = (decide (x.left = 0) || (decide ((opAt x.toProcP).1 = 1) && inB x.left 1 ((opAt x.toProcP).2.1 - 1)))) := left_spec HC.out hn hno
  have HE : Hid (procOkB p.pure x.toProcP = (leftB x.toProcP && decide (x.wake = 0) && decide (x.on = 0) && emptyB x.held)) := by show procOkB _ _ = _; rw [HE.out]; simp [stateB, waitB, hs1, HOP.out]
  have HN1 : Hid ((opAt x.toProcP).1 = 1 → 1 ≤ (opAt x.toProcP).2.1 ∧ (opAt x.toProcP).2.1 ≤ 1000) := op_ge HC.out hno
  obtain ⟨g, hg, o0, o1, o2, o3⟩ := op_at HP.out.prog hno
  have hsz : w.heap.size + 1 < w3.heap.size := (Array.getElem?_eq_some_iff.1 HP.out.proc).1
  have i0 : (0 : Int) ≤ (n : Int) := by omega
  have i1 : (n : Int) < (x.prog.length : Int) := by omega
  rw [hg] at k2
  have k4n : w3.cell? ⟨w.heap.size + 1, 4, none⟩ = some (.int .i64 (n : Int)) := by rw [k4]; exact congrArg (fun z => some (Value.int .i64 z)) hn
  clear k4
  generalize opAt x.toProcP = o at *
  clear hs1 hg hn hno
  by_cases g0 : x.wake = 0
  rotate_left
  ·have g0' : (x.wake == 0) = false := by simp [g0]
   have HV : Hid (procOkB p.pure x.toProcP = false) := by show procOkB _ _ = false; rw [HE.out]; simp [g0]
   clear HE
   go_wp2
   go_ret
   exact ⟨ret_bool (by rw [HV.out]), HP.out.bel.alloc HP.out.bel.size _⟩
  have g0' : (x.wake == 0) = true := by simp [g0]
  have G0 : Hid (x.wake = 0) := g0
  clear g0
  by_cases g1 : x.on = 0
  rotate_left
  ·have g1' : (x.on == 0) = false := by simp [g1]
   have HV : Hid (procOkB p.pure x.toProcP = false) := by show procOkB _ _ = false; rw [HE.out]; simp [g1]
   clear HE
   go_wp2
   go_ret
   exact ⟨ret_bool (by rw [HV.out]), HP.out.bel.alloc HP.out.bel.size _⟩
  have g1' : (x.on == 0) = true := by simp [g1]
  have G1 : Hid (x.on = 0) := g1
  clear g1
  by_cases g4 : x.held.toList = []
  rotate_left
  ·have g4' : ¬ [] = x.held.toList := fun h => g4 h.symm
   have HV : Hid (procOkB p.pure x.toProcP = false) := by show procOkB _ _ = false; rw [HE.out]; simp [emptyB_no g4]
   clear HE
   go_wp2
   go_ret
   exact ⟨ret_bool (by rw [HV.out]), HP.out.bel.alloc HP.out.bel.size _⟩
  have HE : Hid (procOkB p.pure x.toProcP = (decide (x.left = 0) || (decide (o.1 = 1) && inB x.left 1 (o.2.1 - 1)))) := by show procOkB _ _ = _; rw [HE.out, HLS.out]; simp [G0.out, G1.out, emptyB_yes g4]
  by_cases g5 : x.left = 0
  ·have g5' : (x.left == 0) = true := by simp [g5]
   have HV : Hid (procOkB p.pure x.toProcP = true) := by show procOkB _ _ = true; rw [HE.out]; simp [g5]
   clear HE
   go_wp2
   go_ret
   exact ⟨ret_bool (by rw [HV.out]), HP.out.bel.alloc HP.out.bel.size _⟩
  have g5' : (x.left == 0) = false := by simp [g5]
  by_cases g6 : o.1 = 1
  rotate_left
  ·have g6' : (o.1 == 1) = false := by simp [g6]
   have HV : Hid (procOkB p.pure x.toProcP = false) := by show procOkB _ _ = false; rw [HE.out]; simp [g5, g6]
   clear HE
   go_wp2
   go_ret
   exact ⟨ret_bool (by rw [HV.out]), HP.out.bel.alloc HP.out.bel.size _⟩
  have n1 := (HN1.out g6).1
  have n2 := (HN1.out g6).2
  have HE : Hid (procOkB p.pure x.toProcP = inB x.left 1 (o.2.1 - 1)) := by show procOkB _ _ = _; rw [HE.out]; simp [g5, g6]
  have g6' : (o.1 == 1) = true := by simp [g6]
  clear g6 g5
  go_wp2_with (go_at_call 78; refine (l1In_any x.left 1 (o.2.1 - 1) _).mono ?_; rintro e w9 ⟨rfl, hw9⟩; rw [hw9]; clear hw9 w9)
  go_ret
  exact ⟨ret_bool (by rw [HE.out]), HP.out.bel.alloc HP.out.bel.size _⟩
 have e1 : (x.state == 1) = false := by simp [hs1]
 by_cases gl : x.left = 0
 rotate_left
 ·have gl' : (x.left == 0) = false := by simp [gl]
  have HSF : Hid (stateB x.toProcP = false) := state_left HZ.out hs1 gl
  have HV : Hid (procOkB p.pure x.toProcP = false) := by show procOkB _ _ = false; rw [HE.out]; simp [HSF.out]
  clear HE
  go_wp2
  go_ret
  exact ⟨ret_bool (by rw [HV.out]), HP.out.bel⟩
 have gl' : (x.left != 0) = false := by simp [gl]
 have HL0 : Hid (x.left = 0) := gl
 clear gl
 by_cases hs5 : x.state = 5
 ·have e5 : (x.state != 5) = false := by simp [hs5]
  have e2 : (x.state == 2) = false := by simp [hs5]
  have HE : Hid (procOkB p.pure x.toProcP = (wakeB x.wake && hasB p.pure x.state x.on)) := by show procOkB _ _ = _; rw [HE.out]; simp [stateB, waitB, hs5, HOP.out, HL0.out]
  clear hs5
  go_wp2_with fail
  refine (l3Has_any p x.state x.on _ HS.out.1 HP.out.at').mono ?_
  rintro e w4 ⟨rfl, hb4⟩
  have HP4 : Hid (ProcIn w w4 w.heap.size (w.heap.size + 1) p x) := HP.out.below hb4
  clear hb4 m0 m1 m2 m3 m4 m5 m6 m7 k0 k1 k2 k3 k4 k5 k6 k7 k8 k9 k10 k11
  obtain ⟨k0, k1, k2, k3, k4, k5, k6, k7, k8, k9, k10, k11⟩ := HP4.out.proc.cells
  cases hha : hasB p.pure x.state x.on
  ·have hz : True := trivial
   have HV : Hid (procOkB p.pure x.toProcP = false) := by show procOkB _ _ = false; rw [HE.out]; simp [hha]
   clear HE
   go_wp2
   go_ret
   exact ⟨ret_bool (by rw [HV.out]), HP4.out.bel⟩
  have HHA : Hid (hasB p.pure x.state x.on = true) := hha
  clear hha
  have HE : Hid (procOkB p.pure x.toProcP = (inB x.wake 1 2000000000 || decide (x.wake = -1))) := by show procOkB _ _ = _; rw [HE.out, HHA.out]; simp [wakeB]
  by_cases hm : x.wake = -1
  ·have hm' : (x.wake == -1) = true := by simp [hm]
   have HV : Hid (procOkB p.pure x.toProcP = true) := by show procOkB _ _ = true; rw [HE.out]; simp [hm]
   clear HE
   go_wp2
   go_ret
   exact ⟨ret_bool (by rw [HV.out]), HP4.out.bel⟩
  have hm' : (x.wake == -1) = false := by simp [hm]
  have HV : Hid (procOkB p.pure x.toProcP = inB x.wake 1 2000000000) := by show procOkB _ _ = _; rw [HE.out]; simp [hm]
  clear HE hm
  go_wp2_with (go_at_call 78; refine (l1In_any x.wake 1 2000000000 _).mono ?_; rintro e w9 ⟨rfl, hw9⟩; rw [hw9]; clear hw9 w9)
  go_ret
  exact ⟨ret_bool (by rw [HV.out]), HP4.out.bel⟩
 have e5 : (x.state != 5) = true := by simp [hs5]
 by_cases g4 : x.held.toList = []
 rotate_left
 ·have g4' : ¬ [] = x.held.toList := fun h => g4 h.symm
  have g4n : x.held.toList.isEmpty = false := by simp [g4]
  have HSF : Hid (stateB x.toProcP = false) := state_held HZ.out hs1 hs5 (emptyB_no g4)
  have HV : Hid (procOkB p.pure x.toProcP = false) := by show procOkB _ _ = false; rw [HE.out]; simp [HSF.out]
  clear HE
  go_wp2
  go_ret
  exact ⟨ret_bool (by rw [HV.out]), HP.out.bel⟩
 have HH0 : Hid (emptyB x.held = true) := emptyB_yes g4
 by_cases hs2 : x.state = 2
 ·have e2 : (x.state == 2) = true := by simp [hs2]
  have HE : Hid (procOkB p.pure x.toProcP = (inB x.wake 1 2000000000 && decide (x.on = 0))) := by show procOkB _ _ = _; rw [HE.out]; simp [stateB, waitB, hs2, HOP.out, HL0.out, HH0.out]
  clear hs2
  by_cases go : x.on = 0
  rotate_left
  ·have go' : (x.on == 0) = false := by simp [go]
   have HV : Hid (procOkB p.pure x.toProcP = false) := by show procOkB _ _ = false; rw [HE.out]; simp [go]
   clear HE
   go_wp2
   go_ret
   exact ⟨ret_bool (by rw [HV.out]), HP.out.bel⟩
  have go' : (x.on == 0) = true := by simp [go]
  have HV : Hid (procOkB p.pure x.toProcP = inB x.wake 1 2000000000) := by show procOkB _ _ = _; rw [HE.out]; simp [go]
  clear HE go
  go_wp2_with (go_at_call 78; refine (l1In_any x.wake 1 2000000000 _).mono ?_; rintro e w9 ⟨rfl, hw9⟩; rw [hw9]; clear hw9 w9)
  go_ret
  exact ⟨ret_bool (by rw [HV.out]), HP.out.bel⟩
 have e2 : (x.state == 2) = false := by simp [hs2]
 have HE : Hid (procOkB p.pure x.toProcP = (wakeB x.wake && hasB p.pure x.state x.on)) := by show procOkB _ _ = _; rw [HE.out]; exact state_wait HZ.out hs1 hs2 hs5 HST.out HOP.out HL0.out HH0.out
 clear hs1 hs2 hs5
 go_wp2_with fail
 refine (l3Has_any p x.state x.on _ HS.out.1 HP.out.at').mono ?_
 rintro e w4 ⟨rfl, hb4⟩
 have HP4 : Hid (ProcIn w w4 w.heap.size (w.heap.size + 1) p x) := HP.out.below hb4
 clear hb4 m0 m1 m2 m3 m4 m5 m6 m7 k0 k1 k2 k3 k4 k5 k6 k7 k8 k9 k10 k11
 obtain ⟨k0, k1, k2, k3, k4, k5, k6, k7, k8, k9, k10, k11⟩ := HP4.out.proc.cells
 cases hha : hasB p.pure x.state x.on
 ·have hz : True := trivial
  have HV : Hid (procOkB p.pure x.toProcP = false) := by show procOkB _ _ = false; rw [HE.out]; simp [hha]
  clear HE
  go_wp2
  go_ret
  exact ⟨ret_bool (by rw [HV.out]), HP4.out.bel⟩
 have HHA : Hid (hasB p.pure x.state x.on = true) := hha
 clear hha
 have HE : Hid (procOkB p.pure x.toProcP = (inB x.wake 1 2000000000 || decide (x.wake = -1))) := by show procOkB _ _ = _; rw [HE.out, HHA.out]; simp [wakeB]
 by_cases hm : x.wake = -1
 ·have hm' : (x.wake == -1) = true := by simp [hm]
  have HV : Hid (procOkB p.pure x.toProcP = true) := by show procOkB _ _ = true; rw [HE.out]; simp [hm]
  clear HE
  go_wp2
  go_ret
  exact ⟨ret_bool (by rw [HV.out]), HP4.out.bel⟩
 have hm' : (x.wake == -1) = false := by simp [hm]
 have HV : Hid (procOkB p.pure x.toProcP = inB x.wake 1 2000000000) := by show procOkB _ _ = _; rw [HE.out]; simp [hm]
 clear HE hm
 go_wp2_with (go_at_call 78; refine (l1In_any x.wake 1 2000000000 _).mono ?_; rintro e w9 ⟨rfl, hw9⟩; rw [hw9]; clear hw9 w9)
 go_ret
 exact ⟨ret_bool (by rw [HV.out]), HP4.out.bel⟩
end Go.Proofs.YtkbcplnlehdjfaaGreat

/- An open partition as data. (Made by mkopena.py.) -/
namespace Go.Proofs.YtkbcplnlehdjfaaGreat
open Go.RowKit Go.Maps
/-- The numbers, the blocks of the maps, and the things with their blocks. -/
structure OpenD where
 q : Opn
 lp : List (ProcD × Nat)
 ls : List (SemD × Nat)
 le : List (EventD × Nat)
 lb : List (BoardD × Nat)
 lf : List (BufferD × Nat)
 lq : List (PortD × Nat)
def OpenD.pure (S : OpenD) : PartP := ⟨S.q.id, S.q.next, S.lp.map (·.1.toProcP), S.ls.map (·.1), S.le.map (·.1), S.lb.map (·.1), S.lf.map (·.1.toBufferP), S.lq.map (·.1.toPortP)⟩
/-- The blocks of the maps and of the things. -/
def OpenD.boxes (S : OpenD) : List Nat := (S.q.bp :: S.lp.map (·.2)) ++ ((S.q.bs :: S.ls.map (·.2)) ++ ((S.q.be :: S.le.map (·.2)) ++ ((S.q.bb :: S.lb.map (·.2)) ++ ((S.q.bf :: S.lf.map (·.2)) ++ (S.q.bq :: S.lq.map (·.2))))))
/-- The blocks of the things' lists. -/
def OpenD.kids (S : OpenD) : List Nat := YtkbcplnlehdjfaaGreat.kids procN S.lp ++ (YtkbcplnlehdjfaaGreat.kids bufferN S.lf ++ YtkbcplnlehdjfaaGreat.kids portN S.lq)
/-- A partition lies open, all of it in memory of its own. -/
structure OpenAt (w : World) (base o : Nat) (S : OpenD) : Prop where
 opn : OpenBox w o S.q
 procs : Shelf procVs (fun x : ProcD => x.id) 43 w base S.q.bp S.lp
 sems : Shelf semVs (fun x : SemD => x.id) 49 w base S.q.bs S.ls
 events : Shelf eventVs (fun x : EventD => x.id) 138 w base S.q.be S.le
 boards : Shelf boardVs (fun x : BoardD => x.id) 141 w base S.q.bb S.lb
 buffers : Shelf bufferVs (fun x : BufferD => x.id) 144 w base S.q.bf S.lf
 ports : Shelf portVs (fun x : PortD => x.id) 61 w base S.q.bq S.lq
 mineP : ∀ p ∈ S.lp, procN.Mine w base p.1
 mineF : ∀ p ∈ S.lf, bufferN.Mine w base p.1
 mineQ : ∀ p ∈ S.lq, portN.Mine w base p.1
 nodup : (o :: (S.boxes ++ S.kids)).Nodup
 low : base ≤ o
section
variable {α : Type} {vs : α → Array Value} {num : α → Int} {T : TypeId}
/-- What came of making a shelf: its number and its map; if all is well the shelf, between two bounds. -/
def ShRes (vs : α → Array Value) (num : α → Int) (T : TypeId) (W : World) (lo hi : Nat) (most : Int) (ok : Bool) (list : List α) (m : Int) (mb : Option Nat) : Prop :=
 ok = true → m = most ∧ ∃ b l, mb = some b ∧ l.map (·.1) = list ∧ Shelf vs num T W lo b l ∧ ∀ g ∈ b :: l.map (·.2), g < hi
theorem ShRes.below {W W' : World} {lo hi : Nat} {most : Int} {ok : Bool} {list : List α} {m : Int} {mb : Option Nat} (h : ShRes vs num T W lo hi most ok list m mb) (hb : Below W.heap.size W W') : ShRes vs num T W' lo hi most ok list m mb := fun e => by
 obtain ⟨h1, b, l, h2, h3, h4, h5⟩ := h e
 exact ⟨h1, b, l, h2, h3, h4.below hb, h5⟩
theorem ShelfEnds.res {w w' : World} {most : Int} {ok : Bool} {list : List α} {e : Ending} (h : ShelfEnds vs num T w most ok list e w') :
  ∃ (okv : Bool) (m : Int) (mb : Option Nat), e = .returned (.tuple #[.agg #[.int .i64 m, .map mb], .bool okv]) ∧ okv = ok ∧ Below w.heap.size w w' ∧ ShRes vs num T w' w.heap.size w'.heap.size most okv list m mb := by
 obtain ⟨hb, ⟨h1, h2⟩ | ⟨h1, b, l, h2, h3, h4⟩⟩ := h
 ·exact ⟨false, 0, none, h2, h1.symm, hb, fun e => by cases e⟩
 ·exact ⟨true, most, some b, h2, h1.symm, hb, fun _ => ⟨rfl, b, l, rfl, h3, h4, h4.lt⟩⟩
end
/-- The partition's block, and the shelves that are made: block, most, map. -/
structure Opg (w wr : World) (p : PartD) (l : List (Nat × Int × Option Nat)) : Prop where
 bel : Below w.heap.size w wr
 part : PartBox wr w.heap.size p
 shs : ∀ q ∈ l, ∃ t, wr.heap[q.1]? = some (.cells #[.int .i64 q.2.1, .map q.2.2] t (0, 0))
theorem Opg.start (w : World) (p : PartD) : Opg w (w.alloc (.cells p.cells 32)) p [] :=
 ⟨(Below.refl _ _).alloc (Nat.le_refl _) _, heap_alloc_new _ _, fun q hq => absurd hq (by simp)⟩
theorem Opg.below {w wr w' : World} {p : PartD} {l : List (Nat × Int × Option Nat)} (h : Opg w wr p l) (hb : Below wr.heap.size wr w') : Opg w w' p l :=
 ⟨h.bel.trans (hb.mono h.bel.size), h.part.below hb, fun q hq => by
  obtain ⟨t, h1⟩ := h.shs q hq
  exact ⟨t, (hb.block _ (Array.getElem?_eq_some_iff.1 h1).1).trans h1⟩⟩
theorem Opg.push {w wr w1 : World} {p : PartD} {m : Int} {mb : Option Nat} {l : List (Nat × Int × Option Nat)} (h : Opg w wr p l) (hb : Below wr.heap.size wr w1) (t : TypeId) :
  Opg w (w1.alloc (.cells #[.int .i64 m, .map mb] t)) p ((w1.heap.size, m, mb) :: l) := by
 have h1 := h.below hb
 have h2 : Below w1.heap.size w1 (w1.alloc (.cells #[.int .i64 m, .map mb] t)) := (Below.refl _ _).alloc (Nat.le_refl _) _
 have h3 := h1.below h2
 refine ⟨h3.bel, h3.part, fun q hq => ?_⟩
 rcases List.mem_cons.1 hq with rfl | hq
 ·exact ⟨t, heap_alloc_new _ _⟩
 ·exact h3.shs q hq
theorem Opg.c0 {w wr : World} {p : PartD} {l : List (Nat × Int × Option Nat)} (h : Opg w wr p l) {B : Nat} {m : Int} {mb : Option Nat} (hq : (B, m, mb) ∈ l) : wr.cell? ⟨B, 0, none⟩ = some (.int .i64 m) := by
 obtain ⟨t, h1⟩ := h.shs _ hq
 simp only at h1
 simp [World.cell?, h1]
theorem Opg.c1 {w wr : World} {p : PartD} {l : List (Nat × Int × Option Nat)} (h : Opg w wr p l) {B : Nat} {m : Int} {mb : Option Nat} (hq : (B, m, mb) ∈ l) : wr.cell? ⟨B, 1, none⟩ = some (.map mb) := by
 obtain ⟨t, h1⟩ := h.shs _ hq
 simp only at h1
 simp [World.cell?, h1]
/-- All that came in lies, and is not too long for a machine. -/
structure PartD.Good (w : World) (p : PartD) : Prop where
 at' : PartD.At w p
 short : p.Short
 procs : ∀ x ∈ p.procs, x.Short ∧ x.Wf
 sems : ∀ x ∈ p.sems, (Lit.int .i64 x.id).wf = true
 events : ∀ x ∈ p.events, (Lit.int .i64 x.id).wf = true
 boards : ∀ x ∈ p.boards, (Lit.int .i64 x.id).wf = true ∧ x.text.size ≤ 1048576
 buffers : ∀ x ∈ p.buffers, (Lit.int .i64 x.id).wf = true ∧ x.items.length ≤ 1048576 ∧ ∀ s ∈ x.items, s.size ≤ 1048576
 ports : ∀ x ∈ p.ports, (Lit.int .i64 x.id).wf = true ∧ x.items.length ≤ 1048576 ∧ ∀ s ∈ x.items, s.size ≤ 1048576
 lowProc : ∀ x ∈ p.procs, ∀ g, procN.kid x = some g → g < w.heap.size
 lowBuffer : ∀ x ∈ p.buffers, ∀ g, bufferN.kid x = some g → g < w.heap.size
 lowPort : ∀ x ∈ p.ports, ∀ g, portN.kid x = some g → g < w.heap.size
theorem PartD.Good.below {w w' : World} {p : PartD} (h : p.Good w) (hb : Below w.heap.size w w') : p.Good w' := ⟨h.at'.below hb, h.short, h.procs, h.sems, h.events, h.boards, h.buffers, h.ports, fun x hx g hk => Nat.lt_of_lt_of_le (h.lowProc x hx g hk) hb.size, fun x hx g hk => Nat.lt_of_lt_of_le (h.lowBuffer x hx g hk) hb.size, fun x hx g hk => Nat.lt_of_lt_of_le (h.lowPort x hx g hk) hb.size⟩
theorem PartD.Good.fitProc {w : World} {p : PartD} (h : p.Good w) : ∀ x ∈ p.procs, ProcFit w x := fun x hx => ⟨(h.procs x hx).1, h.at'.1.2 x hx (x.progA, opK.flat x.prog) (by simp [procK])⟩
theorem PartD.Good.fitSem {w : World} {p : PartD} (_ : p.Good w) : ∀ x ∈ p.sems, SemFit w x := fun _ _ => trivial
theorem PartD.Good.fitEvent {w : World} {p : PartD} (_ : p.Good w) : ∀ x ∈ p.events, EventFit w x := fun _ _ => trivial
theorem PartD.Good.fitBoard {w : World} {p : PartD} (h : p.Good w) : ∀ x ∈ p.boards, BoardFit w x := fun x hx => (h.boards x hx).2
theorem PartD.Good.fitBuffer {w : World} {p : PartD} (h : p.Good w) : ∀ x ∈ p.buffers, BufferFit w x := fun x hx => ⟨(h.buffers x hx).2.1, (h.buffers x hx).2.2, h.at'.2.2.2.2.1.2 x hx (x.itemsA, strK.flat x.items) (by simp [bufferK])⟩
theorem PartD.Good.fitPort {w : World} {p : PartD} (h : p.Good w) : ∀ x ∈ p.ports, PortFit w x := fun x hx => ⟨(h.ports x hx).2.1, (h.ports x hx).2.2, h.at'.2.2.2.2.2.2 x hx (x.itemsA, strK.flat x.items) (by simp [portK])⟩
theorem PartD.Good.wfProc {w : World} {p : PartD} (h : p.Good w) : ∀ x ∈ p.procs, (Lit.int .i64 x.id).wf = true := fun x hx => (h.procs x hx).2.id
theorem PartD.Good.wfSem {w : World} {p : PartD} (h : p.Good w) : ∀ x ∈ p.sems, (Lit.int .i64 x.id).wf = true := h.sems
theorem PartD.Good.wfEvent {w : World} {p : PartD} (h : p.Good w) : ∀ x ∈ p.events, (Lit.int .i64 x.id).wf = true := h.events
theorem PartD.Good.wfBoard {w : World} {p : PartD} (h : p.Good w) : ∀ x ∈ p.boards, (Lit.int .i64 x.id).wf = true := fun x hx => (h.boards x hx).1
theorem PartD.Good.wfBuffer {w : World} {p : PartD} (h : p.Good w) : ∀ x ∈ p.buffers, (Lit.int .i64 x.id).wf = true := fun x hx => (h.buffers x hx).1
theorem PartD.Good.wfPort {w : World} {p : PartD} (h : p.Good w) : ∀ x ∈ p.ports, (Lit.int .i64 x.id).wf = true := fun x hx => (h.ports x hx).1
/-! ### What each test says of the partition -/
def okProc (p : PartD) : Bool := thingsB (fun x : ProcD => x.id) (fun x : ProcD => procB x.toProcP) 0 p.procs && decide ((p.procs.length : Int) ≤ max 6 0)
theorem okProc_iff (p : PartD) : okProc p = true ↔ (thingsB (·.id) procB 0 p.pure.procs = true ∧ p.pure.procs.length ≤ 6) := by
 have e : thingsB (·.id) procB 0 p.pure.procs = thingsB (fun x : ProcD => x.id) (fun x : ProcD => procB x.toProcP) 0 p.procs := thingsB_map _ _ _ _ _
 have e2 : p.pure.procs.length = p.procs.length := by simp [PartD.pure]
 rw [e, e2]
 unfold okProc
 rw [Bool.and_eq_true, decide_eq_true_iff]
 constructor
 ·intro h; exact ⟨h.1, by omega⟩
 ·intro h; exact ⟨h.1, by omega⟩
def okSem (p : PartD) : Bool := thingsB (fun x : SemD => x.id) (fun x : SemD => semB x) 0 p.sems && decide ((p.sems.length : Int) ≤ max 5 0)
theorem okSem_iff (p : PartD) : okSem p = true ↔ (thingsB (·.id) semB 0 p.pure.sems = true ∧ p.pure.sems.length ≤ 5) := by
 have e : p.pure.sems = p.sems := rfl
 rw [e]
 unfold okSem
 rw [Bool.and_eq_true, decide_eq_true_iff]
 constructor
 ·intro h; exact ⟨h.1, by omega⟩
 ·intro h; exact ⟨h.1, by omega⟩
def okEvent (p : PartD) : Bool := thingsB (fun x : EventD => x.id) (fun x : EventD => eventB x) 0 p.events && decide ((p.events.length : Int) ≤ max 5 0)
theorem okEvent_iff (p : PartD) : okEvent p = true ↔ (thingsB (·.id) eventB 0 p.pure.events = true ∧ p.pure.events.length ≤ 5) := by
 have e : p.pure.events = p.events := rfl
 rw [e]
 unfold okEvent
 rw [Bool.and_eq_true, decide_eq_true_iff]
 constructor
 ·intro h; exact ⟨h.1, by omega⟩
 ·intro h; exact ⟨h.1, by omega⟩
def okBoard (p : PartD) : Bool := thingsB (fun x : BoardD => x.id) (fun x : BoardD => boardB x) 0 p.boards && decide ((p.boards.length : Int) ≤ max 5 0)
theorem okBoard_iff (p : PartD) : okBoard p = true ↔ (thingsB (·.id) boardB 0 p.pure.boards = true ∧ p.pure.boards.length ≤ 5) := by
 have e : p.pure.boards = p.boards := rfl
 rw [e]
 unfold okBoard
 rw [Bool.and_eq_true, decide_eq_true_iff]
 constructor
 ·intro h; exact ⟨h.1, by omega⟩
 ·intro h; exact ⟨h.1, by omega⟩
def okBuffer (p : PartD) : Bool := thingsB (fun x : BufferD => x.id) (fun x : BufferD => bufferB x.toBufferP) 0 p.buffers && decide ((p.buffers.length : Int) ≤ max 5 0)
theorem okBuffer_iff (p : PartD) : okBuffer p = true ↔ (thingsB (·.id) bufferB 0 p.pure.buffers = true ∧ p.pure.buffers.length ≤ 5) := by
 have e : thingsB (·.id) bufferB 0 p.pure.buffers = thingsB (fun x : BufferD => x.id) (fun x : BufferD => bufferB x.toBufferP) 0 p.buffers := thingsB_map _ _ _ _ _
 have e2 : p.pure.buffers.length = p.buffers.length := by simp [PartD.pure]
 rw [e, e2]
 unfold okBuffer
 rw [Bool.and_eq_true, decide_eq_true_iff]
 constructor
 ·intro h; exact ⟨h.1, by omega⟩
 ·intro h; exact ⟨h.1, by omega⟩
def okPort (p : PartD) : Bool := thingsB (fun x : PortD => x.id) (fun x : PortD => portB x.toPortP) 0 p.ports && decide ((p.ports.length : Int) ≤ max 5 0)
theorem okPort_iff (p : PartD) : okPort p = true ↔ (thingsB (·.id) portB 0 p.pure.ports = true ∧ p.pure.ports.length ≤ 5) := by
 have e : thingsB (·.id) portB 0 p.pure.ports = thingsB (fun x : PortD => x.id) (fun x : PortD => portB x.toPortP) 0 p.ports := thingsB_map _ _ _ _ _
 have e2 : p.pure.ports.length = p.ports.length := by simp [PartD.pure]
 rw [e, e2]
 unfold okPort
 rw [Bool.and_eq_true, decide_eq_true_iff]
 constructor
 ·intro h; exact ⟨h.1, by omega⟩
 ·intro h; exact ⟨h.1, by omega⟩
theorem mem_keys {α : Type} {num : α → Int} {l : List (α × Nat)} (k : Int) : (lookM (keysOf num l) k).isSome = decide (k ∈ (l.map (·.1)).map num) := by
 rw [lookM_isSome]
 simp only [keysOf, List.map_map, Function.comp_def]
/-- What a process waits for, by the maps and by the lists. -/
theorem waitK_is {p : PartD} {ls : List (SemD × Nat)} {le : List (EventD × Nat)} {lb : List (BoardD × Nat)} {lf : List (BufferD × Nat)} (hs : ls.map (·.1) = p.sems) (he : le.map (·.1) = p.events) (hb : lb.map (·.1) = p.boards) (hf : lf.map (·.1) = p.buffers) (x : ProcD) (hx : procB x.toProcP = true) :
  waitK (keysOf (fun x : SemD => x.id) ls) (keysOf (fun x : EventD => x.id) le) (keysOf (fun x : BoardD => x.id) lb) (keysOf (fun x : BufferD => x.id) lf) x = waitB p.pure x.toProcP := by
 have hst : 0 ≤ x.state ∧ x.state ≤ 7 := by
  have h1 : stateB x.toProcP = true := by
   simp only [procB, Bool.and_eq_true] at hx
   exact hx.2
  have h2 : inB x.state 0 7 = true := by
   cases h : inB x.state 0 7 with
   | true => rfl
   | false => rw [stateB_in h] at h1; cases h1
  exact inB_iff.1 h2
 have eF : p.pure.buffers.map (·.id) = p.buffers.map (·.id) := by simp [PartD.pure, Function.comp_def]
 unfold waitK waitB hasB
 simp only [mem_keys, hs, he, hb, hf, eF]
 have e1 : p.pure.sems = p.sems := rfl
 have e2 : p.pure.events = p.events := rfl
 have e3 : p.pure.boards = p.boards := rfl
 rw [e1, e2, e3]
 by_cases h3 : x.state = 3
 ·simp [h3]
 by_cases h4 : x.state = 4
 ·simp [h4]
 by_cases h5 : x.state = 5
 ·simp [h5]
 by_cases h6 : x.state = 6
 ·simp [h6]
 by_cases h7 : x.state = 7
 ·simp [h7]
 have h8 : ¬ 3 ≤ x.state := by omega
 simp [h3, h4, h5, h6, h7, h8]
theorem waits_is {p : PartD} {lp : List (ProcD × Nat)} {ls : List (SemD × Nat)} {le : List (EventD × Nat)} {lb : List (BoardD × Nat)} {lf : List (BufferD × Nat)} (hp : lp.map (·.1) = p.procs) (hs : ls.map (·.1) = p.sems) (he : le.map (·.1) = p.events) (hb : lb.map (·.1) = p.boards) (hf : lf.map (·.1) = p.buffers) (hok : okProc p = true) :
  (lp.all fun q => waitK (keysOf (fun x : SemD => x.id) ls) (keysOf (fun x : EventD => x.id) le) (keysOf (fun x : BoardD => x.id) lb) (keysOf (fun x : BufferD => x.id) lf) q.1) = p.pure.procs.all (waitB p.pure) := by
 have e : p.pure.procs = lp.map fun q => q.1.toProcP := by
  show p.procs.map (·.toProcP) = _
  rw [← hp, List.map_map]
  rfl
 rw [e, List.all_map]
 have hall : ∀ q ∈ lp, procB q.1.toProcP = true := fun q hq => by
  have h1 := ((okProc_iff p).1 hok).1
  refine (things_all h1 q.1.toProcP ?_).2
  rw [e]
  exact List.mem_map.2 ⟨q, hq, rfl⟩
 rw [Bool.eq_iff_iff, List.all_eq_true, List.all_eq_true]
 constructor
 ·intro h q hq
  have := h q hq
  rw [waitK_is hs he hb hf q.1 (hall q hq)] at this
  exact this
 ·intro h q hq
  rw [waitK_is hs he hb hf q.1 (hall q hq)]
  exact h q hq
theorem turns_is {p : PartD} {lp : List (ProcD × Nat)} {next : Int} (hp : lp.map (·.1) = p.procs) : TurnsD next lp ↔ TurnsR next p.pure.procs := by
 have e : p.pure.procs = lp.map fun q => q.1.toProcP := by
  show p.procs.map (·.toProcP) = _
  rw [← hp, List.map_map]
  rfl
 rw [e]
 rfl
theorem open_yes {p : PartD} (h1 : okProc p = true) (h2 : okSem p = true) (h3 : okEvent p = true) (h4 : okBoard p = true) (h5 : okBuffer p = true) (h6 : okPort p = true) (h7 : 1 ≤ p.id ∧ p.id ≤ 6) (h8 : 1 ≤ p.next ∧ p.next ≤ 1000000000) (h9 : TurnsR p.next p.pure.procs) (h10 : p.pure.procs.all (waitB p.pure) = true) : PartR p.pure := by
 rw [okProc_iff] at h1
 rw [okSem_iff] at h2
 rw [okEvent_iff] at h3
 rw [okBoard_iff] at h4
 rw [okBuffer_iff] at h5
 rw [okPort_iff] at h6
 exact (openR_iff _).1 ⟨inB_iff.2 h7, inB_iff.2 h8, h1.2, h2.2, h3.2, h4.2, h5.2, h6.2, h1.1, h2.1, h3.1, h4.1, h5.1, h6.1, h9, h10⟩
theorem open_noProc {p : PartD} (h : okProc p = false) : ¬ PartR p.pure := fun hr => by
 have h0 := (openR_iff _).2 hr
 have := (okProc_iff p).2 ⟨h0.procs, h0.nProc⟩
 rw [h] at this
 cases this
theorem open_noSem {p : PartD} (h : okSem p = false) : ¬ PartR p.pure := fun hr => by
 have h0 := (openR_iff _).2 hr
 have := (okSem_iff p).2 ⟨h0.sems, h0.nSem⟩
 rw [h] at this
 cases this
theorem open_noEvent {p : PartD} (h : okEvent p = false) : ¬ PartR p.pure := fun hr => by
 have h0 := (openR_iff _).2 hr
 have := (okEvent_iff p).2 ⟨h0.events, h0.nEvent⟩
 rw [h] at this
 cases this
theorem open_noBoard {p : PartD} (h : okBoard p = false) : ¬ PartR p.pure := fun hr => by
 have h0 := (openR_iff _).2 hr
 have := (okBoard_iff p).2 ⟨h0.boards, h0.nBoard⟩
 rw [h] at this
 cases this
theorem open_noBuffer {p : PartD} (h : okBuffer p = false) : ¬ PartR p.pure := fun hr => by
 have h0 := (openR_iff _).2 hr
 have := (okBuffer_iff p).2 ⟨h0.buffers, h0.nBuffer⟩
 rw [h] at this
 cases this
theorem open_noPort {p : PartD} (h : okPort p = false) : ¬ PartR p.pure := fun hr => by
 have h0 := (openR_iff _).2 hr
 have := (okPort_iff p).2 ⟨h0.ports, h0.nPort⟩
 rw [h] at this
 cases this
theorem open_noId {p : PartD} (h : ¬ (1 ≤ p.id ∧ p.id ≤ 6)) : ¬ PartR p.pure := fun hr => h (inB_iff.1 hr.id)
theorem open_noNext {p : PartD} (h : ¬ (1 ≤ p.next ∧ p.next ≤ 1000000000)) : ¬ PartR p.pure := fun hr => h (inB_iff.1 hr.next)
theorem open_noTurns {p : PartD} (h : ¬ TurnsR p.next p.pure.procs) : ¬ PartR p.pure := fun hr => h ((openR_iff _).2 hr).turns
theorem open_noWaits {p : PartD} (h : p.pure.procs.all (waitB p.pure) = false) : ¬ PartR p.pure := fun hr => by
 have := ((openR_iff _).2 hr).waits
 rw [h] at this
 cases this
/-- What opening ends in. -/
def OpenEnds (w : World) (p : PartP) (e : Ending) (w' : World) : Prop :=
 Below w.heap.size w w' ∧ ((¬ PartR p ∧ e = .returned (.tuple #[.pointer none, .bool false])) ∨ (PartR p ∧ ∃ o S, e = .returned (.tuple #[.pointer (some ⟨o, 0, none⟩), .bool true]) ∧ OpenAt w' w.heap.size o S ∧ S.pure = p))
end Go.Proofs.YtkbcplnlehdjfaaGreat

/- What the laws' own functions do to lists of things: they measure them, copy them, hold them against each other. What all have in common. -/
namespace Go.Proofs.YtkbcplnlehdjfaaGreat
open Go.RowKit
/-- Values laid over an array from a place on. -/
def setAll (cur : Array Value) (off : Nat) : List Value → Array Value
 | [] => cur
 | v :: r => setAll (cur.setIfInBounds off v) (off + 1) r
theorem setAll_size : ∀ (vs : List Value) (cur : Array Value) (off : Nat), (setAll cur off vs).size = cur.size
 | [], _, _ => rfl
 | v :: r, cur, off => by rw [setAll, setAll_size r]; simp
theorem setAll_low : ∀ (vs : List Value) (cur : Array Value) (off j : Nat), j < off → (setAll cur off vs)[j]? = cur[j]?
 | [], _, _, _, _ => rfl
 | v :: r, cur, off, j, h => by
  rw [setAll, setAll_low r _ _ _ (by omega), Array.getElem?_setIfInBounds_ne (by omega)]
theorem setAll_at : ∀ (vs : List Value) (cur : Array Value) (off j : Nat) (v : Value), off + vs.length ≤ cur.size → vs[j]? = some v → (setAll cur off vs)[off + j]? = some v
 | [], _, _, _, _, _, h => by simp at h
 | u :: r, cur, off, j, v, hl, h => by
  simp only [List.length_cons] at hl
  cases j with
  | zero =>
   simp only [List.getElem?_cons_zero, Option.some.injEq] at h
   subst h
   rw [setAll, setAll_low r _ _ _ (by omega)]
   simp [show off < cur.size by omega]
  | succ j =>
   have h' : r[j]? = some v := by simpa using h
   have := setAll_at r (cur.setIfInBounds off u) (off + 1) j v (by simp; omega) h'
   rw [setAll, show off + (j + 1) = off + 1 + j by omega]
   exact this
theorem setAll_take {vs : List Value} {cur : Array Value} {off : Nat} (hl : off + vs.length ≤ cur.size) : (setAll cur off vs).toList.take (off + vs.length) = cur.toList.take off ++ vs := by
 apply List.ext_getElem?
 intro j
 rw [List.getElem?_take]
 by_cases h1 : j < off
 ·rw [if_pos (by omega), List.getElem?_append_left (by simp; omega), List.getElem?_take, if_pos h1, Array.getElem?_toList, Array.getElem?_toList, setAll_low _ _ _ _ h1]
 ·by_cases h2 : j < off + vs.length
  ·rw [if_pos h2, List.getElem?_append_right (by simp; omega)]
   have e : (cur.toList.take off).length = off := by simp; omega
   rw [e]
   obtain ⟨d, rfl⟩ : ∃ d, j = off + d := ⟨j - off, by omega⟩
   rw [show off + d - off = d by omega, Array.getElem?_toList, List.getElem?_eq_getElem (by omega)]
   exact setAll_at vs cur off d _ hl (List.getElem?_eq_getElem (by omega))
  ·rw [if_neg h2, List.getElem?_eq_none (by simp; omega)]
/-- The same in memory. -/
def setAllW (w : World) (g off : Nat) : List Value → World
 | [] => w
 | v :: r => setAllW (w.setCell ⟨g, off, none⟩ v) g (off + 1) r
theorem setAllW_heap : ∀ (vs : List Value) {w : World} {g off : Nat} {cur : Array Value} {T : TypeId}, w.heap[g]? = some (.cells cur T (0, 0)) → (setAllW w g off vs).heap[g]? = some (.cells (setAll cur off vs) T (0, 0))
 | [], _, _, _, _, _, h => h
 | v :: r, w, g, off, cur, T, h => setAllW_heap r (heap_setCell_same w g off cur T v h)
theorem setAllW_other : ∀ (vs : List Value) {w : World} {g off k : Nat}, ¬ k = g → (setAllW w g off vs).heap[k]? = w.heap[k]?
 | [], _, _, _, _, _ => rfl
 | v :: r, w, _, _, k, h => (setAllW_other r h).trans (Below.heap_setCell w _ v k h)
theorem setAllW_size : ∀ (vs : List Value) {w : World} {g off : Nat}, (setAllW w g off vs).heap.size = w.heap.size
 | [], _, _, _ => rfl
 | v :: r, w, g, off => by rw [setAllW, setAllW_size r]; simp [World.setCell]
theorem setAllW_below : ∀ (vs : List Value) {B : Nat} {w0 w : World} {g off : Nat}, B ≤ g → Below B w0 w → Below B w0 (setAllW w g off vs)
 | [], _, _, _, _, _, _, h => h
 | v :: r, _, _, _, _, _, hB, h => setAllW_below r hB (h.setCell hB v)
theorem setCells_is : ∀ (vs : List Value) (w : World) (g off : Nat), w.setCells g off vs = setAllW w g off vs
 | [], _, _, _ => rfl
 | v :: r, w, g, off => setCells_is r (w.setCell ⟨g, off, none⟩ v) g (off + 1)
theorem setAll_full {vs : List Value} {cur : Array Value} (h : cur.size = vs.length) : setAll cur 0 vs = vs.toArray := by
 have h1 := setAll_take (off := 0) (vs := vs) (cur := cur) (by omega)
 simp only [Nat.zero_add, List.take_zero, List.nil_append] at h1
 have h2 : (setAll cur 0 vs).toList.length = vs.length := by simp [setAll_size, h]
 rw [List.take_of_length_le (by omega)] at h1
 exact (Array.toArray_toList (xs := setAll cur 0 vs)).symm.trans (congrArg List.toArray h1)
theorem setAllW_full {w : World} {g : Nat} {cur : Array Value} {T : TypeId} {vs : List Value} (h : w.heap[g]? = some (.cells cur T (0, 0))) (hs : cur.size = vs.length) : (setAllW w g 0 vs).heap[g]? = some (.cells vs.toArray T (0, 0)) := by
 have := setAllW_heap (off := 0) vs h
 rwa [setAll_full hs] at this
theorem there_of {w : World} {g : Nat} {cur : Array Value} {T : TypeId} {n : Nat} (h : w.heap[g]? = some (.cells cur T (0, 0))) (hs : n ≤ cur.size) : w.there g 0 n := fun j hj => by
 simp only [Nat.zero_add]
 refine ⟨?_, frozen_of_row _ _ _ _ _ h⟩
 rw [cell_of_row _ _ _ _ _ _ h, Array.getElem?_eq_getElem (by omega)]
 rfl
theorem heap_alloc3_new (w : World) (o1 o2 o3 : Obj) : (((w.alloc o1).alloc o2).alloc o3).heap[w.heap.size + 1 + 1]? = some o3 := by
 have := heap_alloc_new ((w.alloc o1).alloc o2) o3
 simpa using this
theorem alloc3_facts (w : World) (o1 o2 o3 : Obj) : (((w.alloc o1).alloc o2).alloc o3).heap[w.heap.size]? = some o1 ∧ (((w.alloc o1).alloc o2).alloc o3).heap[w.heap.size + 1]? = some o2 ∧ (((w.alloc o1).alloc o2).alloc o3).heap[w.heap.size + 1 + 1]? = some o3 ∧ (((w.alloc o1).alloc o2).alloc o3).heap.size = w.heap.size + 1 + 1 + 1 :=
 ⟨by rw [heap_alloc_old _ _ (by simp; omega), heap_alloc_old _ _ (by simp), heap_alloc_new], by rw [heap_alloc_old _ _ (by simp)]; exact heap_alloc2_new _ _ _, heap_alloc3_new _ _ _ _, by simp⟩
theorem alloc3_below (w : World) (o1 o2 o3 : Obj) : Below w.heap.size w (((w.alloc o1).alloc o2).alloc o3) := (((Below.refl _ _).alloc (Nat.le_refl _) _).alloc (by simp) _).alloc (by simp; omega) _
theorem alloc2_facts (w : World) (o1 o2 : Obj) : ((w.alloc o1).alloc o2).heap[w.heap.size]? = some o1 ∧ ((w.alloc o1).alloc o2).heap[w.heap.size + 1]? = some o2 := ⟨(heap_alloc_old _ _ (by simp)).trans (heap_alloc_new _ _), heap_alloc2_new _ _ _⟩
theorem alloc2_below (w : World) (o1 o2 : Obj) : Below w.heap.size w ((w.alloc o1).alloc o2) := ((Below.refl _ _).alloc (Nat.le_refl _) _).alloc (by simp) _
/-- What measuring ends in: what is left; if it is not below 0 all was short, and c of it were counted. -/
def SzEnds (w : World) (left : Int) (c : Nat) (P : Prop) (e : Ending) (w' : World) : Prop := ∃ r : Int, e = .returned (.int .i64 r) ∧ -1 ≤ r ∧ r ≤ left ∧ (0 ≤ r → P ∧ r + c ≤ left) ∧ Below w.heap.size w w'
theorem szEnds_no {w w' : World} {left : Int} {c : Nat} {P : Prop} (h : Below w.heap.size w w') (h0 : 0 ≤ left) : SzEnds w left c P (.returned (.int .i64 (-1))) w' := ⟨-1, rfl, by omega, by omega, fun h => absurd h (by omega), h⟩
def sumL {α : Type} (c : α → Nat) (l : List α) : Nat := (l.map c).sum
theorem sumL_up {α : Type} {c : α → Nat} {l : List α} {k : Nat} {x : α} (hx : l[k]? = some x) : sumL c (l.take (k + 1)) = sumL c (l.take k) + c x := by
 rw [take_up hx]
 simp [sumL]
section
variable {α : Type}
theorem all_up {P : α → Prop} {l : List α} {k : Nat} {x : α} (hx : l[k]? = some x) (h : ∀ y ∈ l.take k, P y) (hp : P x) : ∀ y ∈ l.take (k + 1), P y := fun y hy => by
 rw [take_up hx] at hy
 rcases List.mem_append.1 hy with hy | hy
 ·exact h y hy
 ·simp only [List.mem_cons, List.not_mem_nil, or_false] at hy
  subst hy
  exact hp
theorem all_end {P : α → Prop} {l : List α} {k : Nat} (hk : l.length ≤ k) (h : ∀ y ∈ l.take k, P y) : ∀ y ∈ l, P y := by rwa [List.take_of_length_le hk] at h
/-- A row that is filled one by one: the first ones are there. -/
structure Fill (K : Kind α) (T : TypeId) (w wr : World) (len : Nat) (out : List α) : Prop where
 row : ∃ cur : Array Value, wr.heap[w.heap.size]? = some (.cells cur T (0, 0)) ∧ cur.size = len * K.n ∧ cur.toList.take (out.length * K.n) = K.flat out
 bel : Below w.heap.size w wr
variable {K : Kind α} {T : TypeId} {w wr w' : World} {len : Nat} {out : List α}
theorem Fill.start {cs : Array Value} (hs : cs.size = len * K.n) : Fill K T w (w.alloc (.cells cs T)) len [] :=
 ⟨⟨cs, heap_alloc_new _ _, hs, by simp [Kind.flat]⟩, (Below.refl _ _).alloc (Nat.le_refl _) _⟩
theorem Fill.below (h : Fill K T w wr len out) (hb : Below wr.heap.size wr w') : Fill K T w w' len out := by
 obtain ⟨cur, h1, h2⟩ := h.row
 exact ⟨⟨cur, (hb.block _ (Array.getElem?_eq_some_iff.1 h1).1).trans h1, h2⟩, h.bel.trans (hb.mono h.bel.size)⟩
theorem Fill.at (h : Fill K T w wr len out) : (∃ u : Nat → Value, ∀ j, j < len * K.n → wr.cell? ⟨w.heap.size, j, none⟩ = some (u j)) ∧ ∀ j, wr.frozen? ⟨w.heap.size, j, none⟩ = false := by
 obtain ⟨cur, h1, h2, h3⟩ := h.row
 refine ⟨⟨fun j => cur.getD j undef, fun j hj => ?_⟩, fun j => frozen_of_row _ _ _ _ _ h1⟩
 rw [cell_of_row _ _ _ _ _ _ h1]
 simp [Array.getD, show j < cur.size by omega]
theorem Fill.lt (h : Fill K T w wr len out) : w.heap.size < wr.heap.size := by
 obtain ⟨cur, h1, _⟩ := h.row
 exact (Array.getElem?_eq_some_iff.1 h1).1
/-- One more. -/
theorem Fill.more (h : Fill K T w wr len out) (hl : out.length < len) (x : α) : Fill K T w (setAllW wr w.heap.size (out.length * K.n) (K.vals x)) len (out ++ [x]) := by
 obtain ⟨cur, h1, h2, h3⟩ := h.row
 have hle : out.length * K.n + (K.vals x).length ≤ cur.size := by
  rw [K.len, h2, ← Nat.succ_mul]
  exact Nat.mul_le_mul_right _ hl
 refine ⟨⟨_, setAllW_heap _ h1, by rw [setAll_size, h2], ?_⟩, setAllW_below _ (Nat.le_refl _) h.bel⟩
 have := setAll_take hle
 rw [K.len, ← Nat.succ_mul] at this
 rw [List.length_append, List.length_singleton]
 refine this.trans ?_
 rw [h3, K.flat_append, K.flat_one]
theorem Fill.done (h : Fill K T w wr len out) (hl : out.length = len) (hm : len ≤ maxLen) : wr.ownsRow w.heap.size T K.n (.slice (some ⟨w.heap.size, 0, none⟩) len len) len (K.flat out) := by
 obtain ⟨cur, h1, h2, h3⟩ := h.row
 subst hl
 exact ⟨K.flat_length out, .inr ⟨w.heap.size, out.length, cur, rfl, Nat.le_refl _, h1, Nat.le_refl _, hm, h2, h3⟩⟩
end
theorem below_drewN' {B : Nat} {w w' : World} (h : Below B w w') (n : Nat) : Below B w (w'.drewN n) := ⟨h.os, h.tape, h.output, h.size, h.block⟩
theorem map_same {α β : Type} {f : α → β} {l l' : List α} {k : Nat} {x : α} (h : l'.map f = l.map f) (hx : l[k]? = some x) : ∃ y, l'[k]? = some y ∧ f y = f x := by
 have h1 : (l'.map f)[k]? = (l.map f)[k]? := by rw [h]
 rw [List.getElem?_map, List.getElem?_map, hx] at h1
 obtain ⟨y, hy, e⟩ := Option.map_eq_some_iff.1 h1
 exact ⟨y, hy, e⟩
/-- A list of things that have lists is copied: the copies' lists are their own. -/
structure CopyIs {α : Type} (N : Nest α) (K : Kind α) (w w' : World) (len : Nat) (l out : List α) : Prop where
 row : w'.ownsRow w.heap.size N.T K.n (.slice (some ⟨w.heap.size, 0, none⟩) len len) len (K.flat out)
 alike : out.map (fun x => N.set x none 0) = l.map (fun x => N.set x none 0)
 mine : ∀ x ∈ out, N.Mine w' (w.heap.size + 1) x
 nodup : (out.filterMap N.kid).Nodup
 bel : Below w.heap.size w w'
structure FillN {α : Type} (N : Nest α) (K : Kind α) (w wr : World) (l out : List α) (k : Nat) : Prop where
 fill : Fill K N.T w wr l.length out
 len : out.length = k
 alike : out.map (fun x => N.set x none 0) = (l.take k).map (fun x => N.set x none 0)
 mine : ∀ x ∈ out, N.Mine wr (w.heap.size + 1) x
 nodup : (out.filterMap N.kid).Nodup
section
variable {α : Type} {N : Nest α} {K : Kind α} {w wr w' : World} {l out : List α} {k : Nat}
theorem FillN.start (h : Fill K N.T w wr l.length []) : FillN N K w wr l [] 0 := ⟨h, rfl, rfl, (fun x hx => by cases hx), List.nodup_nil⟩
theorem FillN.below (h : FillN N K w wr l out k) (hb : Below wr.heap.size wr w') : FillN N K w w' l out k :=
 ⟨h.fill.below hb, h.len, h.alike, fun x hx => (h.mine x hx).same fun g hg => hb.block g ((h.mine x hx).lt hg).2, h.nodup⟩
theorem FillN.more {x : α} {a : Option Addr} {c : Nat} (h : FillN N K w w' l out k) (hlt : k < l.length) (hx : l[k]? = some x) (hm : N.Mine w' (w.heap.size + 1) (N.set x a c)) (hk : ∀ g, N.kid (N.set x a c) = some g → wr.heap.size ≤ g) (hr : FillN N K w wr l out k) :
  FillN N K w (setAllW w' w.heap.size (k * K.n) (K.vals (N.set x a c))) l (out ++ [N.set x a c]) (k + 1) := by
 have hf := h.fill.more (by rw [h.len]; exact hlt) (N.set x a c)
 rw [h.len] at hf
 refine ⟨hf, by rw [List.length_append, h.len]; rfl, ?_, fun y hy => ?_, ?_⟩
 ·rw [take_up hx, List.map_append, List.map_append, h.alike]
  simp [N.set_set]
 ·have hmy : N.Mine w' (w.heap.size + 1) y := by
   rcases List.mem_append.1 hy with hy | hy
   ·exact h.mine y hy
   ·simp only [List.mem_cons, List.not_mem_nil, or_false] at hy
    subst hy
    exact hm
  exact hmy.same fun g hg => setAllW_other _ (by have := (hmy.lt hg).1; omega)
 ·rw [List.filterMap_append, List.nodup_append]
  refine ⟨h.nodup, ?_, fun g hg g' hg' e => ?_⟩
  ·simp only [List.filterMap_cons, List.filterMap_nil]
   split <;> simp
  ·obtain ⟨y, hy, hky⟩ := List.mem_filterMap.1 hg
   obtain ⟨z, hz, hkz⟩ := List.mem_filterMap.1 hg'
   simp only [List.mem_cons, List.not_mem_nil, or_false] at hz
   subst hz
   have h1 := ((hr.mine y hy).lt hky).2
   have h2 := hk g' hkz
   omega
theorem FillN.done (h : FillN N K w wr l out l.length) (hm : l.length ≤ maxLen) : CopyIs N K w wr l.length l out := by
 refine ⟨h.fill.done h.len hm, ?_, h.mine, h.nodup, h.fill.bel⟩
 have := h.alike
 rwa [List.take_length] at this
end
theorem own_row {w : World} {base n size cap : Nat} {e : TypeId} {a : Option Addr} {xs : List Value} (h : w.ownsRow base e size (.slice a n cap) n xs) : Row w a xs := by
 obtain ⟨a', cap', e', hr⟩ := own_form h
 simp only [Value.slice.injEq] at e'
 rw [e'.1]
 exact hr
theorem own_below {w w' : World} {base n size cap : Nat} {e : TypeId} {a : Option Addr} {xs : List Value} (h : w.ownsRow base e size (.slice a n cap) n xs) (hb : Below w.heap.size w w') : w'.ownsRow base e size (.slice a n cap) n xs := by
 obtain ⟨hl, h2⟩ := h
 refine ⟨hl, ?_⟩
 rcases h2 with h2 | ⟨g, c, cur, hv, h1, hg, r⟩
 ·exact .inl h2
 ·exact .inr ⟨g, c, cur, hv, h1, (hb.block g (Array.getElem?_eq_some_iff.1 hg).1).trans hg, r⟩
end Go.Proofs.YtkbcplnlehdjfaaGreat

/- Laying a thing in: the five ways. -/
namespace Go.Proofs.YtkbcplnlehdjfaaGreat
open Go.RowKit
theorem layB_of {most : Int} {m : MapL} {id : Int} {ok vA vB vC vD : Bool} (hA : (lookM m id).isSome = vA) (hB : decide (most ≤ (m.length : Int)) = vB) (hC : inB id 1 1000 = vC) (hD : ok = vD) : layB most m id ok = (!vA && !vB && vC && vD) := by
 subst hA hB hC hD
 have e : decide ((m.length : Int) < most) = !decide (most ≤ (m.length : Int)) := by
  by_cases h : most ≤ (m.length : Int)
  ·simp [h]
  ·simp [h, Int.not_le.1 h]
 simp [layB, e]
end Go.Proofs.YtkbcplnlehdjfaaGreat
