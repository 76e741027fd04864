/- What the proof leans on, part 1: KdProc0, OpenB, KdBuffer, KdPort, KdSem, KdEvent, KdBoard, OwnI, TameY, HasW, StProc, KdProc, AlProc, WaitsI, TurnsI, PSpec1, OpenA, LwB, LyB, LyProc, SoProc, LySem, SoSem, LyEvent. -/
import Derived.Deep.MidRow
import Derived.Test.YtkbcplnlehdjfaaGreatOwnQ0

namespace Go.Proofs.YtkbcplnlehdjfaaGreat
open Go.RowKit
attribute [local go_sem ↓] Go.wp_at_zero Go.wp_at_succ

def procVs (x : ProcD) : Array Value := #[.int .i64 x.id, .int .i64 x.prio, .slice x.progA x.prog.length x.progC, .int .i64 x.state, .int .i64 x.pc, .int .i64 x.left, .int .i64 x.wake, .int .i64 x.on, .string x.held, .string x.got, .int .i64 x.code, .int .i64 x.since]
/-- Its lists lie, and nothing of it is too long for a machine. -/
def ProcFit (w : World) (x : ProcD) : Prop := x.Short ∧ Row w x.progA (opK.flat x.prog)
theorem ProcFit.below {w w' : World} {x : ProcD} (h : ProcFit w x) (hb : Below w.heap.size w w') : ProcFit w' x := ⟨h.1, h.2.below hb⟩
theorem proc_cells {W : World} {X : Nat} {x : ProcD} (h : W.heap[X]? = some (.cells (procVs x) 43 (0, 0))) : W.cell? ⟨X, 0, none⟩ = some (.int .i64 x.id) ∧ W.cell? ⟨X, 1, none⟩ = some (.int .i64 x.prio) ∧ W.cell? ⟨X, 2, none⟩ = some (.slice x.progA x.prog.length x.progC) ∧ W.cell? ⟨X, 3, none⟩ = some (.int .i64 x.state) ∧ W.cell? ⟨X, 4, none⟩ = some (.int .i64 x.pc) ∧ W.cell? ⟨X, 5, none⟩ = some (.int .i64 x.left) ∧ W.cell? ⟨X, 6, none⟩ = some (.int .i64 x.wake) ∧ W.cell? ⟨X, 7, none⟩ = some (.int .i64 x.on) ∧ W.cell? ⟨X, 8, none⟩ = some (.string x.held) ∧ W.cell? ⟨X, 9, none⟩ = some (.string x.got) ∧ W.cell? ⟨X, 10, none⟩ = some (.int .i64 x.code) ∧ W.cell? ⟨X, 11, none⟩ = some (.int .i64 x.since) := by
 unfold procVs at h
 simp [World.cell?, h]

set_option maxHeartbeats 400000 in
theorem numberProc_any (x : ProcD) (w : World) : Calls Tryz.prog 282 #[.agg (procVs x)] w fun e w' => e = .returned (.int .i64 x.id) ∧ Below w.heap.size w w' := by
 unfold procVs
 go_enter Tryz.func282, Tryz.ntmps282
 go_wp2
 go_ret
 exact ⟨rfl, (Below.refl _ _).alloc (Nat.le_refl _) _⟩

theorem meth_numberProc (v : Value) (w : World) : Sem.run Tryz.prog (method 440 43 v "loop.example/g00313/impl.number") w = .ok (282, v) w := by kernel_rfl
theorem meth_rightProc (v : Value) (w : World) : Sem.run Tryz.prog (method 440 43 v "loop.example/g00313/impl.right") w = .ok (283, v) w := by kernel_rfl
theorem zeroPtrProc (w : World) : (zeroValue 102).run Tryz.prog w = .ok (.pointer none) w := by kernel_rfl
set_option maxHeartbeats 1000000 in
theorem hasProc_any (most : Int) (b : Nat) (m : MapL) (id : Int) (w : World) (h : MapIs w b m) (hw : (Lit.int .i64 id).wf = true) :
  Calls Tryz.prog 163 #[.agg #[.int .i64 most, .map (some b)], .int .i64 id] w fun e w' => e = .returned (.bool (lookM m id).isSome) ∧ Below w.heap.size w w' := by
 have hlk := (h.below ((Below.refl _ w).alloc (Nat.le_refl _) (.cells #[.int .i64 most, .map (some b)] 110))).look Tryz.underlying108 (zeroPtrProc _) hw true
 simp only [if_true] at hlk
 clear h hw
 go_enter Tryz.func163, Tryz.ntmps163
 go_wp2
 go_ret
 exact ⟨rfl, (Below.refl _ _).alloc (Nat.le_refl _) _⟩

set_option maxHeartbeats 1000000 in
theorem isWake_any (t : Int) (w : World) : Calls Tryz.prog 289 #[.int .i64 t] w fun e w' => e = .returned (.bool (inB t 1 2000000000)) ∧ w' = w := by
 by_cases h1 : 1 ≤ t
 ·by_cases h2 : t ≤ 2000000000
  ·go_enter Tryz.func289, Tryz.ntmps289
   go_wp2
   go_ret
   exact ⟨ret_bool (inB_true h1 h2).symm, rfl⟩
  ·go_enter Tryz.func289, Tryz.ntmps289
   go_wp2
   go_ret
   exact ⟨ret_bool (inB_high (by omega)).symm, rfl⟩
 ·go_enter Tryz.func289, Tryz.ntmps289
  go_wp2
  go_ret
  exact ⟨ret_bool (inB_low (by omega)).symm, rfl⟩

set_option maxHeartbeats 1000000 in
theorem hasOp_any (x : ProcD) (w : World) (hl : x.prog.length ≤ 1048576) : Calls Tryz.prog 229 #[.agg (procVs x)] w fun e w' => e = .returned (.bool (hasOpB x.toProcP)) ∧ Below w.heap.size w w' := by
 unfold procVs
 have e1 : wrap64 (x.prog.length : Int) = x.prog.length := by unfold wrap64; omega
 by_cases h1 : 0 ≤ x.pc
 ·by_cases h2 : x.pc < (x.prog.length : Int)
  ·have HV : Hid (hasOpB x.toProcP = true) := inB_true h1 (by omega)
   go_enter Tryz.func229, Tryz.ntmps229
   go_wp2
   go_ret
   exact ⟨ret_bool HV.out.symm, (Below.refl _ _).alloc (Nat.le_refl _) _⟩
  ·have HV : Hid (hasOpB x.toProcP = false) := inB_high (by omega)
   go_enter Tryz.func229, Tryz.ntmps229
   go_wp2
   go_ret
   exact ⟨ret_bool HV.out.symm, (Below.refl _ _).alloc (Nat.le_refl _) _⟩
 ·have HV : Hid (hasOpB x.toProcP = false) := inB_low (by omega)
  go_enter Tryz.func229, Tryz.ntmps229
  go_wp2
  go_ret
  exact ⟨ret_bool HV.out.symm, (Below.refl _ _).alloc (Nat.le_refl _) _⟩

theorem hasOp_get {x : ProcP} (h : hasOpB x = true) : ∃ k : Nat, x.pc = k ∧ k < x.prog.length ∧ x.prog[k]? = some (opAt x) := by
 have := inB_iff.1 h
 refine ⟨x.pc.toNat, by omega, by omega, ?_⟩
 unfold opAt
 rw [List.getElem?_eq_getElem (by omega)]
 rfl

set_option maxHeartbeats 2000000 in
theorem leftOk_any (x : ProcD) (w : World) (hf : ProcFit w x) (h : hasOpB x.toProcP = true) : Calls Tryz.prog 288 #[.agg (procVs x)] w fun e w' => e = .returned (.bool (leftB x.toProcP)) ∧ Below w.heap.size w w' := by
 obtain ⟨k, hk, hkl, hop⟩ := hasOp_get h
 have b1 : Below w.heap.size w (w.alloc (.cells (procVs x) 43)) := (Below.refl _ _).alloc (Nat.le_refl _) _
 obtain ⟨g, hg, c0, c1, c2, c3⟩ := op_at (hf.2.below b1) hop
 have HL : Hid (leftB x.toProcP = if (opAt x.toProcP).1 = 1 then decide (0 ≤ x.left) && decide (x.left < (opAt x.toProcP).2.1) else decide (x.left = 0)) := rfl
 have i0 : (0 : Int) ≤ (k : Int) := by omega
 have i1 : (k : Int) < (x.prog.length : Int) := by omega
 clear h hop hf
 generalize opAt x.toProcP = o at *
 obtain ⟨⟨id, prio, prog, state, pc, left, wake, on, held, got, code, since⟩, progA, progC⟩ := x
 simp only at hk hg i1 HL
 subst hk hg
 unfold procVs at *
 simp only at *
 by_cases h1 : o.1 = 1
 ·have HL1 : Hid (leftB ⟨id, prio, prog, state, k, left, wake, on, held, got, code, since⟩ = (decide (0 ≤ left) && decide (left < o.2.1))) := HL.out.trans (if_pos h1)
  have h1' : (o.1 == 1) = true := by simp [h1]
  clear h1 HL
  by_cases h2 : 0 ≤ left
  ·by_cases h3 : left < o.2.1
   all_goals
    go_enter Tryz.func288, Tryz.ntmps288
    go_wp2
    go_ret
    exact ⟨ret_bool (by rw [HL1.out]; simp [h2, h3]), by go_grown⟩
  ·go_enter Tryz.func288, Tryz.ntmps288
   go_wp2
   go_ret
   exact ⟨ret_bool (by rw [HL1.out, decide_eq_false (by omega)]; rfl), by go_grown⟩
 ·have HL1 : Hid (leftB ⟨id, prio, prog, state, k, left, wake, on, held, got, code, since⟩ = decide (left = 0)) := HL.out.trans (if_neg h1)
  have h1' : (o.1 == 1) = false := by simp [h1]
  clear h1 HL
  go_enter Tryz.func288, Tryz.ntmps288
  go_wp2
  go_ret
  exact ⟨ret_bool (by rw [HL1.out]; by_cases h : left = 0 <;> simp [h]), by go_grown⟩


end Go.Proofs.YtkbcplnlehdjfaaGreat

/- An open partition's own block. -/
namespace Go.Proofs.YtkbcplnlehdjfaaGreat
open Go.RowKit

/-- The numbers of an open partition, and the blocks of its maps. -/
structure Opn where
 id : Int
 next : Int
 bp : Nat
 bs : Nat
 be : Nat
 bb : Nat
 bf : Nat
 bq : Nat
def Opn.cells (q : Opn) : Array Value := #[.int .i64 q.id, .int .i64 q.next, .int .i64 6, .map (some q.bp), .int .i64 5, .map (some q.bs), .int .i64 5, .map (some q.be), .int .i64 5, .map (some q.bb), .int .i64 5, .map (some q.bf), .int .i64 5, .map (some q.bq)]
def OpenBox (W : World) (o : Nat) (q : Opn) : Prop := W.heap[o]? = some (.cells q.cells 127 (0, 0))
theorem OpenBox.below {W W' : World} {o : Nat} {q : Opn} (h : OpenBox W o q) (hb : Below W.heap.size W W') : OpenBox W' o q := (hb.block o (Array.getElem?_eq_some_iff.1 h).1).trans h
theorem OpenBox.cell {W : World} {o : Nat} {q : Opn} (h : OpenBox W o q) (i : Nat) : W.cell? ⟨o, i, none⟩ = q.cells[i]? := by
 unfold OpenBox at h
 simp [World.cell?, h]

/-- What is there while it is asked what a process waits for. -/
structure HasIn (w W : World) (o X : Nat) (q : Opn) (x : ProcD) (ms me mb mf : MapL) : Prop where
 opn : OpenBox W o q
 box : W.heap[X]? = some (.cells (procVs x) 43 (0, 0))
 ms : MapIs W q.bs ms
 me : MapIs W q.be me
 mb : MapIs W q.bb mb
 mf : MapIs W q.bf mf
 bel : Below w.heap.size w W
theorem HasIn.below {w W W' : World} {o X : Nat} {q : Opn} {x : ProcD} {ms me mb mf : MapL} (h : HasIn w W o X q x ms me mb mf) (hb : Below W.heap.size W W') : HasIn w W' o X q x ms me mb mf :=
 ⟨h.opn.below hb, (hb.block _ (Array.getElem?_eq_some_iff.1 h.box).1).trans h.box, h.ms.below hb, h.me.below hb, h.mb.below hb, h.mf.below hb, h.bel.trans (hb.mono h.bel.size)⟩
theorem HasIn.drew {w W : World} {o X : Nat} {q : Opn} {x : ProcD} {ms me mb mf : MapL} (h : HasIn w W o X q x ms me mb mf) : HasIn w W.drew o X q x ms me mb mf := h.below (Below.refl _ _).drew
/-- Whether there is what a process waits for, by the keys of the maps. -/
def waitK (ms me mb mf : MapL) (x : ProcD) : Bool :=
 if x.state = 3 then (lookM ms x.on).isSome else if x.state = 4 then (lookM me x.on).isSome else if x.state = 5 ∨ x.state = 6 then (lookM mf x.on).isSome else if x.state = 7 then (lookM mb x.on).isSome else true

end Go.Proofs.YtkbcplnlehdjfaaGreat

/- The things of the kind Buffer, and their shelf: what each method does. (Made by mkshelf.py.) -/
namespace Go.Proofs.YtkbcplnlehdjfaaGreat
open Go.RowKit
attribute [local go_sem ↓] Go.wp_at_zero Go.wp_at_succ

def bufferVs (x : BufferD) : Array Value := #[.int .i64 x.id, .int .i64 x.max, .slice x.itemsA x.items.length x.itemsC]
/-- Its lists lie, and nothing of it is too long for a machine. -/
def BufferFit (w : World) (x : BufferD) : Prop := TextsFit w x.itemsA x.items
theorem BufferFit.below {w w' : World} {x : BufferD} (h : BufferFit w x) (hb : Below w.heap.size w w') : BufferFit w' x := TextsFit.below h hb
theorem buffer_cells {W : World} {X : Nat} {x : BufferD} (h : W.heap[X]? = some (.cells (bufferVs x) 144 (0, 0))) : W.cell? ⟨X, 0, none⟩ = some (.int .i64 x.id) ∧ W.cell? ⟨X, 1, none⟩ = some (.int .i64 x.max) ∧ W.cell? ⟨X, 2, none⟩ = some (.slice x.itemsA x.items.length x.itemsC) := by
 unfold bufferVs at h
 simp [World.cell?, h]

set_option maxHeartbeats 400000 in
theorem numberBuffer_any (x : BufferD) (w : World) : Calls Tryz.prog 313 #[.agg (bufferVs x)] w fun e w' => e = .returned (.int .i64 x.id) ∧ Below w.heap.size w w' := by
 unfold bufferVs
 go_enter Tryz.func313, Tryz.ntmps313
 go_wp2
 go_ret
 exact ⟨rfl, (Below.refl _ _).alloc (Nat.le_refl _) _⟩

theorem meth_numberBuffer (v : Value) (w : World) : Sem.run Tryz.prog (method 440 144 v "loop.example/g00313/impl.number") w = .ok (313, v) w := by kernel_rfl
theorem meth_rightBuffer (v : Value) (w : World) : Sem.run Tryz.prog (method 440 144 v "loop.example/g00313/impl.right") w = .ok (314, v) w := by kernel_rfl
theorem zeroPtrBuffer (w : World) : (zeroValue 224).run Tryz.prog w = .ok (.pointer none) w := by kernel_rfl
set_option maxHeartbeats 1000000 in
theorem hasBuffer_any (most : Int) (b : Nat) (m : MapL) (id : Int) (w : World) (h : MapIs w b m) (hw : (Lit.int .i64 id).wf = true) :
  Calls Tryz.prog 178 #[.agg #[.int .i64 most, .map (some b)], .int .i64 id] w fun e w' => e = .returned (.bool (lookM m id).isSome) ∧ Below w.heap.size w w' := by
 have hlk := (h.below ((Below.refl _ w).alloc (Nat.le_refl _) (.cells #[.int .i64 most, .map (some b)] 122))).look Tryz.underlying120 (zeroPtrBuffer _) hw true
 simp only [if_true] at hlk
 clear h hw
 go_enter Tryz.func178, Tryz.ntmps178
 go_wp2
 go_ret
 exact ⟨rfl, (Below.refl _ _).alloc (Nat.le_refl _) _⟩

set_option maxHeartbeats 1000000 in
theorem rightBuffer_any (x : BufferD) (w : World) (hf : BufferFit w x) : Calls Tryz.prog 314 #[.agg (bufferVs x)] w fun e w' => e = .returned (.bool (bufferB x.toBufferP)) ∧ Below w.heap.size w w' := by
 have HF : Hid (BufferFit w x) := hf
 clear hf
 unfold bufferVs
 go_enter Tryz.func314, Tryz.ntmps314
 go_wp2_with fail
 refine (itemsOk_any x.itemsA x.items x.itemsC x.max _ (TextsFit.below HF.out ((Below.refl _ _).alloc (Nat.le_refl _) _))).mono ?_
 rintro e w1 ⟨rfl, hw1⟩
 subst hw1
 go_wp2
 go_ret
 exact ⟨rfl, (Below.refl _ _).alloc (Nat.le_refl _) _⟩

end Go.Proofs.YtkbcplnlehdjfaaGreat

/- The things of the kind Port, and their shelf: what each method does. (Made by mkshelf.py.) -/
namespace Go.Proofs.YtkbcplnlehdjfaaGreat
open Go.RowKit
attribute [local go_sem ↓] Go.wp_at_zero Go.wp_at_succ

def portVs (x : PortD) : Array Value := #[.int .i64 x.id, .bool x.out, .bool x.queue, .int .i64 x.max, .slice x.itemsA x.items.length x.itemsC]
/-- Its lists lie, and nothing of it is too long for a machine. -/
def PortFit (w : World) (x : PortD) : Prop := TextsFit w x.itemsA x.items
theorem PortFit.below {w w' : World} {x : PortD} (h : PortFit w x) (hb : Below w.heap.size w w') : PortFit w' x := TextsFit.below h hb
theorem port_cells {W : World} {X : Nat} {x : PortD} (h : W.heap[X]? = some (.cells (portVs x) 61 (0, 0))) : W.cell? ⟨X, 0, none⟩ = some (.int .i64 x.id) ∧ W.cell? ⟨X, 1, none⟩ = some (.bool x.out) ∧ W.cell? ⟨X, 2, none⟩ = some (.bool x.queue) ∧ W.cell? ⟨X, 3, none⟩ = some (.int .i64 x.max) ∧ W.cell? ⟨X, 4, none⟩ = some (.slice x.itemsA x.items.length x.itemsC) := by
 unfold portVs at h
 simp [World.cell?, h]

set_option maxHeartbeats 400000 in
theorem numberPort_any (x : PortD) (w : World) : Calls Tryz.prog 297 #[.agg (portVs x)] w fun e w' => e = .returned (.int .i64 x.id) ∧ Below w.heap.size w w' := by
 unfold portVs
 go_enter Tryz.func297, Tryz.ntmps297
 go_wp2
 go_ret
 exact ⟨rfl, (Below.refl _ _).alloc (Nat.le_refl _) _⟩

theorem meth_numberPort (v : Value) (w : World) : Sem.run Tryz.prog (method 440 61 v "loop.example/g00313/impl.number") w = .ok (297, v) w := by kernel_rfl
theorem meth_rightPort (v : Value) (w : World) : Sem.run Tryz.prog (method 440 61 v "loop.example/g00313/impl.right") w = .ok (298, v) w := by kernel_rfl
theorem zeroPtrPort (w : World) : (zeroValue 225).run Tryz.prog w = .ok (.pointer none) w := by kernel_rfl
set_option maxHeartbeats 1000000 in
theorem hasPort_any (most : Int) (b : Nat) (m : MapL) (id : Int) (w : World) (h : MapIs w b m) (hw : (Lit.int .i64 id).wf = true) :
  Calls Tryz.prog 179 #[.agg #[.int .i64 most, .map (some b)], .int .i64 id] w fun e w' => e = .returned (.bool (lookM m id).isSome) ∧ Below w.heap.size w w' := by
 have hlk := (h.below ((Below.refl _ w).alloc (Nat.le_refl _) (.cells #[.int .i64 most, .map (some b)] 125))).look Tryz.underlying123 (zeroPtrPort _) hw true
 simp only [if_true] at hlk
 clear h hw
 go_enter Tryz.func179, Tryz.ntmps179
 go_wp2
 go_ret
 exact ⟨rfl, (Below.refl _ _).alloc (Nat.le_refl _) _⟩

set_option maxHeartbeats 1000000 in
theorem rightPort_any (x : PortD) (w : World) (hf : PortFit w x) : Calls Tryz.prog 298 #[.agg (portVs x)] w fun e w' => e = .returned (.bool (portB x.toPortP)) ∧ Below w.heap.size w w' := by
 have HF : Hid (PortFit w x) := hf
 clear hf
 obtain ⟨⟨id, out, queue, max, items⟩, itemsA, itemsC⟩ := x
 unfold portVs
 cases hp : (inB max 1 5 && textsB items max) with
 | false =>
  have HP : Hid ((inB max 1 5 && textsB items max) = false) := hp
  clear hp
  go_enter Tryz.func298, Tryz.ntmps298
  go_wp2_with fail
  refine (itemsOk_any itemsA items itemsC max _ (TextsFit.below HF.out ((Below.refl _ _).alloc (Nat.le_refl _) _))).mono ?_
  rintro e w1 ⟨rfl, hw1⟩
  rw [HP.out]
  subst hw1
  go_wp2
  go_ret
  exact ⟨ret_bool (portB_false HP.out).symm, (Below.refl _ _).alloc (Nat.le_refl _) _⟩
 | true =>
  have HP : Hid ((inB max 1 5 && textsB items max) = true) := hp
  clear hp
  by_cases h1 : max = 1
  all_goals
   have HM : Hid (decide (max = 1) = (max == 1)) := by show decide (max = 1) = (max == 1); by_cases h : max = 1 <;> simp [h]
   have h1' : (max == 1) = decide (max = 1) := HM.out.symm
   cases queue
  all_goals
   have HV : Hid (∀ q, portB ⟨id, out, q, max, items⟩ = (q || decide (max = 1))) := portB_true HP.out
   simp only [h1, decide_true, decide_false] at h1'
   clear h1
   go_enter Tryz.func298, Tryz.ntmps298
   go_wp2_with fail
   refine (itemsOk_any itemsA items itemsC max _ (TextsFit.below HF.out ((Below.refl _ _).alloc (Nat.le_refl _) _))).mono ?_
   rintro e w1 ⟨rfl, hw1⟩
   rw [HP.out]
   subst hw1
   go_wp2
   go_ret
   exact ⟨ret_bool (by rw [HV.out, HM.out]; simp [h1']), (Below.refl _ _).alloc (Nat.le_refl _) _⟩

end Go.Proofs.YtkbcplnlehdjfaaGreat

/- The things of the kind Sem, and their shelf: what each method does. (Made by mkshelf.py.) -/
namespace Go.Proofs.YtkbcplnlehdjfaaGreat
open Go.RowKit
attribute [local go_sem ↓] Go.wp_at_zero Go.wp_at_succ

def semVs (x : SemD) : Array Value := #[.int .i64 x.id, .int .i64 x.n, .int .i64 x.max]
/-- Its lists lie, and nothing of it is too long for a machine. -/
def SemFit (_ : World) (_ : SemD) : Prop := True
theorem SemFit.below {w w' : World} {x : SemD} (_ : SemFit w x) (_ : Below w.heap.size w w') : SemFit w' x := trivial
theorem sem_cells {W : World} {X : Nat} {x : SemD} (h : W.heap[X]? = some (.cells (semVs x) 49 (0, 0))) : W.cell? ⟨X, 0, none⟩ = some (.int .i64 x.id) ∧ W.cell? ⟨X, 1, none⟩ = some (.int .i64 x.n) ∧ W.cell? ⟨X, 2, none⟩ = some (.int .i64 x.max) := by
 unfold semVs at h
 simp [World.cell?, h]

set_option maxHeartbeats 400000 in
theorem numberSem_any (x : SemD) (w : World) : Calls Tryz.prog 294 #[.agg (semVs x)] w fun e w' => e = .returned (.int .i64 x.id) ∧ Below w.heap.size w w' := by
 unfold semVs
 go_enter Tryz.func294, Tryz.ntmps294
 go_wp2
 go_ret
 exact ⟨rfl, (Below.refl _ _).alloc (Nat.le_refl _) _⟩

theorem meth_numberSem (v : Value) (w : World) : Sem.run Tryz.prog (method 440 49 v "loop.example/g00313/impl.number") w = .ok (294, v) w := by kernel_rfl
theorem meth_rightSem (v : Value) (w : World) : Sem.run Tryz.prog (method 440 49 v "loop.example/g00313/impl.right") w = .ok (295, v) w := by kernel_rfl
theorem zeroPtrSem (w : World) : (zeroValue 221).run Tryz.prog w = .ok (.pointer none) w := by kernel_rfl
set_option maxHeartbeats 1000000 in
theorem hasSem_any (most : Int) (b : Nat) (m : MapL) (id : Int) (w : World) (h : MapIs w b m) (hw : (Lit.int .i64 id).wf = true) :
  Calls Tryz.prog 175 #[.agg #[.int .i64 most, .map (some b)], .int .i64 id] w fun e w' => e = .returned (.bool (lookM m id).isSome) ∧ Below w.heap.size w w' := by
 have hlk := (h.below ((Below.refl _ w).alloc (Nat.le_refl _) (.cells #[.int .i64 most, .map (some b)] 113))).look Tryz.underlying111 (zeroPtrSem _) hw true
 simp only [if_true] at hlk
 clear h hw
 go_enter Tryz.func175, Tryz.ntmps175
 go_wp2
 go_ret
 exact ⟨rfl, (Below.refl _ _).alloc (Nat.le_refl _) _⟩

set_option maxHeartbeats 1000000 in
theorem rightSem_any (x : SemD) (w : World) (_ : SemFit w x) : Calls Tryz.prog 295 #[.agg (semVs x)] w fun e w' => e = .returned (.bool (semB x)) ∧ Below w.heap.size w w' := by
 unfold semVs
 by_cases h1 : 1 ≤ x.max
 ·by_cases h2 : x.max ≤ 1000
  ·by_cases h3 : 0 ≤ x.n
   ·by_cases h4 : x.n ≤ x.max
    all_goals
     go_enter Tryz.func295, Tryz.ntmps295
     go_wp2
     go_ret
     exact ⟨ret_bool (by simp [semB, inB, *] <;> omega), (Below.refl _ _).alloc (Nat.le_refl _) _⟩
   ·go_enter Tryz.func295, Tryz.ntmps295
    go_wp2
    go_ret
    exact ⟨ret_bool (by simp [semB, inB, *] <;> omega), (Below.refl _ _).alloc (Nat.le_refl _) _⟩
  ·go_enter Tryz.func295, Tryz.ntmps295
   go_wp2
   go_ret
   exact ⟨ret_bool (by simp [semB, inB, *] <;> omega), (Below.refl _ _).alloc (Nat.le_refl _) _⟩
 ·go_enter Tryz.func295, Tryz.ntmps295
  go_wp2
  go_ret
  exact ⟨ret_bool (by simp [semB, inB, *] <;> omega), (Below.refl _ _).alloc (Nat.le_refl _) _⟩

end Go.Proofs.YtkbcplnlehdjfaaGreat

/- The things of the kind Event, and their shelf: what each method does. (Made by mkshelf.py.) -/
namespace Go.Proofs.YtkbcplnlehdjfaaGreat
open Go.RowKit
attribute [local go_sem ↓] Go.wp_at_zero Go.wp_at_succ

def eventVs (x : EventD) : Array Value := #[.int .i64 x.id, .bool x.up]
/-- Its lists lie, and nothing of it is too long for a machine. -/
def EventFit (_ : World) (_ : EventD) : Prop := True
theorem EventFit.below {w w' : World} {x : EventD} (_ : EventFit w x) (_ : Below w.heap.size w w') : EventFit w' x := trivial
theorem event_cells {W : World} {X : Nat} {x : EventD} (h : W.heap[X]? = some (.cells (eventVs x) 138 (0, 0))) : W.cell? ⟨X, 0, none⟩ = some (.int .i64 x.id) ∧ W.cell? ⟨X, 1, none⟩ = some (.bool x.up) := by
 unfold eventVs at h
 simp [World.cell?, h]

set_option maxHeartbeats 400000 in
theorem numberEvent_any (x : EventD) (w : World) : Calls Tryz.prog 307 #[.agg (eventVs x)] w fun e w' => e = .returned (.int .i64 x.id) ∧ Below w.heap.size w w' := by
 unfold eventVs
 go_enter Tryz.func307, Tryz.ntmps307
 go_wp2
 go_ret
 exact ⟨rfl, (Below.refl _ _).alloc (Nat.le_refl _) _⟩

theorem meth_numberEvent (v : Value) (w : World) : Sem.run Tryz.prog (method 440 138 v "loop.example/g00313/impl.number") w = .ok (307, v) w := by kernel_rfl
theorem meth_rightEvent (v : Value) (w : World) : Sem.run Tryz.prog (method 440 138 v "loop.example/g00313/impl.right") w = .ok (308, v) w := by kernel_rfl
theorem zeroPtrEvent (w : World) : (zeroValue 222).run Tryz.prog w = .ok (.pointer none) w := by kernel_rfl
set_option maxHeartbeats 1000000 in
theorem hasEvent_any (most : Int) (b : Nat) (m : MapL) (id : Int) (w : World) (h : MapIs w b m) (hw : (Lit.int .i64 id).wf = true) :
  Calls Tryz.prog 176 #[.agg #[.int .i64 most, .map (some b)], .int .i64 id] w fun e w' => e = .returned (.bool (lookM m id).isSome) ∧ Below w.heap.size w w' := by
 have hlk := (h.below ((Below.refl _ w).alloc (Nat.le_refl _) (.cells #[.int .i64 most, .map (some b)] 116))).look Tryz.underlying114 (zeroPtrEvent _) hw true
 simp only [if_true] at hlk
 clear h hw
 go_enter Tryz.func176, Tryz.ntmps176
 go_wp2
 go_ret
 exact ⟨rfl, (Below.refl _ _).alloc (Nat.le_refl _) _⟩

set_option maxHeartbeats 1000000 in
theorem rightEvent_any (x : EventD) (w : World) (_ : EventFit w x) : Calls Tryz.prog 308 #[.agg (eventVs x)] w fun e w' => e = .returned (.bool (eventB x)) ∧ Below w.heap.size w w' := by
 unfold eventVs
 go_enter Tryz.func308, Tryz.ntmps308
 go_wp2
 go_ret
 exact ⟨rfl, (Below.refl _ _).alloc (Nat.le_refl _) _⟩

end Go.Proofs.YtkbcplnlehdjfaaGreat

/- The things of the kind Board, and their shelf: what each method does. (Made by mkshelf.py.) -/
namespace Go.Proofs.YtkbcplnlehdjfaaGreat
open Go.RowKit
attribute [local go_sem ↓] Go.wp_at_zero Go.wp_at_succ

def boardVs (x : BoardD) : Array Value := #[.int .i64 x.id, .bool x.shown, .string x.text]
/-- Its lists lie, and nothing of it is too long for a machine. -/
def BoardFit (_ : World) (x : BoardD) : Prop := x.text.size ≤ 1048576
theorem BoardFit.below {w w' : World} {x : BoardD} (h : BoardFit w x) (_ : Below w.heap.size w w') : BoardFit w' x := h
theorem board_cells {W : World} {X : Nat} {x : BoardD} (h : W.heap[X]? = some (.cells (boardVs x) 141 (0, 0))) : W.cell? ⟨X, 0, none⟩ = some (.int .i64 x.id) ∧ W.cell? ⟨X, 1, none⟩ = some (.bool x.shown) ∧ W.cell? ⟨X, 2, none⟩ = some (.string x.text) := by
 unfold boardVs at h
 simp [World.cell?, h]

set_option maxHeartbeats 400000 in
theorem numberBoard_any (x : BoardD) (w : World) : Calls Tryz.prog 310 #[.agg (boardVs x)] w fun e w' => e = .returned (.int .i64 x.id) ∧ Below w.heap.size w w' := by
 unfold boardVs
 go_enter Tryz.func310, Tryz.ntmps310
 go_wp2
 go_ret
 exact ⟨rfl, (Below.refl _ _).alloc (Nat.le_refl _) _⟩

theorem meth_numberBoard (v : Value) (w : World) : Sem.run Tryz.prog (method 440 141 v "loop.example/g00313/impl.number") w = .ok (310, v) w := by kernel_rfl
theorem meth_rightBoard (v : Value) (w : World) : Sem.run Tryz.prog (method 440 141 v "loop.example/g00313/impl.right") w = .ok (311, v) w := by kernel_rfl
theorem zeroPtrBoard (w : World) : (zeroValue 223).run Tryz.prog w = .ok (.pointer none) w := by kernel_rfl
set_option maxHeartbeats 1000000 in
theorem hasBoard_any (most : Int) (b : Nat) (m : MapL) (id : Int) (w : World) (h : MapIs w b m) (hw : (Lit.int .i64 id).wf = true) :
  Calls Tryz.prog 177 #[.agg #[.int .i64 most, .map (some b)], .int .i64 id] w fun e w' => e = .returned (.bool (lookM m id).isSome) ∧ Below w.heap.size w w' := by
 have hlk := (h.below ((Below.refl _ w).alloc (Nat.le_refl _) (.cells #[.int .i64 most, .map (some b)] 119))).look Tryz.underlying117 (zeroPtrBoard _) hw true
 simp only [if_true] at hlk
 clear h hw
 go_enter Tryz.func177, Tryz.ntmps177
 go_wp2
 go_ret
 exact ⟨rfl, (Below.refl _ _).alloc (Nat.le_refl _) _⟩

set_option maxHeartbeats 1000000 in
theorem rightBoard_any (x : BoardD) (w : World) (hf : BoardFit w x) : Calls Tryz.prog 311 #[.agg (boardVs x)] w fun e w' => e = .returned (.bool (boardB x)) ∧ Below w.heap.size w w' := by
 have HF : Hid (BoardFit w x) := hf
 clear hf
 unfold boardVs
 obtain ⟨id, shown, text⟩ := x
 cases hp : plainB text with
 | false =>
  have HP : Hid (plainB text = false) := hp
  clear hp
  go_enter Tryz.func311, Tryz.ntmps311
  go_wp2_with fail
  refine (isPlain_any text _ HF.out).mono ?_
  rintro e w1 ⟨rfl, hw1⟩
  rw [HP.out]
  subst hw1
  go_wp2
  go_ret
  exact ⟨ret_bool (by simp [boardB, HP.out]), (Below.refl _ _).alloc (Nat.le_refl _) _⟩
 | true =>
  have HP : Hid (plainB text = true) := hp
  clear hp
  by_cases hes : text.toList = []
  all_goals
   have hes' : ([] = text.toList) = (text.toList = []) := propext ⟨fun h => h.symm, fun h => h.symm⟩
   cases shown
  all_goals
   go_enter Tryz.func311, Tryz.ntmps311
   go_wp2_with fail
   refine (isPlain_any text _ HF.out).mono ?_
   rintro e w1 ⟨rfl, hw1⟩
   rw [HP.out]
   subst hw1
   go_wp2
   go_ret
   exact ⟨ret_bool (by simp [boardB, HP.out, emptyB, hes]), (Below.refl _ _).alloc (Nat.le_refl _) _⟩

end Go.Proofs.YtkbcplnlehdjfaaGreat

/- An open partition's lists are made its own. (Made by mkown.py.) -/
namespace Go.Proofs.YtkbcplnlehdjfaaGreat
open Go.RowKit Go.Maps
attribute [local go_sem ↓] Go.wp_at_zero Go.wp_at_succ

def procN : Nest ProcD := ⟨procVs, fun x => x.id, 43, 134, 4, fun x => x.progA, fun x => x.progC, fun x => x.prog.length, fun x => opK.flat x.prog, fun x a c => { x with progA := a, progC := c }, fun _ _ _ => rfl, fun _ _ _ => rfl, fun _ _ _ => rfl, fun _ _ _ => rfl, fun _ _ _ => rfl, fun _ _ _ _ _ => rfl⟩
def bufferN : Nest BufferD := ⟨bufferVs, fun x => x.id, 144, 9, 1, fun x => x.itemsA, fun x => x.itemsC, fun x => x.items.length, fun x => strK.flat x.items, fun x a c => { x with itemsA := a, itemsC := c }, fun _ _ _ => rfl, fun _ _ _ => rfl, fun _ _ _ => rfl, fun _ _ _ => rfl, fun _ _ _ => rfl, fun _ _ _ _ _ => rfl⟩
def portN : Nest PortD := ⟨portVs, fun x => x.id, 61, 9, 1, fun x => x.itemsA, fun x => x.itemsC, fun x => x.items.length, fun x => strK.flat x.items, fun x a c => { x with itemsA := a, itemsC := c }, fun _ _ _ => rfl, fun _ _ _ => rfl, fun _ _ _ => rfl, fun _ _ _ => rfl, fun _ _ _ => rfl, fun _ _ _ _ _ => rfl⟩

/-- The lists of the things lie, below all that was made. -/
def ListsIn {α : Type} (N : Nest α) (w : World) (base : Nat) (l : List (α × Nat)) : Prop := ∀ p ∈ l, Row w (N.ad p.1) (N.flat p.1) ∧ N.len p.1 ≤ 1048576 ∧ ∀ g, N.kid p.1 = some g → g < base
theorem ListsIn.low {α : Type} {N : Nest α} {w w' : World} {base : Nat} {l : List (α × Nat)} (h : ListsIn N w base l) (hb : Below base w w') : ListsIn N w' base l := fun p hp =>
 ⟨(h p hp).1.low (fun q e => (h p hp).2.2 q.block (by simp [Nest.kid, e])) hb, (h p hp).2⟩

theorem opInfoL : (Tryz.prog.info? 134).map (fun i => (i.zero, i.size, i.bytes)) = some (some (.agg #[.int .i64 0, .int .i64 0, .int .i64 0, .string ⟨#[]⟩]), 4, 40) := by kernel_rfl
theorem strInfo : (Tryz.prog.info? 9).map (fun i => (i.zero, i.size, i.bytes)) = some (some (.string ⟨#[]⟩), 1, 16) := by kernel_rfl
theorem one_op {l : List OpD} : ∀ u ∈ opK.flat l, u.oneCell' = true := fun u hu => by
 obtain ⟨x, _, hx⟩ := List.mem_flatMap.1 hu
 simp only [opK, opVals, List.mem_cons, List.not_mem_nil, or_false] at hx
 rcases hx with rfl | rfl | rfl | rfl <;> rfl
theorem one_str {l : List ByteArray} : ∀ u ∈ strK.flat l, u.oneCell' = true := fun u hu => by
 obtain ⟨x, _, hx⟩ := List.mem_flatMap.1 hu
 simp only [strK, List.mem_cons, List.not_mem_nil, or_false] at hx
 subst hx
 rfl
theorem copy_ops (w : World) (a : Option Addr) (l : List OpD) (cap : Nat) (h : Row w a (opK.flat l)) (hl : l.length ≤ 1048576) :
  ∃ a' cap' w', (Builtin.append_ #[37, 37] 37 #[.slice none 0 0, .slice a l.length cap]).run Tryz.prog w = .ok (.slice a' l.length cap') w' ∧ w'.ownsRow w.heap.size 134 4 (.slice a' l.length cap') l.length (opK.flat l) ∧ w.grownBy w' none := by
 obtain ⟨i, hi, e⟩ := Option.map_eq_some_iff.1 opInfoL
 simp only [Prod.mk.injEq] at e
 exact append_copy w _ _ 134 i _ 4 40 Tryz.underlying37 hi e.1 e.2.1 e.2.2 rfl (by decide) a l.length cap _ h (opK.flat_length l) one_op hl (by decide)
theorem copy_strs (w : World) (a : Option Addr) (l : List ByteArray) (cap : Nat) (h : Row w a (strK.flat l)) (hl : l.length ≤ 1048576) :
  ∃ a' cap' w', (Builtin.append_ #[59, 59] 59 #[.slice none 0 0, .slice a l.length cap]).run Tryz.prog w = .ok (.slice a' l.length cap') w' ∧ w'.ownsRow w.heap.size 9 1 (.slice a' l.length cap') l.length (strK.flat l) ∧ w.grownBy w' none := by
 obtain ⟨i, hi, e⟩ := Option.map_eq_some_iff.1 strInfo
 simp only [Prod.mk.injEq] at e
 exact append_copy w _ _ 9 i _ 1 16 Tryz.underlying59 hi e.1 e.2.1 e.2.2 rfl (by decide) a l.length cap _ h (strK.flat_length l) one_str hl (by decide)

/-- What a shelf's lists end in. -/
structure Owned {α : Type} (N : Nest α) (w0 wr : World) (base b : Nat) (l l' : List (α × Nat)) : Prop where
 shelf : Shelf N.vs N.num N.T wr base b l'
 alike : l'.map (fun p => (N.set p.1 none 0, p.2)) = l.map (fun p => (N.set p.1 none 0, p.2))
 mine : ∀ p ∈ l', N.Mine wr w0.heap.size p.1
 nodup : (kids N l').Nodup
 os : wr.os = w0.os
 tape : wr.tape = w0.tape
 output : wr.output = w0.output
 size : w0.heap.size ≤ wr.heap.size
 same : ∀ g, g < w0.heap.size → g ∉ l.map (·.2) → wr.heap[g]? = w0.heap[g]?
theorem OwnIn.owned {α : Type} {N : Nest α} {w0 wr : World} {base b : Nat} {l l' : List (α × Nat)} {left : Lit → Bool} (h : OwnIn N w0 wr base b l l' left) (hd : ∀ kl, left kl = false) : Owned N w0 wr base b l l' :=
 ⟨h.shelf, h.alike, fun p hp => h.own p hp (hd _), h.nodup hd, h.os, h.tape, h.output, h.size, h.same⟩
theorem Owned.below {α : Type} {N : Nest α} {w0 wr : World} {base b : Nat} {l l' : List (α × Nat)} (h : Owned N w0 wr base b l l') (hb : base ≤ w0.heap.size) (hl : ∀ g ∈ l.map (·.2), base ≤ g) : Below base w0 wr :=
 ⟨h.os, h.tape, h.output, h.size, fun g hg => h.same g (by omega) (fun hm => by have := hl g hm; omega)⟩

/-- The three shelves whose things have lists. -/
structure Three (w : World) (base o : Nat) (q : Opn) (lp : List (ProcD × Nat)) (lf : List (BufferD × Nat)) (lq : List (PortD × Nat)) : Prop where
 opn : OpenBox w o q
 procs : Shelf procVs (fun x : ProcD => x.id) 43 w base q.bp lp
 buffers : Shelf bufferVs (fun x : BufferD => x.id) 144 w base q.bf lf
 ports : Shelf portVs (fun x : PortD => x.id) 61 w base q.bq lq
 nodup : (o :: ((q.bp :: lp.map (·.2)) ++ ((q.bf :: lf.map (·.2)) ++ (q.bq :: lq.map (·.2))))).Nodup

theorem Three.ownedProc {w w' : World} {base o : Nat} {q : Opn} {lp l' : List (ProcD × Nat)} {lf : List (BufferD × Nat)} {lq : List (PortD × Nat)} (h : Three w base o q lp lf lq) (ho : Owned procN w w' base q.bp lp l') : Three w' base o q l' lf lq := by
 have hbl : l'.map (·.2) = lp.map (·.2) := by
  have := congrArg (List.map (·.2)) ho.alike
  simp only [List.map_map, Function.comp_def] at this
  exact this
 have hn := h.nodup
 rw [List.nodup_cons, List.nodup_append] at hn
 obtain ⟨h1, h2, h3, h4⟩ := hn
 have hlp : ∀ g, g ∈ (q.bf :: lf.map (·.2)) ++ (q.bq :: lq.map (·.2)) → g ∉ lp.map (·.2) := fun g hg hm => h4 g (List.mem_cons_of_mem _ hm) g hg rfl
 refine ⟨(ho.same o (Array.getElem?_eq_some_iff.1 h.opn).1 (fun hm => h1 (by simp [List.mem_map.1 hm]))).trans h.opn, ho.shelf, h.buffers.same fun g hg => ho.same g (h.buffers.lt g hg) (hlp g (List.mem_append_left _ hg)), h.ports.same fun g hg => ho.same g (h.ports.lt g hg) (hlp g (List.mem_append_right _ hg)), ?_⟩
 rw [hbl]
 exact h.nodup
theorem Three.ownedBuffer {w w' : World} {base o : Nat} {q : Opn} {lp : List (ProcD × Nat)} {lf l' : List (BufferD × Nat)} {lq : List (PortD × Nat)} (h : Three w base o q lp lf lq) (ho : Owned bufferN w w' base q.bf lf l') : Three w' base o q lp l' lq := by
 have hbl : l'.map (·.2) = lf.map (·.2) := by
  have := congrArg (List.map (·.2)) ho.alike
  simp only [List.map_map, Function.comp_def] at this
  exact this
 have hn := h.nodup
 rw [List.nodup_cons, List.nodup_append, List.nodup_append] at hn
 obtain ⟨h1, h2, ⟨h3, h5, h6⟩, h4⟩ := hn
 refine ⟨(ho.same o (Array.getElem?_eq_some_iff.1 h.opn).1 (fun hm => h1 (by simp [List.mem_map.1 hm]))).trans h.opn, h.procs.same fun g hg => ho.same g (h.procs.lt g hg) (fun hm => h4 g hg g (List.mem_append_left _ (List.mem_cons_of_mem _ hm)) rfl), ho.shelf, h.ports.same fun g hg => ho.same g (h.ports.lt g hg) (fun hm => h6 g (List.mem_cons_of_mem _ hm) g hg rfl), ?_⟩
 rw [hbl]
 exact h.nodup

set_option maxRecDepth 100000 in
set_option maxHeartbeats 8000000 in
theorem ownLists_walk (o base : Nat) (q : Opn) (lp : List (ProcD × Nat)) (lf : List (BufferD × Nat)) (lq : List (PortD × Nat)) (w : World) (h : Three w base o q lp lf lq) (hb : base ≤ w.heap.size) (h1 : ListsIn procN w base lp) (h2 : ListsIn bufferN w base lf) (h3 : ListsIn portN w base lq) :
  Calls Tryz.prog 155 #[.pointer (some ⟨o, 0, none⟩)] w fun e w' => e = .returned (.tuple #[]) ∧ ∃ w1 w2 l0 l1 l2, Owned procN w w1 base q.bp lp l0 ∧ Owned bufferN w1 w2 base q.bf lf l1 ∧ Owned portN w2 w' base q.bq lq l2 := by
 have HT : Hid (Three w base o q lp lf lq) := h
 have HB0 : Hid (base ≤ w.heap.size) := hb
 have HBL : Hid (∀ g ∈ lp.map (·.2), base ≤ g) := fun g hg => h.procs.low g (List.mem_cons_of_mem _ hg)
 have HLP : Hid (ListsIn procN w base lp) := h1
 have HLF : Hid (ListsIn bufferN w base lf) := h2
 have HLQ : Hid (ListsIn portN w base lq) := h3
 clear h hb h1 h2 h3
 go_enter Tryz.func155, Tryz.ntmps155
 have c0 : w.cell? ⟨o, 3, none⟩ = some (.map (some q.bp)) := HT.out.opn.cell 3
 have hown := HT.out.procs.map.1
 go_wp2_with (at_range; refine wpList_range_own _ rfl _ 108 rfl 2 102 keyed64 Tryz.underlying108 ptrR q.bp _ _ rfl hown ?_; intro w1 hrg1 hg1 hs1)
 have HS : Hid (OwnIn procN w w1 base q.bp lp lp (Maps.has (mapD (keysOf procN.num lp)))) := OwnIn.start HT.out.procs hg1
 have HL0 : Hid (∀ g ∈ q.bp :: lp.map (·.2), g < w.heap.size) := HT.out.procs.lt
 clear hown c0 hg1
 go_frame
 go_loopw [3] (fun _ wr1 => ∃ (left : Lit → Bool) (cnt : Nat) (l' : List (ProcD × Nat)), wr1.ranges Tryz.prog 2 ptrR q.bp w.heap.size (keysOf (fun x : ProcD => x.id) lp).length (mapD (keysOf (fun x : ProcD => x.id) lp)) left cnt ∧ Hid (OwnIn procN w wr1 base q.bp lp l' left)) (fun _ wr1 => wr1.rangeLeft q.bp w.heap.size)
 case atStart => exact ⟨_, _, lp, hrg1, HS.out⟩
 case round =>
  rename World => wr1
  clear HS hrg1 hs1 w1
  obtain ⟨left, cnt, l0, hrg, HO⟩ := hrel
  go_wp2_with (at_next; refine wpList_next_ranges _ rfl _ rfl 2 keyed64 ptrR (Value.int .i64) ptrV (fun key kl hk => by obtain ⟨x, rfl, _⟩ := keyOf_int_inv Tryz.underlying2 hk; exact ⟨x, rfl⟩) (fun v y hv => by obtain ⟨g, rfl, _⟩ := ptrR_inv hv; exact ⟨g, rfl⟩) q.bp w.heap.size _ _ _ _ rfl hrg ?_ ?_)
  ·intro hc0 hl0
   have HD0 : Hid (Owned procN w wr1 base q.bp lp l0) := HO.out.owned hl0
   clear hrg HO hc0 hl0 HL0 left cnt
   have HTN : Hid (Three wr1 base o q l0 lf lq) := HT.out.ownedProc HD0.out
   clear HT
   have HT : Hid (Three wr1 base o q l0 lf lq) := HTN.out
   have HLI : Hid (ListsIn bufferN wr1 base lf ∧ ListsIn portN wr1 base lq) := ⟨HLF.out.low (HD0.out.below HB0.out HBL.out), HLQ.out.low (HD0.out.below HB0.out HBL.out)⟩
   have HBN : Hid (base ≤ wr1.heap.size) := Nat.le_trans HB0.out HD0.out.size
   clear HTN HB0 HBL HLP
   have HB0 : Hid (base ≤ wr1.heap.size) := HBN.out
   have HBL : Hid (∀ g ∈ lf.map (·.2), base ≤ g) := fun g hg => HT.out.buffers.low g (List.mem_cons_of_mem _ hg)
   clear HLF HLQ
   have HLF : Hid (ListsIn bufferN wr1 base lf) := HLI.out.1
   have HLQ : Hid (ListsIn portN wr1 base lq) := HLI.out.2
   clear HLI HBN
   have c1 : wr1.cell? ⟨o, 11, none⟩ = some (.map (some q.bf)) := HT.out.opn.cell 11
   have hown := HT.out.buffers.map.1
   go_wp2_with (at_range; refine wpList_range_own _ rfl _ 120 rfl 2 224 keyed64 Tryz.underlying120 ptrR q.bf _ _ rfl hown ?_; intro w1 hrg1 hg1 hs1)
   have HS : Hid (OwnIn bufferN wr1 w1 base q.bf lf lf (Maps.has (mapD (keysOf bufferN.num lf)))) := OwnIn.start HT.out.buffers hg1
   have HL1 : Hid (∀ g ∈ q.bf :: lf.map (·.2), g < wr1.heap.size) := HT.out.buffers.lt
   clear hown c1 hg1
   go_frame
   go_loopw [5] (fun _ wr2 => ∃ (left : Lit → Bool) (cnt : Nat) (l' : List (BufferD × Nat)), wr2.ranges Tryz.prog 2 ptrR q.bf wr1.heap.size (keysOf (fun x : BufferD => x.id) lf).length (mapD (keysOf (fun x : BufferD => x.id) lf)) left cnt ∧ Hid (OwnIn bufferN wr1 wr2 base q.bf lf l' left)) (fun _ wr2 => wr2.rangeLeft q.bf wr1.heap.size)
   case atStart => exact ⟨_, _, lf, hrg1, HS.out⟩
   case round =>
    rename World => wr2
    clear HS hrg1 hs1 w1
    obtain ⟨left, cnt, l1, hrg, HO⟩ := hrel
    go_wp2_with (at_next; refine wpList_next_ranges _ rfl _ rfl 2 keyed64 ptrR (Value.int .i64) ptrV (fun key kl hk => by obtain ⟨x, rfl, _⟩ := keyOf_int_inv Tryz.underlying2 hk; exact ⟨x, rfl⟩) (fun v y hv => by obtain ⟨g, rfl, _⟩ := ptrR_inv hv; exact ⟨g, rfl⟩) q.bf wr1.heap.size _ _ _ _ rfl hrg ?_ ?_)
    ·intro hc0 hl0
     have HD1 : Hid (Owned bufferN wr1 wr2 base q.bf lf l1) := HO.out.owned hl0
     clear hrg HO hc0 hl0 HL1 left cnt
     have HTN : Hid (Three wr2 base o q l0 l1 lq) := HT.out.ownedBuffer HD1.out
     clear HT
     have HT : Hid (Three wr2 base o q l0 l1 lq) := HTN.out
     have HLI : Hid (ListsIn portN wr2 base lq) := HLQ.out.low (HD1.out.below HB0.out HBL.out)
     have HBN : Hid (base ≤ wr2.heap.size) := Nat.le_trans HB0.out HD1.out.size
     clear HTN HB0 HBL HLF
     have HB0 : Hid (base ≤ wr2.heap.size) := HBN.out
     have HBL : Hid (∀ g ∈ lq.map (·.2), base ≤ g) := fun g hg => HT.out.ports.low g (List.mem_cons_of_mem _ hg)
     clear HLQ
     have HLQ : Hid (ListsIn portN wr2 base lq) := HLI.out
     clear HLI HBN
     have c2 : wr2.cell? ⟨o, 13, none⟩ = some (.map (some q.bq)) := HT.out.opn.cell 13
     have hown := HT.out.ports.map.1
     go_wp2_with (at_range; refine wpList_range_own _ rfl _ 123 rfl 2 225 keyed64 Tryz.underlying123 ptrR q.bq _ _ rfl hown ?_; intro w1 hrg1 hg1 hs1)
     have HS : Hid (OwnIn portN wr2 w1 base q.bq lq lq (Maps.has (mapD (keysOf portN.num lq)))) := OwnIn.start HT.out.ports hg1
     have HL2 : Hid (∀ g ∈ q.bq :: lq.map (·.2), g < wr2.heap.size) := HT.out.ports.lt
     clear hown c2 hg1
     go_frame
     go_loopw [7] (fun _ wr3 => ∃ (left : Lit → Bool) (cnt : Nat) (l' : List (PortD × Nat)), wr3.ranges Tryz.prog 2 ptrR q.bq wr2.heap.size (keysOf (fun x : PortD => x.id) lq).length (mapD (keysOf (fun x : PortD => x.id) lq)) left cnt ∧ Hid (OwnIn portN wr2 wr3 base q.bq lq l' left)) (fun _ wr3 => wr3.rangeLeft q.bq wr2.heap.size)
     case atStart => exact ⟨_, _, lq, hrg1, HS.out⟩
     case round =>
      rename World => wr3
      clear HS hrg1 hs1 w1
      obtain ⟨left, cnt, l2, hrg, HO⟩ := hrel
      go_wp2_with (at_next; refine wpList_next_ranges _ rfl _ rfl 2 keyed64 ptrR (Value.int .i64) ptrV (fun key kl hk => by obtain ⟨x, rfl, _⟩ := keyOf_int_inv Tryz.underlying2 hk; exact ⟨x, rfl⟩) (fun v y hv => by obtain ⟨g, rfl, _⟩ := ptrR_inv hv; exact ⟨g, rfl⟩) q.bq wr2.heap.size _ _ _ _ rfl hrg ?_ ?_)
      ·intro hc0 hl0
       have HD2 : Hid (Owned portN wr2 wr3 base q.bq lq l2) := HO.out.owned hl0
       clear hrg HO hc0 hl0 HL2 left cnt
       go_wp2
       go_end0
       exact ⟨rfl, wr1, wr2, l0, l1, l2, HD0.out, HD1.out, HD2.out⟩
      ·intro x c kl y1 y2 w2 cnt2 hkey hlk hv hat hrg2 hlt2 hgr2 hsz2 hen
       obtain ⟨p, hp, rfl, rfl, rfl⟩ := HO.out.pick hkey hv hat
       have hpl : p.2 ∈ lq.map (·.2) := by rw [← HO.out.blocks]; exact List.mem_map.2 ⟨p, hp, rfl⟩
       have hpo := HO.out.old p hp hlk
       have hpw := HL2.out p.2 (List.mem_cons_of_mem _ hpl)
       have hbox : w2.heap[p.2]? = some (.cells (portVs p.1) 61 (0, 0)) := (hgr2.block p.2 (Nat.lt_of_lt_of_le hpw HO.out.size) (fun e => by have := Option.some.inj e; omega)).trans (HO.out.shelf.box p hp)
       have hrow : Row w2 p.1.itemsA (strK.flat p.1.items) := (HLQ.out p hpo).1.same fun g e => by
        have hgb : g < base := (HLQ.out p hpo).2.2 g (by show (p.1.itemsA).map (·.block) = some g; rw [show p.1.itemsA = some ⟨g, 0, none⟩ from e]; rfl)
        have hb0 := HB0.out
        refine (hgr2.block g (by have := HO.out.size; omega) (fun e => by have := Option.some.inj e; omega)).trans (HO.out.same g (by omega) (fun hm => by have := HBL.out g hm; omega))
       obtain ⟨a3, cap3, w3, hap, hown3, hg3⟩ := copy_strs w2 p.1.itemsA p.1.items p.1.itemsC hrow (HLQ.out p hpo).2.1
       have cc : w2.cell? ⟨p.2, 4, none⟩ = some (.slice p.1.itemsA p.1.items.length p.1.itemsC) := by simp [World.cell?, hbox, portVs]
       have hbox3 := (hg3.block p.2 (Array.getElem?_eq_some_iff.1 hbox).1 (by simp)).trans hbox
       have cc3 : w3.cell? ⟨p.2, 4, none⟩ = some (.slice p.1.itemsA p.1.items.length p.1.itemsC) := by simp [World.cell?, hbox3, portVs]
       have cf3 : w3.frozen? ⟨p.2, 4, none⟩ = false := by simp [World.frozen?, hbox3]
       have HN := HO.out.turn (i := 4) hrg hgr2 hrg2 HL2.out (Nat.le_refl _) hp hown3 hg3 rfl
       have HNH : Hid (_ ∧ _) := HN
       have HLT : Hid (cnt2 < cnt ∧ wr3.rangeLeft q.bq wr2.heap.size = cnt) := ⟨hlt2, hrg.left_eq⟩
       simp only [ptrV] at hen
       clear HN hrg hrg2 hgr2 hsz2 hkey hlk hv hat hlt2 hpl hpo hpw hbox hbox3 hrow hown3 hg3
       unfold ptrV
       go_wp2_with (at_builtin; refine wpList_append_run _ rfl _ _ 59 rfl _ _ _ _ rfl rfl hap ?_; clear hap)
       go_roundw
       case rel => exact ⟨_, _, _, HNH.out.2, HNH.out.1⟩
       case measure => have h5 := HNH.out.2.left_eq; have h6 := HLT.out; rw [h6.2]; exact Nat.lt_of_le_of_lt (Nat.le_of_eq h5) h6.1
    ·intro x c kl y1 y2 w2 cnt2 hkey hlk hv hat hrg2 hlt2 hgr2 hsz2 hen
     obtain ⟨p, hp, rfl, rfl, rfl⟩ := HO.out.pick hkey hv hat
     have hpl : p.2 ∈ lf.map (·.2) := by rw [← HO.out.blocks]; exact List.mem_map.2 ⟨p, hp, rfl⟩
     have hpo := HO.out.old p hp hlk
     have hpw := HL1.out p.2 (List.mem_cons_of_mem _ hpl)
     have hbox : w2.heap[p.2]? = some (.cells (bufferVs p.1) 144 (0, 0)) := (hgr2.block p.2 (Nat.lt_of_lt_of_le hpw HO.out.size) (fun e => by have := Option.some.inj e; omega)).trans (HO.out.shelf.box p hp)
     have hrow : Row w2 p.1.itemsA (strK.flat p.1.items) := (HLF.out p hpo).1.same fun g e => by
      have hgb : g < base := (HLF.out p hpo).2.2 g (by show (p.1.itemsA).map (·.block) = some g; rw [show p.1.itemsA = some ⟨g, 0, none⟩ from e]; rfl)
      have hb0 := HB0.out
      refine (hgr2.block g (by have := HO.out.size; omega) (fun e => by have := Option.some.inj e; omega)).trans (HO.out.same g (by omega) (fun hm => by have := HBL.out g hm; omega))
     obtain ⟨a3, cap3, w3, hap, hown3, hg3⟩ := copy_strs w2 p.1.itemsA p.1.items p.1.itemsC hrow (HLF.out p hpo).2.1
     have cc : w2.cell? ⟨p.2, 2, none⟩ = some (.slice p.1.itemsA p.1.items.length p.1.itemsC) := by simp [World.cell?, hbox, bufferVs]
     have hbox3 := (hg3.block p.2 (Array.getElem?_eq_some_iff.1 hbox).1 (by simp)).trans hbox
     have cc3 : w3.cell? ⟨p.2, 2, none⟩ = some (.slice p.1.itemsA p.1.items.length p.1.itemsC) := by simp [World.cell?, hbox3, bufferVs]
     have cf3 : w3.frozen? ⟨p.2, 2, none⟩ = false := by simp [World.frozen?, hbox3]
     have HN := HO.out.turn (i := 2) hrg hgr2 hrg2 HL1.out (Nat.le_refl _) hp hown3 hg3 rfl
     have HNH : Hid (_ ∧ _) := HN
     have HLT : Hid (cnt2 < cnt ∧ wr2.rangeLeft q.bf wr1.heap.size = cnt) := ⟨hlt2, hrg.left_eq⟩
     simp only [ptrV] at hen
     clear HN hrg hrg2 hgr2 hsz2 hkey hlk hv hat hlt2 hpl hpo hpw hbox hbox3 hrow hown3 hg3
     unfold ptrV
     go_wp2_with (at_builtin; refine wpList_append_run _ rfl _ _ 59 rfl _ _ _ _ rfl rfl hap ?_; clear hap)
     go_roundw
     case rel => exact ⟨_, _, _, HNH.out.2, HNH.out.1⟩
     case measure => have h5 := HNH.out.2.left_eq; have h6 := HLT.out; rw [h6.2]; exact Nat.lt_of_le_of_lt (Nat.le_of_eq h5) h6.1
  ·intro x c kl y1 y2 w2 cnt2 hkey hlk hv hat hrg2 hlt2 hgr2 hsz2 hen
   obtain ⟨p, hp, rfl, rfl, rfl⟩ := HO.out.pick hkey hv hat
   have hpl : p.2 ∈ lp.map (·.2) := by rw [← HO.out.blocks]; exact List.mem_map.2 ⟨p, hp, rfl⟩
   have hpo := HO.out.old p hp hlk
   have hpw := HL0.out p.2 (List.mem_cons_of_mem _ hpl)
   have hbox : w2.heap[p.2]? = some (.cells (procVs p.1) 43 (0, 0)) := (hgr2.block p.2 (Nat.lt_of_lt_of_le hpw HO.out.size) (fun e => by have := Option.some.inj e; omega)).trans (HO.out.shelf.box p hp)
   have hrow : Row w2 p.1.progA (opK.flat p.1.prog) := (HLP.out p hpo).1.same fun g e => by
    have hgb : g < base := (HLP.out p hpo).2.2 g (by show (p.1.progA).map (·.block) = some g; rw [show p.1.progA = some ⟨g, 0, none⟩ from e]; rfl)
    have hb0 := HB0.out
    refine (hgr2.block g (by have := HO.out.size; omega) (fun e => by have := Option.some.inj e; omega)).trans (HO.out.same g (by omega) (fun hm => by have := HBL.out g hm; omega))
   obtain ⟨a3, cap3, w3, hap, hown3, hg3⟩ := copy_ops w2 p.1.progA p.1.prog p.1.progC hrow (HLP.out p hpo).2.1
   have cc : w2.cell? ⟨p.2, 2, none⟩ = some (.slice p.1.progA p.1.prog.length p.1.progC) := by simp [World.cell?, hbox, procVs]
   have hbox3 := (hg3.block p.2 (Array.getElem?_eq_some_iff.1 hbox).1 (by simp)).trans hbox
   have cc3 : w3.cell? ⟨p.2, 2, none⟩ = some (.slice p.1.progA p.1.prog.length p.1.progC) := by simp [World.cell?, hbox3, procVs]
   have cf3 : w3.frozen? ⟨p.2, 2, none⟩ = false := by simp [World.frozen?, hbox3]
   have HN := HO.out.turn (i := 2) hrg hgr2 hrg2 HL0.out (Nat.le_refl _) hp hown3 hg3 rfl
   have HNH : Hid (_ ∧ _) := HN
   have HLT : Hid (cnt2 < cnt ∧ wr1.rangeLeft q.bp w.heap.size = cnt) := ⟨hlt2, hrg.left_eq⟩
   simp only [ptrV] at hen
   clear HN hrg hrg2 hgr2 hsz2 hkey hlk hv hat hlt2 hpl hpo hpw hbox hbox3 hrow hown3 hg3
   unfold ptrV
   go_wp2_with (at_builtin; refine wpList_append_run _ rfl _ _ 37 rfl _ _ _ _ rfl rfl hap ?_; clear hap)
   go_roundw
   case rel => exact ⟨_, _, _, HNH.out.2, HNH.out.1⟩
   case measure => have h5 := HNH.out.2.left_eq; have h6 := HLT.out; rw [h6.2]; exact Nat.lt_of_le_of_lt (Nat.le_of_eq h5) h6.1

end Go.Proofs.YtkbcplnlehdjfaaGreat

/- The next operation in the order of the text: runs of operations in one row. -/
namespace Go.Proofs.YtkbcplnlehdjfaaGreat
open Go

section
variable {P : Program} {md : Region.Mode} {ops : Array Oper} {Q : Exit → Act → World → Prop} {S : World → Prop}
/-- The next one in the order of the text. -/
theorem ty {oi : Oper} {v : Value} {fuel : Nat} {listed : Array Bool} {a : Act} (d : Option Tmp) (hi : ops[ops.size - (fuel + 1)]? = some oi) (_hd : oi.dst = d) (hc : tmB md ops listed (ops.size - (fuel + 1)) oi d = true)
  (hQ : ∀ c a w, Q (.panic c) (a.put d v) w → Q (.panic c) a w) (hy : Does P ops S oi v a)
  (h : wpAnyD P md ops Q S fuel (listed.setIfInBounds (ops.size - (fuel + 1)) true) (a.put d v)) : wpAnyD P md ops Q S (fuel + 1) listed a := tm (ops.size - (fuel + 1)) d hi hc hQ hy h
theorem ly {L : Nat} (n : Nat) {oi : Oper} {v : Value} {fuel : Nat} {listed : Array Bool} {a : Act} (d : Option Tmp) (hi : ops[ops.size - (fuel + 1)]? = some oi) (_hd : oi.dst = d) (hc : lsB md ops listed (ops.size - (fuel + 1)) L n oi d = true)
  (hQ : ∀ c a w, Q (.panic c) (a.put d v) w → Q (.panic c) a w) (hy : Does P ops S oi v a)
  (h : wpAnyL P md ops Q S L fuel (listed.setIfInBounds (ops.size - (fuel + 1)) true) (a.put d v)) : wpAnyL P md ops Q S L (fuel + 1) listed a := ls (ops.size - (fuel + 1)) n d hi hc hQ hy h
/-- The same, its checks left to the kernel: an operation that yields, one that is passed over, a call. -/
theorem yl {oi : Oper} {v : Value} {fuel : Nat} {listed : Array Bool} {a : Act} {d : Tmp} (hy : ∀ w, S w → (execOp a.eval oi).run P w = .ok (.value v) w)
  (h : wpAnyD P md ops Q S fuel (listed.setIfInBounds (ops.size - (fuel + 1)) true) (a.put (some d) v)) (hi : ops[ops.size - (fuel + 1)]? = some oi := by rfl) (_hd : oi.dst = some d := by rfl) (hc : tmB md ops listed (ops.size - (fuel + 1)) oi (some d) = true := by kernel_rfl)
  (hQ : ∀ c a w, Q (.panic c) (a.put (some d) v) w → Q (.panic c) a w := by exact fun _ _ _ h => h) (hw : Region.wanted oi (yielded ops a.tmps) = true := by kernel_rfl) : wpAnyD P md ops Q S (fuel + 1) listed a := tm (ops.size - (fuel + 1)) (some d) hi hc hQ (does_yield hw hy) h
theorem nl {oi : Oper} {fuel : Nat} {listed : Array Bool} {a : Act} {d : Tmp}
  (h : wpAnyD P md ops Q S fuel (listed.setIfInBounds (ops.size - (fuel + 1)) true) (a.put (some d) undef)) (hi : ops[ops.size - (fuel + 1)]? = some oi := by rfl) (_hd : oi.dst = some d := by rfl) (hc : tmB md ops listed (ops.size - (fuel + 1)) oi (some d) = true := by kernel_rfl)
  (hQ : ∀ c a w, Q (.panic c) (a.put (some d) undef) w → Q (.panic c) a w := by exact fun _ _ _ h => h) (hw : Region.wanted oi (yielded ops a.tmps) = false := by kernel_rfl) : wpAnyD P md ops Q S (fuel + 1) listed a := tm (ops.size - (fuel + 1)) (some d) hi hc hQ (does_skip hw) h
theorem cl (v : Value) (f : FuncId) (args : Array Value) {oi : Oper} {fuel : Nat} {listed : Array Bool} {a : Act} {d : Tmp} (hy : ∀ w, S w → (execOp a.eval oi).run P w = .ok (.enter f args) w) (hf : ∀ w, S w → Calls P f args w (fun e w' => e = .returned v ∧ S w'))
  (h : wpAnyD P md ops Q S fuel (listed.setIfInBounds (ops.size - (fuel + 1)) true) (a.put (some d) v)) (hi : ops[ops.size - (fuel + 1)]? = some oi := by rfl) (_hd : oi.dst = some d := by rfl) (hc : tmB md ops listed (ops.size - (fuel + 1)) oi (some d) = true := by kernel_rfl)
  (hQ : ∀ c a w, Q (.panic c) (a.put (some d) v) w → Q (.panic c) a w := by exact fun _ _ _ h => h) (hw : Region.wanted oi (yielded ops a.tmps) = true := by kernel_rfl) : wpAnyD P md ops Q S (fuel + 1) listed a := tm (ops.size - (fuel + 1)) (some d) hi hc hQ (does_call hw hy hf) h
end

end Go.Proofs.YtkbcplnlehdjfaaGreat

/- Whether there is what a process waits for: what the programme answers. (Made by mkhas.py.) -/
namespace Go.Proofs.YtkbcplnlehdjfaaGreat
open Go.RowKit
attribute [local go_sem ↓] Go.wp_at_zero Go.wp_at_succ

theorem hasS3_of {w w' : World} {o X : Nat} {q : Opn} {x : ProcD} {ms me mb mf : MapL} (h : HasIn w w' o X q x ms me mb mf) : (w'.cell? ⟨o, 4, none⟩ = some (.int .i64 5) ∧ w'.cell? ⟨o, 5, none⟩ = some (.map (some q.bs)) ∧ w'.cell? ⟨X, 7, none⟩ = some (.int .i64 x.on)) ∧ Hid (HasIn w w' o X q x ms me mb mf) :=
 ⟨⟨h.opn.cell 4, h.opn.cell 5, (proc_cells h.box).2.2.2.2.2.2.2.1⟩, h⟩
set_option maxRecDepth 100000 in
set_option maxHeartbeats 2000000 in
theorem hasWait_3 (o X : Nat) (q : Opn) (x : ProcD) (ms me mb mf : MapL) (w : World) (h : HasIn w w o X q x ms me mb mf) (hw : (Lit.int .i64 x.on).wf = true) (hs : x.state = 3) :
  Calls Tryz.prog 203 #[.pointer (some ⟨o, 0, none⟩), .pointer (some ⟨X, 0, none⟩)] w fun e w' => e = .returned (.bool (waitK ms me mb mf x)) ∧ Below w.heap.size w w' := by
 have H : Hid (HasIn w w o X q x ms me mb mf) := h
 have HW : Hid ((Lit.int .i64 x.on).wf = true) := hw
 have HV : Hid (waitK ms me mb mf x = (lookM ms x.on).isSome) := by show waitK ms me mb mf x = _; simp [waitK, hs]
 have k3 : w.cell? ⟨X, 3, none⟩ = some (.int .i64 3) := by rw [(proc_cells h.box).2.2.2.1, hs]
 clear h hw hs
 go_enter Tryz.func203, Tryz.ntmps203
 go_wp2_with fail
 clear k3
 refine tame_region (fun w' => (w'.cell? ⟨o, 4, none⟩ = some (.int .i64 5) ∧ w'.cell? ⟨o, 5, none⟩ = some (.map (some q.bs)) ∧ w'.cell? ⟨X, 7, none⟩ = some (.int .i64 x.on)) ∧ Hid (HasIn w w' o X q x ms me mb mf)) (by kernel_rfl) (hasS3_of H.out.drew) ?_
 iterate 8 (refine yl (v := ?_) ?_ ?_; rotate_left; (intro w0 hS0; obtain ⟨⟨q0, q1, q2⟩, hH⟩ := hS0; go_simp; try with_reducible rfl); simp only [pt, sb, s0, s1])
 refine cl (.bool (lookM ms x.on).isSome) 175 #[.agg #[.int .i64 5, .map (some q.bs)], .int .i64 x.on] ?_ ?_ ?_
 ·intro w0 hS0
  obtain ⟨⟨q0, q1, q2⟩, hH⟩ := hS0
  go_simp
  try with_reducible rfl
 ·intro w0 hS0
  refine (hasSem_any 5 q.bs ms x.on w0 hS0.2.out.ms HW.out).mono ?_
  rintro e w2 ⟨rfl, hb2⟩
  exact ⟨rfl, hasS3_of (hS0.2.out.below hb2)⟩
 simp only [pt, sb, s0, s1]
 (refine yl (v := ?_) ?_ ?_; rotate_left; (intro w0 hS0; obtain ⟨⟨q0, q1, q2⟩, hH⟩ := hS0; go_simp; try with_reducible rfl); simp only [pt, sb, s0, s1])
 refine tame_done (by kernel_rfl) ?_ _
 intro w1 hS1
 go_wp2
 go_ret
 exact ⟨ret_bool HV.out.symm, hS1.2.out.bel⟩
theorem hasS4_of {w w' : World} {o X : Nat} {q : Opn} {x : ProcD} {ms me mb mf : MapL} (h : HasIn w w' o X q x ms me mb mf) : (w'.cell? ⟨o, 6, none⟩ = some (.int .i64 5) ∧ w'.cell? ⟨o, 7, none⟩ = some (.map (some q.be)) ∧ w'.cell? ⟨X, 7, none⟩ = some (.int .i64 x.on)) ∧ Hid (HasIn w w' o X q x ms me mb mf) :=
 ⟨⟨h.opn.cell 6, h.opn.cell 7, (proc_cells h.box).2.2.2.2.2.2.2.1⟩, h⟩
set_option maxRecDepth 100000 in
set_option maxHeartbeats 2000000 in
theorem hasWait_4 (o X : Nat) (q : Opn) (x : ProcD) (ms me mb mf : MapL) (w : World) (h : HasIn w w o X q x ms me mb mf) (hw : (Lit.int .i64 x.on).wf = true) (hs : x.state = 4) :
  Calls Tryz.prog 203 #[.pointer (some ⟨o, 0, none⟩), .pointer (some ⟨X, 0, none⟩)] w fun e w' => e = .returned (.bool (waitK ms me mb mf x)) ∧ Below w.heap.size w w' := by
 have H : Hid (HasIn w w o X q x ms me mb mf) := h
 have HW : Hid ((Lit.int .i64 x.on).wf = true) := hw
 have HV : Hid (waitK ms me mb mf x = (lookM me x.on).isSome) := by show waitK ms me mb mf x = _; simp [waitK, hs]
 have k3 : w.cell? ⟨X, 3, none⟩ = some (.int .i64 4) := by rw [(proc_cells h.box).2.2.2.1, hs]
 clear h hw hs
 go_enter Tryz.func203, Tryz.ntmps203
 go_wp2_with fail
 clear k3
 refine tame_region (fun w' => (w'.cell? ⟨o, 6, none⟩ = some (.int .i64 5) ∧ w'.cell? ⟨o, 7, none⟩ = some (.map (some q.be)) ∧ w'.cell? ⟨X, 7, none⟩ = some (.int .i64 x.on)) ∧ Hid (HasIn w w' o X q x ms me mb mf)) (by kernel_rfl) (hasS4_of H.out.drew) ?_
 iterate 8 (refine yl (v := ?_) ?_ ?_; rotate_left; (intro w0 hS0; obtain ⟨⟨q0, q1, q2⟩, hH⟩ := hS0; go_simp; try with_reducible rfl); simp only [pt, sb, s0, s1])
 refine cl (.bool (lookM me x.on).isSome) 176 #[.agg #[.int .i64 5, .map (some q.be)], .int .i64 x.on] ?_ ?_ ?_
 ·intro w0 hS0
  obtain ⟨⟨q0, q1, q2⟩, hH⟩ := hS0
  go_simp
  try with_reducible rfl
 ·intro w0 hS0
  refine (hasEvent_any 5 q.be me x.on w0 hS0.2.out.me HW.out).mono ?_
  rintro e w2 ⟨rfl, hb2⟩
  exact ⟨rfl, hasS4_of (hS0.2.out.below hb2)⟩
 simp only [pt, sb, s0, s1]
 (refine yl (v := ?_) ?_ ?_; rotate_left; (intro w0 hS0; obtain ⟨⟨q0, q1, q2⟩, hH⟩ := hS0; go_simp; try with_reducible rfl); simp only [pt, sb, s0, s1])
 refine tame_done (by kernel_rfl) ?_ _
 intro w1 hS1
 go_wp2
 go_ret
 exact ⟨ret_bool HV.out.symm, hS1.2.out.bel⟩
theorem hasS5_of {w w' : World} {o X : Nat} {q : Opn} {x : ProcD} {ms me mb mf : MapL} (h : HasIn w w' o X q x ms me mb mf) : (w'.cell? ⟨o, 10, none⟩ = some (.int .i64 5) ∧ w'.cell? ⟨o, 11, none⟩ = some (.map (some q.bf)) ∧ w'.cell? ⟨X, 7, none⟩ = some (.int .i64 x.on)) ∧ Hid (HasIn w w' o X q x ms me mb mf) :=
 ⟨⟨h.opn.cell 10, h.opn.cell 11, (proc_cells h.box).2.2.2.2.2.2.2.1⟩, h⟩
set_option maxRecDepth 100000 in
set_option maxHeartbeats 2000000 in
theorem hasWait_5 (o X : Nat) (q : Opn) (x : ProcD) (ms me mb mf : MapL) (w : World) (h : HasIn w w o X q x ms me mb mf) (hw : (Lit.int .i64 x.on).wf = true) (hs : x.state = 5) :
  Calls Tryz.prog 203 #[.pointer (some ⟨o, 0, none⟩), .pointer (some ⟨X, 0, none⟩)] w fun e w' => e = .returned (.bool (waitK ms me mb mf x)) ∧ Below w.heap.size w w' := by
 have H : Hid (HasIn w w o X q x ms me mb mf) := h
 have HW : Hid ((Lit.int .i64 x.on).wf = true) := hw
 have HV : Hid (waitK ms me mb mf x = (lookM mf x.on).isSome) := by show waitK ms me mb mf x = _; simp [waitK, hs]
 have k3 : w.cell? ⟨X, 3, none⟩ = some (.int .i64 5) := by rw [(proc_cells h.box).2.2.2.1, hs]
 clear h hw hs
 go_enter Tryz.func203, Tryz.ntmps203
 go_wp2_with fail
 clear k3
 refine tame_region (fun w' => (w'.cell? ⟨o, 10, none⟩ = some (.int .i64 5) ∧ w'.cell? ⟨o, 11, none⟩ = some (.map (some q.bf)) ∧ w'.cell? ⟨X, 7, none⟩ = some (.int .i64 x.on)) ∧ Hid (HasIn w w' o X q x ms me mb mf)) (by kernel_rfl) (hasS5_of H.out.drew) ?_
 iterate 8 (refine yl (v := ?_) ?_ ?_; rotate_left; (intro w0 hS0; obtain ⟨⟨q0, q1, q2⟩, hH⟩ := hS0; go_simp; try with_reducible rfl); simp only [pt, sb, s0, s1])
 refine cl (.bool (lookM mf x.on).isSome) 178 #[.agg #[.int .i64 5, .map (some q.bf)], .int .i64 x.on] ?_ ?_ ?_
 ·intro w0 hS0
  obtain ⟨⟨q0, q1, q2⟩, hH⟩ := hS0
  go_simp
  try with_reducible rfl
 ·intro w0 hS0
  refine (hasBuffer_any 5 q.bf mf x.on w0 hS0.2.out.mf HW.out).mono ?_
  rintro e w2 ⟨rfl, hb2⟩
  exact ⟨rfl, hasS5_of (hS0.2.out.below hb2)⟩
 simp only [pt, sb, s0, s1]
 (refine yl (v := ?_) ?_ ?_; rotate_left; (intro w0 hS0; obtain ⟨⟨q0, q1, q2⟩, hH⟩ := hS0; go_simp; try with_reducible rfl); simp only [pt, sb, s0, s1])
 refine tame_done (by kernel_rfl) ?_ _
 intro w1 hS1
 go_wp2
 go_ret
 exact ⟨ret_bool HV.out.symm, hS1.2.out.bel⟩
theorem hasS6_of {w w' : World} {o X : Nat} {q : Opn} {x : ProcD} {ms me mb mf : MapL} (h : HasIn w w' o X q x ms me mb mf) : (w'.cell? ⟨o, 10, none⟩ = some (.int .i64 5) ∧ w'.cell? ⟨o, 11, none⟩ = some (.map (some q.bf)) ∧ w'.cell? ⟨X, 7, none⟩ = some (.int .i64 x.on)) ∧ Hid (HasIn w w' o X q x ms me mb mf) :=
 ⟨⟨h.opn.cell 10, h.opn.cell 11, (proc_cells h.box).2.2.2.2.2.2.2.1⟩, h⟩
set_option maxRecDepth 100000 in
set_option maxHeartbeats 2000000 in
theorem hasWait_6 (o X : Nat) (q : Opn) (x : ProcD) (ms me mb mf : MapL) (w : World) (h : HasIn w w o X q x ms me mb mf) (hw : (Lit.int .i64 x.on).wf = true) (hs : x.state = 6) :
  Calls Tryz.prog 203 #[.pointer (some ⟨o, 0, none⟩), .pointer (some ⟨X, 0, none⟩)] w fun e w' => e = .returned (.bool (waitK ms me mb mf x)) ∧ Below w.heap.size w w' := by
 have H : Hid (HasIn w w o X q x ms me mb mf) := h
 have HW : Hid ((Lit.int .i64 x.on).wf = true) := hw
 have HV : Hid (waitK ms me mb mf x = (lookM mf x.on).isSome) := by show waitK ms me mb mf x = _; simp [waitK, hs]
 have k3 : w.cell? ⟨X, 3, none⟩ = some (.int .i64 6) := by rw [(proc_cells h.box).2.2.2.1, hs]
 clear h hw hs
 go_enter Tryz.func203, Tryz.ntmps203
 go_wp2_with fail
 clear k3
 refine tame_region (fun w' => (w'.cell? ⟨o, 10, none⟩ = some (.int .i64 5) ∧ w'.cell? ⟨o, 11, none⟩ = some (.map (some q.bf)) ∧ w'.cell? ⟨X, 7, none⟩ = some (.int .i64 x.on)) ∧ Hid (HasIn w w' o X q x ms me mb mf)) (by kernel_rfl) (hasS6_of H.out.drew) ?_
 iterate 8 (refine yl (v := ?_) ?_ ?_; rotate_left; (intro w0 hS0; obtain ⟨⟨q0, q1, q2⟩, hH⟩ := hS0; go_simp; try with_reducible rfl); simp only [pt, sb, s0, s1])
 refine cl (.bool (lookM mf x.on).isSome) 178 #[.agg #[.int .i64 5, .map (some q.bf)], .int .i64 x.on] ?_ ?_ ?_
 ·intro w0 hS0
  obtain ⟨⟨q0, q1, q2⟩, hH⟩ := hS0
  go_simp
  try with_reducible rfl
 ·intro w0 hS0
  refine (hasBuffer_any 5 q.bf mf x.on w0 hS0.2.out.mf HW.out).mono ?_
  rintro e w2 ⟨rfl, hb2⟩
  exact ⟨rfl, hasS6_of (hS0.2.out.below hb2)⟩
 simp only [pt, sb, s0, s1]
 (refine yl (v := ?_) ?_ ?_; rotate_left; (intro w0 hS0; obtain ⟨⟨q0, q1, q2⟩, hH⟩ := hS0; go_simp; try with_reducible rfl); simp only [pt, sb, s0, s1])
 refine tame_done (by kernel_rfl) ?_ _
 intro w1 hS1
 go_wp2
 go_ret
 exact ⟨ret_bool HV.out.symm, hS1.2.out.bel⟩
theorem hasS7_of {w w' : World} {o X : Nat} {q : Opn} {x : ProcD} {ms me mb mf : MapL} (h : HasIn w w' o X q x ms me mb mf) : (w'.cell? ⟨o, 8, none⟩ = some (.int .i64 5) ∧ w'.cell? ⟨o, 9, none⟩ = some (.map (some q.bb)) ∧ w'.cell? ⟨X, 7, none⟩ = some (.int .i64 x.on)) ∧ Hid (HasIn w w' o X q x ms me mb mf) :=
 ⟨⟨h.opn.cell 8, h.opn.cell 9, (proc_cells h.box).2.2.2.2.2.2.2.1⟩, h⟩
set_option maxRecDepth 100000 in
set_option maxHeartbeats 2000000 in
theorem hasWait_7 (o X : Nat) (q : Opn) (x : ProcD) (ms me mb mf : MapL) (w : World) (h : HasIn w w o X q x ms me mb mf) (hw : (Lit.int .i64 x.on).wf = true) (hs : x.state = 7) :
  Calls Tryz.prog 203 #[.pointer (some ⟨o, 0, none⟩), .pointer (some ⟨X, 0, none⟩)] w fun e w' => e = .returned (.bool (waitK ms me mb mf x)) ∧ Below w.heap.size w w' := by
 have H : Hid (HasIn w w o X q x ms me mb mf) := h
 have HW : Hid ((Lit.int .i64 x.on).wf = true) := hw
 have HV : Hid (waitK ms me mb mf x = (lookM mb x.on).isSome) := by show waitK ms me mb mf x = _; simp [waitK, hs]
 have k3 : w.cell? ⟨X, 3, none⟩ = some (.int .i64 7) := by rw [(proc_cells h.box).2.2.2.1, hs]
 clear h hw hs
 go_enter Tryz.func203, Tryz.ntmps203
 go_wp2_with fail
 clear k3
 refine tame_region (fun w' => (w'.cell? ⟨o, 8, none⟩ = some (.int .i64 5) ∧ w'.cell? ⟨o, 9, none⟩ = some (.map (some q.bb)) ∧ w'.cell? ⟨X, 7, none⟩ = some (.int .i64 x.on)) ∧ Hid (HasIn w w' o X q x ms me mb mf)) (by kernel_rfl) (hasS7_of H.out.drew) ?_
 iterate 8 (refine yl (v := ?_) ?_ ?_; rotate_left; (intro w0 hS0; obtain ⟨⟨q0, q1, q2⟩, hH⟩ := hS0; go_simp; try with_reducible rfl); simp only [pt, sb, s0, s1])
 refine cl (.bool (lookM mb x.on).isSome) 177 #[.agg #[.int .i64 5, .map (some q.bb)], .int .i64 x.on] ?_ ?_ ?_
 ·intro w0 hS0
  obtain ⟨⟨q0, q1, q2⟩, hH⟩ := hS0
  go_simp
  try with_reducible rfl
 ·intro w0 hS0
  refine (hasBoard_any 5 q.bb mb x.on w0 hS0.2.out.mb HW.out).mono ?_
  rintro e w2 ⟨rfl, hb2⟩
  exact ⟨rfl, hasS7_of (hS0.2.out.below hb2)⟩
 simp only [pt, sb, s0, s1]
 (refine yl (v := ?_) ?_ ?_; rotate_left; (intro w0 hS0; obtain ⟨⟨q0, q1, q2⟩, hH⟩ := hS0; go_simp; try with_reducible rfl); simp only [pt, sb, s0, s1])
 refine tame_done (by kernel_rfl) ?_ _
 intro w1 hS1
 go_wp2
 go_ret
 exact ⟨ret_bool HV.out.symm, hS1.2.out.bel⟩

set_option maxHeartbeats 2000000 in
theorem hasWait_none (o X : Nat) (q : Opn) (x : ProcD) (ms me mb mf : MapL) (w : World) (h : HasIn w w o X q x ms me mb mf) (h3 : ¬ x.state = 3) (h4 : ¬ x.state = 4) (h5 : ¬ x.state = 5) (h6 : ¬ x.state = 6) (h7 : ¬ x.state = 7) :
  Calls Tryz.prog 203 #[.pointer (some ⟨o, 0, none⟩), .pointer (some ⟨X, 0, none⟩)] w fun e w' => e = .returned (.bool (waitK ms me mb mf x)) ∧ Below w.heap.size w w' := by
 have HV : Hid (waitK ms me mb mf x = true) := by show waitK ms me mb mf x = true; simp [waitK, h3, h4, h5, h6, h7]
 have k3 := (proc_cells h.box).2.2.2.1
 have s3 : (x.state == 3) = false := by simp [h3]
 have s4 : (x.state == 4) = false := by simp [h4]
 have s5 : (x.state == 5) = false := by simp [h5]
 have s6 : (x.state == 6) = false := by simp [h6]
 have s7 : (x.state == 7) = false := by simp [h7]
 clear h h3 h4 h5 h6 h7
 go_enter Tryz.func203, Tryz.ntmps203
 go_wp2
 go_ret
 exact ⟨ret_bool HV.out.symm, Below.refl _ _⟩
theorem hasWait_any (o X : Nat) (q : Opn) (x : ProcD) (ms me mb mf : MapL) (w : World) (h : HasIn w w o X q x ms me mb mf) (hw : (Lit.int .i64 x.on).wf = true) :
  Calls Tryz.prog 203 #[.pointer (some ⟨o, 0, none⟩), .pointer (some ⟨X, 0, none⟩)] w fun e w' => e = .returned (.bool (waitK ms me mb mf x)) ∧ Below w.heap.size w w' := by
 by_cases h3 : x.state = 3
 ·exact hasWait_3 o X q x ms me mb mf w h hw h3
 by_cases h4 : x.state = 4
 ·exact hasWait_4 o X q x ms me mb mf w h hw h4
 by_cases h5 : x.state = 5
 ·exact hasWait_5 o X q x ms me mb mf w h hw h5
 by_cases h6 : x.state = 6
 ·exact hasWait_6 o X q x ms me mb mf w h hw h6
 by_cases h7 : x.state = 7
 ·exact hasWait_7 o X q x ms me mb mf w h hw h7
 exact hasWait_none o X q x ms me mb mf w h h3 h4 h5 h6 h7

end Go.Proofs.YtkbcplnlehdjfaaGreat

/- The state of a process: what stateOk answers. (Made by mkstate.py.) -/
namespace Go.Proofs.YtkbcplnlehdjfaaGreat
open Go.RowKit

/-- What stateOk walks through: the process in its box. -/
structure StIn (w W : World) (x : ProcD) : Prop where
 box : W.heap[w.heap.size]? = some (.cells (procVs x) 43 (0, 0))
 fit : ProcFit W x
 bel : Below w.heap.size w W
theorem StIn.below {w W W' : World} {x : ProcD} (h : StIn w W x) (hb : Below W.heap.size W W') : StIn w W' x :=
 ⟨(hb.block _ (Array.getElem?_eq_some_iff.1 h.box).1).trans h.box, h.fit.below hb, h.bel.trans (hb.mono h.bel.size)⟩
theorem StIn.start {w : World} {x : ProcD} (h : ProcFit w x) : StIn w (w.alloc (.cells (procVs x) 43)) x := by
 have b1 : Below w.heap.size w (w.alloc (.cells (procVs x) 43)) := (Below.refl _ _).alloc (Nat.le_refl _) _
 exact ⟨heap_alloc_new _ _, h.below b1, b1⟩
theorem emptyB_yes {s : ByteArray} (h : s.toList = []) : emptyB s = true := by simp [emptyB, h]
theorem emptyB_no {s : ByteArray} (h : ¬ s.toList = []) : emptyB s = false := by simp [emptyB, h]
theorem hided {p : Prop} (h : p) : Hid p := h
theorem beq_dec (a b : Int) : (a == b) = decide (a = b) := by rw [Bool.eq_iff_iff]; simp
theorem ways4 (a b c d : Bool) : a = false ∨ (a = true ∧ b = false) ∨ (a = true ∧ b = true ∧ c = false) ∨ (a = true ∧ b = true ∧ c = true ∧ d = false) ∨ (a = true ∧ b = true ∧ c = true ∧ d = true) := by
 revert a b c d
 decide
theorem ways5 (a b c d e : Bool) : a = false ∨ (a = true ∧ b = false) ∨ (a = true ∧ b = true ∧ c = false) ∨ (a = true ∧ b = true ∧ c = true ∧ d = false) ∨ (a = true ∧ b = true ∧ c = true ∧ d = true ∧ e = false) ∨ (a = true ∧ b = true ∧ c = true ∧ d = true ∧ e = true) := by
 revert a b c d e
 decide
theorem ways_or (a b c d : Bool) : a = false ∨ (a = true ∧ b = false) ∨ (a = true ∧ b = true ∧ c = true) ∨ (a = true ∧ b = true ∧ c = false ∧ d = false) ∨ (a = true ∧ b = true ∧ c = false ∧ d = true) := by
 revert a b c d
 decide

theorem state0 {x : ProcP} (h : x.state = 0) : stateB x = ((x.pc == 0) && (x.left == 0) && (x.wake == 0) && (x.on == 0) && (x.since == 0) && emptyB x.held) := by simp [stateB, h, beq_dec]
set_option maxRecDepth 100000 in
set_option maxHeartbeats 8000000 in
theorem stateOk_s0 (x : ProcD) (w : World) (hf : ProcFit w x) (hs : x.state = 0) : Calls Tryz.prog 286 #[.agg (procVs x)] w fun e w' => e = .returned (.bool (stateB x.toProcP)) ∧ Below w.heap.size w w' := by
 have HE := hided (state0 hs)
 have HI := hided (StIn.start hf)
 clear hf
 obtain ⟨⟨id, prio, prog, state, pc, left, wake, on, held, got, code, since⟩, progA, progC⟩ := x
 replace hs : state = 0 := hs
 subst hs
 obtain ⟨v0, h0⟩ : ∃ v, (pc == 0) = v := ⟨_, rfl⟩
 obtain ⟨v1, h1⟩ : ∃ v, (left == 0) = v := ⟨_, rfl⟩
 obtain ⟨v2, h2⟩ : ∃ v, (wake == 0) = v := ⟨_, rfl⟩
 obtain ⟨v3, h3⟩ : ∃ v, (on == 0) = v := ⟨_, rfl⟩
 obtain ⟨v4, h4⟩ : ∃ v, (since == 0) = v := ⟨_, rfl⟩
 have HE := hided (HE.out.trans (show _ = (v0 && v1 && v2 && v3 && v4 && emptyB held) by simp only [h0, h1, h2, h3, h4]))
 obtain ⟨c0, c1, c2, c3, c4, c5, c6, c7, c8, c9, c10, c11⟩ := proc_cells HI.out.box
 unfold procVs at *
 rcases ways5 v0 v1 v2 v3 v4 with rfl | ⟨rfl, rfl⟩ | ⟨rfl, rfl, rfl⟩ | ⟨rfl, rfl, rfl, rfl⟩ | ⟨rfl, rfl, rfl, rfl, rfl⟩ | ⟨rfl, rfl, rfl, rfl, rfl⟩
 all_goals
  go_enter Tryz.func286, Tryz.ntmps286
  go_wp2
  go_ret
  exact ⟨ret_bool (by rw [HE.out]; simp [emptyB]), HI.out.bel⟩

theorem state1 {x : ProcP} (h : x.state = 1) : stateB x = (hasOpB x && leftB x && (x.wake == 0) && (x.on == 0) && emptyB x.held) := by simp [stateB, h, beq_dec]
set_option maxRecDepth 100000 in
set_option maxHeartbeats 8000000 in
theorem stateOk_s1 (x : ProcD) (w : World) (hf : ProcFit w x) (hs : x.state = 1) : Calls Tryz.prog 286 #[.agg (procVs x)] w fun e w' => e = .returned (.bool (stateB x.toProcP)) ∧ Below w.heap.size w w' := by
 have HE := hided (state1 hs)
 have HI := hided (StIn.start hf)
 clear hf
 obtain ⟨⟨id, prio, prog, state, pc, left, wake, on, held, got, code, since⟩, progA, progC⟩ := x
 replace hs : state = 1 := hs
 subst hs
 obtain ⟨v0, h0⟩ : ∃ v, hasOpB ⟨id, prio, prog, 1, pc, left, wake, on, held, got, code, since⟩ = v := ⟨_, rfl⟩
 obtain ⟨v1, h1⟩ : ∃ v, leftB ⟨id, prio, prog, 1, pc, left, wake, on, held, got, code, since⟩ = v := ⟨_, rfl⟩
 obtain ⟨v2, h2⟩ : ∃ v, (wake == 0) = v := ⟨_, rfl⟩
 obtain ⟨v3, h3⟩ : ∃ v, (on == 0) = v := ⟨_, rfl⟩
 have HE := hided (HE.out.trans (show _ = (v0 && v1 && v2 && v3 && emptyB held) by simp only [h0, h1, h2, h3]))
 have HOP := hided h0
 clear h0
 have HLF := hided h1
 clear h1
 obtain ⟨c0, c1, c2, c3, c4, c5, c6, c7, c8, c9, c10, c11⟩ := proc_cells HI.out.box
 unfold procVs at *
 rcases ways4 v0 v1 v2 v3 with rfl | ⟨rfl, rfl⟩ | ⟨rfl, rfl, rfl⟩ | ⟨rfl, rfl, rfl, rfl⟩ | ⟨rfl, rfl, rfl, rfl⟩
 all_goals
  go_enter Tryz.func286, Tryz.ntmps286
  go_wp2_with (first | (go_at_call 229; refine (hasOp_any _ _ HI.out.fit.1.prog).mono ?_; rintro e w1 ⟨rfl, hb1⟩; have HI := hided (HI.out.below hb1); obtain ⟨c0, c1, c2, c3, c4, c5, c6, c7, c8, c9, c10, c11⟩ := proc_cells HI.out.box; clear hb1; rw [HOP.out]) | (go_at_call 288; refine (leftOk_any _ _ HI.out.fit HOP.out).mono ?_; rintro e w1 ⟨rfl, hb1⟩; have HI := hided (HI.out.below hb1); obtain ⟨c0, c1, c2, c3, c4, c5, c6, c7, c8, c9, c10, c11⟩ := proc_cells HI.out.box; clear hb1; rw [HLF.out]))
  go_ret
  exact ⟨ret_bool (by rw [HE.out]; simp [emptyB]), HI.out.bel⟩

theorem state2 {x : ProcP} (h : x.state = 2) : stateB x = (hasOpB x && (x.left == 0) && inB x.wake 1 2000000000 && (x.on == 0) && emptyB x.held) := by simp [stateB, h, beq_dec]
set_option maxRecDepth 100000 in
set_option maxHeartbeats 8000000 in
theorem stateOk_s2 (x : ProcD) (w : World) (hf : ProcFit w x) (hs : x.state = 2) : Calls Tryz.prog 286 #[.agg (procVs x)] w fun e w' => e = .returned (.bool (stateB x.toProcP)) ∧ Below w.heap.size w w' := by
 have HE := hided (state2 hs)
 have HI := hided (StIn.start hf)
 clear hf
 obtain ⟨⟨id, prio, prog, state, pc, left, wake, on, held, got, code, since⟩, progA, progC⟩ := x
 replace hs : state = 2 := hs
 subst hs
 obtain ⟨v0, h0⟩ : ∃ v, hasOpB ⟨id, prio, prog, 2, pc, left, wake, on, held, got, code, since⟩ = v := ⟨_, rfl⟩
 obtain ⟨v1, h1⟩ : ∃ v, (left == 0) = v := ⟨_, rfl⟩
 obtain ⟨v2, h2⟩ : ∃ v, inB wake 1 2000000000 = v := ⟨_, rfl⟩
 obtain ⟨v3, h3⟩ : ∃ v, (on == 0) = v := ⟨_, rfl⟩
 have HE := hided (HE.out.trans (show _ = (v0 && v1 && v2 && v3 && emptyB held) by simp only [h0, h1, h2, h3]))
 have HOP := hided h0
 clear h0
 have HWK := hided h2
 clear h2
 obtain ⟨c0, c1, c2, c3, c4, c5, c6, c7, c8, c9, c10, c11⟩ := proc_cells HI.out.box
 unfold procVs at *
 rcases ways4 v0 v1 v2 v3 with rfl | ⟨rfl, rfl⟩ | ⟨rfl, rfl, rfl⟩ | ⟨rfl, rfl, rfl, rfl⟩ | ⟨rfl, rfl, rfl, rfl⟩
 all_goals
  go_enter Tryz.func286, Tryz.ntmps286
  go_wp2_with (first | (go_at_call 229; refine (hasOp_any _ _ HI.out.fit.1.prog).mono ?_; rintro e w1 ⟨rfl, hb1⟩; have HI := hided (HI.out.below hb1); obtain ⟨c0, c1, c2, c3, c4, c5, c6, c7, c8, c9, c10, c11⟩ := proc_cells HI.out.box; clear hb1; rw [HOP.out]) | (go_at_call 289; refine (isWake_any wake _).mono ?_; rintro e w1 ⟨rfl, hw1⟩; rw [HWK.out, hw1]; clear hw1 w1))
  go_ret
  exact ⟨ret_bool (by rw [HE.out]; simp [emptyB]), HI.out.bel⟩

theorem state3 {x : ProcP} (h : x.state = 3) : stateB x = (hasOpB x && (x.left == 0) && (inB x.wake 1 2000000000 || (x.wake == -1)) && emptyB x.held) := by simp [stateB, h, beq_dec, wakeB]
set_option maxRecDepth 100000 in
set_option maxHeartbeats 8000000 in
theorem stateOk_s3 (x : ProcD) (w : World) (hf : ProcFit w x) (hs : x.state = 3) : Calls Tryz.prog 286 #[.agg (procVs x)] w fun e w' => e = .returned (.bool (stateB x.toProcP)) ∧ Below w.heap.size w w' := by
 have HE := hided (state3 hs)
 have HI := hided (StIn.start hf)
 clear hf
 obtain ⟨⟨id, prio, prog, state, pc, left, wake, on, held, got, code, since⟩, progA, progC⟩ := x
 replace hs : state = 3 := hs
 subst hs
 obtain ⟨v0, h0⟩ : ∃ v, hasOpB ⟨id, prio, prog, 3, pc, left, wake, on, held, got, code, since⟩ = v := ⟨_, rfl⟩
 obtain ⟨v1, h1⟩ : ∃ v, (left == 0) = v := ⟨_, rfl⟩
 obtain ⟨v2, h2⟩ : ∃ v, inB wake 1 2000000000 = v := ⟨_, rfl⟩
 obtain ⟨v3, h3⟩ : ∃ v, (wake == -1) = v := ⟨_, rfl⟩
 have HE := hided (HE.out.trans (show _ = (v0 && v1 && (v2 || v3) && emptyB held) by simp only [h0, h1, h2, h3]))
 have HOP := hided h0
 clear h0
 have HWK := hided h2
 clear h2
 obtain ⟨c0, c1, c2, c3, c4, c5, c6, c7, c8, c9, c10, c11⟩ := proc_cells HI.out.box
 unfold procVs at *
 rcases ways_or v0 v1 v2 v3 with rfl | ⟨rfl, rfl⟩ | ⟨rfl, rfl, rfl⟩ | ⟨rfl, rfl, rfl, rfl⟩ | ⟨rfl, rfl, rfl, rfl⟩
 all_goals
  go_enter Tryz.func286, Tryz.ntmps286
  go_wp2_with (first | (go_at_call 229; refine (hasOp_any _ _ HI.out.fit.1.prog).mono ?_; rintro e w1 ⟨rfl, hb1⟩; have HI := hided (HI.out.below hb1); obtain ⟨c0, c1, c2, c3, c4, c5, c6, c7, c8, c9, c10, c11⟩ := proc_cells HI.out.box; clear hb1; rw [HOP.out]) | (go_at_call 289; refine (isWake_any wake _).mono ?_; rintro e w1 ⟨rfl, hw1⟩; rw [HWK.out, hw1]; clear hw1 w1))
  go_ret
  exact ⟨ret_bool (by rw [HE.out]; simp [emptyB]), HI.out.bel⟩

theorem state4 {x : ProcP} (h : x.state = 4) : stateB x = (hasOpB x && (x.left == 0) && (inB x.wake 1 2000000000 || (x.wake == -1)) && emptyB x.held) := by simp [stateB, h, beq_dec, wakeB]
set_option maxRecDepth 100000 in
set_option maxHeartbeats 8000000 in
theorem stateOk_s4 (x : ProcD) (w : World) (hf : ProcFit w x) (hs : x.state = 4) : Calls Tryz.prog 286 #[.agg (procVs x)] w fun e w' => e = .returned (.bool (stateB x.toProcP)) ∧ Below w.heap.size w w' := by
 have HE := hided (state4 hs)
 have HI := hided (StIn.start hf)
 clear hf
 obtain ⟨⟨id, prio, prog, state, pc, left, wake, on, held, got, code, since⟩, progA, progC⟩ := x
 replace hs : state = 4 := hs
 subst hs
 obtain ⟨v0, h0⟩ : ∃ v, hasOpB ⟨id, prio, prog, 4, pc, left, wake, on, held, got, code, since⟩ = v := ⟨_, rfl⟩
 obtain ⟨v1, h1⟩ : ∃ v, (left == 0) = v := ⟨_, rfl⟩
 obtain ⟨v2, h2⟩ : ∃ v, inB wake 1 2000000000 = v := ⟨_, rfl⟩
 obtain ⟨v3, h3⟩ : ∃ v, (wake == -1) = v := ⟨_, rfl⟩
 have HE := hided (HE.out.trans (show _ = (v0 && v1 && (v2 || v3) && emptyB held) by simp only [h0, h1, h2, h3]))
 have HOP := hided h0
 clear h0
 have HWK := hided h2
 clear h2
 obtain ⟨c0, c1, c2, c3, c4, c5, c6, c7, c8, c9, c10, c11⟩ := proc_cells HI.out.box
 unfold procVs at *
 rcases ways_or v0 v1 v2 v3 with rfl | ⟨rfl, rfl⟩ | ⟨rfl, rfl, rfl⟩ | ⟨rfl, rfl, rfl, rfl⟩ | ⟨rfl, rfl, rfl, rfl⟩
 all_goals
  go_enter Tryz.func286, Tryz.ntmps286
  go_wp2_with (first | (go_at_call 229; refine (hasOp_any _ _ HI.out.fit.1.prog).mono ?_; rintro e w1 ⟨rfl, hb1⟩; have HI := hided (HI.out.below hb1); obtain ⟨c0, c1, c2, c3, c4, c5, c6, c7, c8, c9, c10, c11⟩ := proc_cells HI.out.box; clear hb1; rw [HOP.out]) | (go_at_call 289; refine (isWake_any wake _).mono ?_; rintro e w1 ⟨rfl, hw1⟩; rw [HWK.out, hw1]; clear hw1 w1))
  go_ret
  exact ⟨ret_bool (by rw [HE.out]; simp [emptyB]), HI.out.bel⟩

theorem state5 {x : ProcP} (h : x.state = 5) : stateB x = (hasOpB x && (x.left == 0) && (inB x.wake 1 2000000000 || (x.wake == -1))) := by simp [stateB, h, beq_dec, wakeB]
set_option maxRecDepth 100000 in
set_option maxHeartbeats 8000000 in
theorem stateOk_s5 (x : ProcD) (w : World) (hf : ProcFit w x) (hs : x.state = 5) : Calls Tryz.prog 286 #[.agg (procVs x)] w fun e w' => e = .returned (.bool (stateB x.toProcP)) ∧ Below w.heap.size w w' := by
 have HE := hided (state5 hs)
 have HI := hided (StIn.start hf)
 clear hf
 obtain ⟨⟨id, prio, prog, state, pc, left, wake, on, held, got, code, since⟩, progA, progC⟩ := x
 replace hs : state = 5 := hs
 subst hs
 obtain ⟨v0, h0⟩ : ∃ v, hasOpB ⟨id, prio, prog, 5, pc, left, wake, on, held, got, code, since⟩ = v := ⟨_, rfl⟩
 obtain ⟨v1, h1⟩ : ∃ v, (left == 0) = v := ⟨_, rfl⟩
 obtain ⟨v2, h2⟩ : ∃ v, inB wake 1 2000000000 = v := ⟨_, rfl⟩
 obtain ⟨v3, h3⟩ : ∃ v, (wake == -1) = v := ⟨_, rfl⟩
 have HE := hided (HE.out.trans (show _ = (v0 && v1 && (v2 || v3)) by simp only [h0, h1, h2, h3]))
 have HOP := hided h0
 clear h0
 have HWK := hided h2
 clear h2
 obtain ⟨c0, c1, c2, c3, c4, c5, c6, c7, c8, c9, c10, c11⟩ := proc_cells HI.out.box
 unfold procVs at *
 rcases ways_or v0 v1 v2 v3 with rfl | ⟨rfl, rfl⟩ | ⟨rfl, rfl, rfl⟩ | ⟨rfl, rfl, rfl, rfl⟩ | ⟨rfl, rfl, rfl, rfl⟩
 all_goals
  go_enter Tryz.func286, Tryz.ntmps286
  go_wp2_with (first | (go_at_call 229; refine (hasOp_any _ _ HI.out.fit.1.prog).mono ?_; rintro e w1 ⟨rfl, hb1⟩; have HI := hided (HI.out.below hb1); obtain ⟨c0, c1, c2, c3, c4, c5, c6, c7, c8, c9, c10, c11⟩ := proc_cells HI.out.box; clear hb1; rw [HOP.out]) | (go_at_call 289; refine (isWake_any wake _).mono ?_; rintro e w1 ⟨rfl, hw1⟩; rw [HWK.out, hw1]; clear hw1 w1))
  go_ret
  exact ⟨ret_bool (by rw [HE.out]; simp), HI.out.bel⟩

theorem state6 {x : ProcP} (h : x.state = 6) : stateB x = (hasOpB x && (x.left == 0) && (inB x.wake 1 2000000000 || (x.wake == -1)) && emptyB x.held) := by simp [stateB, h, beq_dec, wakeB]
set_option maxRecDepth 100000 in
set_option maxHeartbeats 8000000 in
theorem stateOk_s6 (x : ProcD) (w : World) (hf : ProcFit w x) (hs : x.state = 6) : Calls Tryz.prog 286 #[.agg (procVs x)] w fun e w' => e = .returned (.bool (stateB x.toProcP)) ∧ Below w.heap.size w w' := by
 have HE := hided (state6 hs)
 have HI := hided (StIn.start hf)
 clear hf
 obtain ⟨⟨id, prio, prog, state, pc, left, wake, on, held, got, code, since⟩, progA, progC⟩ := x
 replace hs : state = 6 := hs
 subst hs
 obtain ⟨v0, h0⟩ : ∃ v, hasOpB ⟨id, prio, prog, 6, pc, left, wake, on, held, got, code, since⟩ = v := ⟨_, rfl⟩
 obtain ⟨v1, h1⟩ : ∃ v, (left == 0) = v := ⟨_, rfl⟩
 obtain ⟨v2, h2⟩ : ∃ v, inB wake 1 2000000000 = v := ⟨_, rfl⟩
 obtain ⟨v3, h3⟩ : ∃ v, (wake == -1) = v := ⟨_, rfl⟩
 have HE := hided (HE.out.trans (show _ = (v0 && v1 && (v2 || v3) && emptyB held) by simp only [h0, h1, h2, h3]))
 have HOP := hided h0
 clear h0
 have HWK := hided h2
 clear h2
 obtain ⟨c0, c1, c2, c3, c4, c5, c6, c7, c8, c9, c10, c11⟩ := proc_cells HI.out.box
 unfold procVs at *
 rcases ways_or v0 v1 v2 v3 with rfl | ⟨rfl, rfl⟩ | ⟨rfl, rfl, rfl⟩ | ⟨rfl, rfl, rfl, rfl⟩ | ⟨rfl, rfl, rfl, rfl⟩
 all_goals
  go_enter Tryz.func286, Tryz.ntmps286
  go_wp2_with (first | (go_at_call 229; refine (hasOp_any _ _ HI.out.fit.1.prog).mono ?_; rintro e w1 ⟨rfl, hb1⟩; have HI := hided (HI.out.below hb1); obtain ⟨c0, c1, c2, c3, c4, c5, c6, c7, c8, c9, c10, c11⟩ := proc_cells HI.out.box; clear hb1; rw [HOP.out]) | (go_at_call 289; refine (isWake_any wake _).mono ?_; rintro e w1 ⟨rfl, hw1⟩; rw [HWK.out, hw1]; clear hw1 w1))
  go_ret
  exact ⟨ret_bool (by rw [HE.out]; simp [emptyB]), HI.out.bel⟩

theorem state7 {x : ProcP} (h : x.state = 7) : stateB x = (hasOpB x && (x.left == 0) && (inB x.wake 1 2000000000 || (x.wake == -1)) && emptyB x.held) := by simp [stateB, h, beq_dec, wakeB]
set_option maxRecDepth 100000 in
set_option maxHeartbeats 8000000 in
theorem stateOk_s7 (x : ProcD) (w : World) (hf : ProcFit w x) (hs : x.state = 7) : Calls Tryz.prog 286 #[.agg (procVs x)] w fun e w' => e = .returned (.bool (stateB x.toProcP)) ∧ Below w.heap.size w w' := by
 have HE := hided (state7 hs)
 have HI := hided (StIn.start hf)
 clear hf
 obtain ⟨⟨id, prio, prog, state, pc, left, wake, on, held, got, code, since⟩, progA, progC⟩ := x
 replace hs : state = 7 := hs
 subst hs
 obtain ⟨v0, h0⟩ : ∃ v, hasOpB ⟨id, prio, prog, 7, pc, left, wake, on, held, got, code, since⟩ = v := ⟨_, rfl⟩
 obtain ⟨v1, h1⟩ : ∃ v, (left == 0) = v := ⟨_, rfl⟩
 obtain ⟨v2, h2⟩ : ∃ v, inB wake 1 2000000000 = v := ⟨_, rfl⟩
 obtain ⟨v3, h3⟩ : ∃ v, (wake == -1) = v := ⟨_, rfl⟩
 have HE := hided (HE.out.trans (show _ = (v0 && v1 && (v2 || v3) && emptyB held) by simp only [h0, h1, h2, h3]))
 have HOP := hided h0
 clear h0
 have HWK := hided h2
 clear h2
 obtain ⟨c0, c1, c2, c3, c4, c5, c6, c7, c8, c9, c10, c11⟩ := proc_cells HI.out.box
 unfold procVs at *
 rcases ways_or v0 v1 v2 v3 with rfl | ⟨rfl, rfl⟩ | ⟨rfl, rfl, rfl⟩ | ⟨rfl, rfl, rfl, rfl⟩ | ⟨rfl, rfl, rfl, rfl⟩
 all_goals
  go_enter Tryz.func286, Tryz.ntmps286
  go_wp2_with (first | (go_at_call 229; refine (hasOp_any _ _ HI.out.fit.1.prog).mono ?_; rintro e w1 ⟨rfl, hb1⟩; have HI := hided (HI.out.below hb1); obtain ⟨c0, c1, c2, c3, c4, c5, c6, c7, c8, c9, c10, c11⟩ := proc_cells HI.out.box; clear hb1; rw [HOP.out]) | (go_at_call 289; refine (isWake_any wake _).mono ?_; rintro e w1 ⟨rfl, hw1⟩; rw [HWK.out, hw1]; clear hw1 w1))
  go_ret
  exact ⟨ret_bool (by rw [HE.out]; simp [emptyB]), HI.out.bel⟩

set_option maxHeartbeats 1000000 in
theorem stateOk_none (x : ProcD) (w : World) (h0 : ¬ x.state = 0) (h1 : ¬ x.state = 1) (h2 : ¬ x.state = 2) (h3 : ¬ x.state = 3) (h4 : ¬ x.state = 4) (h5 : ¬ x.state = 5) (h6 : ¬ x.state = 6) (h7 : ¬ x.state = 7) : Calls Tryz.prog 286 #[.agg (procVs x)] w fun e w' => e = .returned (.bool (stateB x.toProcP)) ∧ Below w.heap.size w w' := by
 have HV : Hid (stateB x.toProcP = false) := by show stateB x.toProcP = false; simp [stateB, h0, h1, h2, h3, h4, h5, h6, h7]
 have s0 : (x.state == 0) = false := by simp [h0]
 have s1 : (x.state == 1) = false := by simp [h1]
 have s2 : (x.state == 2) = false := by simp [h2]
 have s3 : (x.state == 3) = false := by simp [h3]
 have s4 : (x.state == 4) = false := by simp [h4]
 have s5 : (x.state == 5) = false := by simp [h5]
 have s6 : (x.state == 6) = false := by simp [h6]
 have s7 : (x.state == 7) = false := by simp [h7]
 clear h0 h1 h2 h3 h4 h5 h6 h7
 unfold procVs
 go_enter Tryz.func286, Tryz.ntmps286
 go_wp2
 go_ret
 exact ⟨ret_bool HV.out.symm, (Below.refl _ _).alloc (Nat.le_refl _) _⟩
theorem stateOk_any (x : ProcD) (w : World) (hf : ProcFit w x) : Calls Tryz.prog 286 #[.agg (procVs x)] w fun e w' => e = .returned (.bool (stateB x.toProcP)) ∧ Below w.heap.size w w' := by
 by_cases h0 : x.state = 0
 ·exact stateOk_s0 x w hf h0
 by_cases h1 : x.state = 1
 ·exact stateOk_s1 x w hf h1
 by_cases h2 : x.state = 2
 ·exact stateOk_s2 x w hf h2
 by_cases h3 : x.state = 3
 ·exact stateOk_s3 x w hf h3
 by_cases h4 : x.state = 4
 ·exact stateOk_s4 x w hf h4
 by_cases h5 : x.state = 5
 ·exact stateOk_s5 x w hf h5
 by_cases h6 : x.state = 6
 ·exact stateOk_s6 x w hf h6
 by_cases h7 : x.state = 7
 ·exact stateOk_s7 x w hf h7
 exact stateOk_none x w h0 h1 h2 h3 h4 h5 h6 h7

end Go.Proofs.YtkbcplnlehdjfaaGreat

/- A process is right by itself: what right answers. -/
namespace Go.Proofs.YtkbcplnlehdjfaaGreat
open Go.RowKit

set_option maxRecDepth 100000 in
set_option maxHeartbeats 4000000 in
theorem rightProc_any (x : ProcD) (w : World) (hf : ProcFit w x) : Calls Tryz.prog 283 #[.agg (procVs x)] w fun e w' => e = .returned (.bool (procB x.toProcP)) ∧ Below w.heap.size w w' := by
 have HI : Hid (StIn w (w.alloc (.cells (procVs x) 43)) x) := StIn.start hf
 have HE : Hid (procB x.toProcP = (inB x.prio 1 50 && progL x.prog && plainB x.held && plainB x.got && inB x.code 0 3 && stateB x.toProcP)) := rfl
 have HB : Hid (Below w.heap.size w (w.alloc (.cells (procVs x) 43))) := HI.out.bel
 obtain ⟨c0, c1, c2, c3, c4, c5, c6, c7, c8, c9, c10, c11⟩ := proc_cells HI.out.box
 clear hf
 unfold procVs at *
 by_cases h1 : 1 ≤ x.prio
 rotate_left
 ·have HV : Hid (procB x.toProcP = false) := by show procB _ = false; rw [HE.out, inB_low (by omega)]; rfl
  clear HE
  go_enter Tryz.func283, Tryz.ntmps283
  go_wp2
  go_ret
  exact ⟨ret_bool HV.out.symm, HB.out⟩
 by_cases h2 : x.prio ≤ 50
 rotate_left
 ·have HV : Hid (procB x.toProcP = false) := by show procB _ = false; rw [HE.out, inB_high (by omega)]; rfl
  clear HE
  go_enter Tryz.func283, Tryz.ntmps283
  go_wp2
  go_ret
  exact ⟨ret_bool HV.out.symm, HB.out⟩
 have HP : Hid (inB x.prio 1 50 = true) := inB_true h1 h2
 go_enter Tryz.func283, Tryz.ntmps283
 go_wp2_with fail
 refine (implProgL_any x.progA x.prog x.progC _ HI.out.fit.1.prog HI.out.fit.1.ops HI.out.fit.2).mono ?_
 rintro e w1 ⟨rfl, hb1⟩
 have HI1 : Hid (StIn w w1 x) := HI.out.below hb1
 clear hb1 c0 c1 c2 c3 c4 c5 c6 c7 c8 c9 c10 c11 HI HB
 obtain ⟨c0, c1, c2, c3, c4, c5, c6, c7, c8, c9, c10, c11⟩ := proc_cells HI1.out.box
 have hsh := HI1.out.fit.1.held
 have hsg := HI1.out.fit.1.got
 cases hl : progL x.prog with
 | false =>
  have HV : Hid (procB x.toProcP = false) := by show procB _ = false; rw [HE.out, hl]; simp
  clear HE hl
  go_wp2
  go_ret
  exact ⟨ret_bool HV.out.symm, HI1.out.bel⟩
 | true =>
  have HL : Hid (progL x.prog = true) := hl
  clear hl
  go_wp2_with fail
  refine (isPlain_any x.held _ hsh).mono ?_
  rintro e w2 ⟨rfl, hw2⟩
  subst hw2
  cases hh : plainB x.held with
  | false =>
   have HV : Hid (procB x.toProcP = false) := by show procB _ = false; rw [HE.out, hh]; simp
   clear HE hh
   go_wp2
   go_ret
   exact ⟨ret_bool HV.out.symm, HI1.out.bel⟩
  | true =>
   have HH : Hid (plainB x.held = true) := hh
   clear hh
   go_wp2_with fail
   refine (isPlain_any x.got _ hsg).mono ?_
   rintro e w2 ⟨rfl, hw2⟩
   subst hw2
   cases hg : plainB x.got with
   | false =>
    have HV : Hid (procB x.toProcP = false) := by show procB _ = false; rw [HE.out, hg]; simp
    clear HE hg
    go_wp2
    go_ret
    exact ⟨ret_bool HV.out.symm, HI1.out.bel⟩
   | true =>
    have HG : Hid (plainB x.got = true) := hg
    clear hg
    by_cases h3 : 0 ≤ x.code
    rotate_left
    ·have HV : Hid (procB x.toProcP = false) := by show procB _ = false; rw [HE.out, inB_low (n := x.code) (by omega)]; simp
     clear HE
     go_wp2
     go_ret
     exact ⟨ret_bool HV.out.symm, HI1.out.bel⟩
    by_cases h4 : x.code ≤ 3
    rotate_left
    ·have HV : Hid (procB x.toProcP = false) := by show procB _ = false; rw [HE.out, inB_high (n := x.code) (by omega)]; simp
     clear HE
     go_wp2
     go_ret
     exact ⟨ret_bool HV.out.symm, HI1.out.bel⟩
    have HC : Hid (inB x.code 0 3 = true) := inB_true h3 h4
    go_wp2_with fail
    refine (stateOk_any x _ HI1.out.fit).mono ?_
    rintro e w2 ⟨rfl, hb2⟩
    have HI2 : Hid (StIn w w2 x) := HI1.out.below hb2
    clear hb2
    have HV : Hid (procB x.toProcP = stateB x.toProcP) := by show procB _ = _; rw [HE.out, HP.out, HL.out, HH.out, HG.out, HC.out]; simp
    clear HE
    go_wp2
    go_ret
    exact ⟨ret_bool HV.out.symm, HI2.out.bel⟩

end Go.Proofs.YtkbcplnlehdjfaaGreat

/- The things of a shelf of the kind Proc, in order. (Made by mkall.py.) -/
namespace Go.Proofs.YtkbcplnlehdjfaaGreat
open Go.RowKit Go.Maps Go.Sort Go.Shelf

theorem keysProc_call (mb : Option Nat) (W : World) : Calls Tryz.prog 221 #[.map mb] W fun e w' => e = .returned (.func (.func 232) #[] #[.pointer (some ⟨W.heap.size, 0, none⟩)]) ∧ w' = W.alloc (.cells #[.map mb] 108) :=
 (callsIn_wide (n := 5)).1 (AnyZI.keys_in Tryz.keysProc Fence.wide 5 trivial rfl mb W)

theorem sortedKeysProc_any (Bm b : Nat) (m : MapL) (W : World) (hBm : Bm < W.heap.size) (hc : W.cell? ⟨Bm, 0, none⟩ = some (.map (some b))) (h : MapIs W b m) (hm : m.length ≤ 1048576) :
  Calls Tryz.prog 220 #[.func (.func 232) #[] #[.pointer (some ⟨Bm, 0, none⟩)]] W fun e w' => ∃ v : Value, e = .returned v ∧ w'.ownsRow W.heap.size 2 1 v m.length (m.map fun p => .int .i64 p.1) ∧ Below W.heap.size W w' := by
 have hsz : Maps.size (mapD m) = m.length := size_map m
 have hseq : SeqGives Fence.wide 2 Tryz.prog 232 #[.pointer (some ⟨Bm, 0, none⟩)] encZ (fun ss => ss.Perm (intKeys (mapD m))) (Maps.size (mapD m)) W :=
  AnyZI.keys_gives (ρ := Tryz.keysProc_ren) { Tryz.keysProc with } Fence.wide _ trivial rfl (by omega) Bm b m.length (mapD m) W hBm hc h.1
 have cS := AnyZI.sorted_in Tryz.sortedA Fence.wide 5 trivial trivial trivial trivial rfl (by omega) (Tryz.sortsA _) (enters_of Tryz.func231 (by kernel_rfl) rfl) 232 #[.pointer (some ⟨Bm, 0, none⟩)] trivial (enters_of Tryz.func232 (by kernel_rfl) rfl) _ _ (by rw [hsz]; unfold maxLen; omega) (by rw [hsz]; omega) _ hseq
 change CallsIn _ _ Tryz.prog 220 _ _ _ at cS
 refine (callsIn_wide.1 cS).mono ?_
 rintro e w' ⟨v, ss, rfl, hS, hrow, hnil, hbel⟩
 refine ⟨v, rfl, ?_, hbel⟩
 rw [keys_sorted h.2 hS] at hrow
 have hl : ss.length = m.length := by
  rw [hS.length_eq, keys_int, List.length_map]
 rw [hl, List.map_map] at hrow
 exact hrow

theorem ptrInfoProc : (Tryz.prog.info? 102).map (fun i => (i.zero, i.size, i.bytes)) = some (some (.pointer none), 1, 8) := by kernel_rfl

set_option maxRecDepth 100000 in
set_option maxHeartbeats 2000000 in
theorem allProc_any (most : Int) (b : Nat) (m : MapL) (w : World) (h : MapIs w b m) (hm : m.length ≤ 1048576) (hwf : ∀ p ∈ m, (Lit.int .i64 p.1).wf = true) :
  Calls Tryz.prog 202 #[.agg #[.int .i64 most, .map (some b)]] w fun e w' => ∃ a cap, e = .returned (.slice a m.length cap) ∧ w'.ownsRow w.heap.size 102 1 (.slice a m.length cap) m.length (m.map fun p => ptrV p.2) ∧ Below w.heap.size w w' := by
 obtain ⟨i0, hi, e0⟩ := Option.map_eq_some_iff.1 ptrInfoProc
 simp only [Prod.mk.injEq] at e0
 have HI : Hid (Tryz.prog.info? 102 = some i0 ∧ i0.zero = some (.pointer none) ∧ i0.size = 1 ∧ i0.bytes = 8) := ⟨hi, e0⟩
 have HM : Hid (MapIs w b m ∧ ∀ p ∈ m, (Lit.int .i64 p.1).wf = true) := ⟨h, hwf⟩
 have hbl : b < w.heap.size := h.lt
 clear hi e0 h hwf
 go_enter Tryz.func202, Tryz.ntmps202
 go_wp2_with (go_at_call 221; refine (keysProc_call _ _).mono ?_; rintro e w' ⟨rfl, rfl⟩)
 refine (sortedKeysProc_any (w.heap.size + 1) b m _ (by simp) (by simp) (HM.out.1.below (((Below.refl _ w).alloc (Nat.le_refl _) _).alloc (by simp) _)) hm).mono ?_
 rintro e w2 ⟨v, rfl, hown, hb2⟩
 have HB2 : Hid (Below w.heap.size w w2) := (((Below.refl _ w).alloc (Nat.le_refl _) _).alloc (by simp) _).trans (hb2.mono (by simp; omega))
 have HS : Hid (w2.heap[w.heap.size]? = some (.cells #[.int .i64 most, .map (some b)] 110 (0, 0))) := (hb2.block _ (by simp; omega)).trans ((heap_alloc_old _ _ (by simp)).trans (heap_alloc_new _ _))
 obtain ⟨a, cap, hv, hrow⟩ := own_form hown
 have HR : Hid (Row w2 a (m.map fun p => .int .i64 p.1)) := hrow
 rw [hv]
 clear hv hown hrow hb2 v
 go_wp2_with fail
 go_loopw [3, 11] (fun l i wr => ∃ k : Nat, k ≤ m.length ∧ i = .int .i64 k ∧ ∃ a' cap', l = .slice a' k cap' ∧ Hid (wr.ownsRow w2.heap.size 102 1 (.slice a' k cap') k ((m.take k).map fun p => ptrV p.2) ∧ Below w2.heap.size w2 wr)) (fun _ i _ => m.length - (intOf i).toNat)
 case atStart => exact ⟨0, Nat.zero_le _, rfl, none, 0, rfl, ⟨World.ownsRow_nil _ _ _ _, Below.refl _ _⟩⟩
 case round =>
  obtain ⟨k, hk, rfl, a', cap', rfl, HO⟩ := hrel
  by_cases hlt : k < m.length
  ·have i0' : (0 : Int) ≤ (k : Int) := by omega
   have i1 : (k : Int) < (m.length : Int) := by omega
   obtain ⟨p, hp⟩ : ∃ p, m[k]? = some p := ⟨_, List.getElem?_eq_getElem hlt⟩
   have hpm := List.mem_of_getElem? hp
   obtain ⟨g, ha, hc⟩ := (HR.out.below HO.out.2) k (.int .i64 p.1) (by simp [hp])
   subst ha
   have hsz2 := HB2.out.size
   have hsz3 := HO.out.2.size
   have hmw : MapIs wr b m := HM.out.1.below (HB2.out.trans (HO.out.2.mono hsz2))
   have hlk := hmw.look Tryz.underlying108 (zeroPtrProc wr) (HM.out.2 p hpm) false
   rw [lookM_mem hmw.2 hpm] at hlk
   have hsw : wr.heap[w.heap.size]? = some (.cells #[.int .i64 most, .map (some b)] 110 (0, 0)) := (HO.out.2.block _ (Array.getElem?_eq_some_iff.1 HS.out).1).trans HS.out
   have s1 : wr.cell? ⟨w.heap.size, 1, none⟩ = some (.map (some b)) := by simp [World.cell?, hsw]
   have HP : Hid (m[k]? = some p) := hp
   simp only [ptrO, ptrV, Bool.false_eq_true, if_false] at hlk
   clear hp hpm hmw hsw
   go_wp2_with (at_builtin; refine wpList_append_own_at _ rfl _ _ 204 rfl w2.heap.size 102 i0 (.pointer none) 1 8 Tryz.underlying204 HI.out.1 HI.out.2.1 HI.out.2.2.1 HI.out.2.2.2 rfl (by decide) (.slice a' k cap') k ((m.take k).map fun p => ptrV p.2) rfl (HO.out.1.alloc _) ⟨wr.heap.size, 0, none⟩ 1 1 [.pointer (some ⟨p.2, 0, none⟩)] (by rfl) rfl (World.news_of_block (cs := #[.pointer (some ⟨p.2, 0, none⟩)]) (t := 102) (fr := (0, 0)) (heap_alloc_new wr _)) (by simp [Value.oneCell']) (by unfold maxLen; omega) (by omega) (by simp; omega) ?_; intro v' w5 hown' hgrow hnil hloc; obtain ⟨a5, cap5, rfl, -⟩ := own_form hown'; have HN : Hid (w5.ownsRow w2.heap.size 102 1 (.slice a5 (k + 1) cap5) (k + 1) ((m.take (k + 1)).map fun p => ptrV p.2) ∧ Below w2.heap.size w2 w5) := ⟨by rw [take_up HP.out, List.map_append]; exact hown', (HO.out.2.alloc hsz3 _).grown hgrow (by simp; omega) (fun q hq => (HO.out.1.lt q hq).1)⟩; clear hown' hgrow hnil hloc)
   go_roundw
   case rel => exact ⟨k + 1, by omega, by go_num, a5, cap5, rfl, HN⟩
   case measure => simp [intOf]; omega
  ·have i1 : ¬ (k : Int) < (m.length : Int) := by omega
   have e : k = m.length := by omega
   subst e
   go_wp2
   go_ret
   refine ⟨a', cap', rfl, ?_, HB2.out.trans (HO.out.2.mono HB2.out.size)⟩
   have := own_low HO.out.1 HB2.out.size
   rwa [List.take_length] at this

end Go.Proofs.YtkbcplnlehdjfaaGreat

/- Whether each process's want is there: what the programme answers of an open partition. -/
namespace Go.Proofs.YtkbcplnlehdjfaaGreat
open Go.RowKit Go.Maps

/-- An open partition as far as its processes are asked: its block, its processes, the keys of the rest. -/
structure OpenIn (w W : World) (o : Nat) (q : Opn) (lp : List (ProcD × Nat)) (ms me mb mf : MapL) : Prop where
 opn : OpenBox W o q
 shelf : Shelf procVs (fun x : ProcD => x.id) 43 W 0 q.bp lp
 ms : MapIs W q.bs ms
 me : MapIs W q.be me
 mb : MapIs W q.bb mb
 mf : MapIs W q.bf mf
 bel : Below w.heap.size w W
theorem OpenIn.below {w W W' : World} {o : Nat} {q : Opn} {lp : List (ProcD × Nat)} {ms me mb mf : MapL} (h : OpenIn w W o q lp ms me mb mf) (hb : Below W.heap.size W W') : OpenIn w W' o q lp ms me mb mf :=
 ⟨h.opn.below hb, h.shelf.below hb, h.ms.below hb, h.me.below hb, h.mb.below hb, h.mf.below hb, h.bel.trans (hb.mono h.bel.size)⟩
theorem OpenIn.has {w W : World} {o : Nat} {q : Opn} {lp : List (ProcD × Nat)} {ms me mb mf : MapL} (h : OpenIn w W o q lp ms me mb mf) {p : ProcD × Nat} (hp : p ∈ lp) : HasIn W W o p.2 q p.1 ms me mb mf :=
 ⟨h.opn, h.shelf.box p hp, h.ms, h.me, h.mb, h.mf, Below.refl _ _⟩

/-- Numbers that a machine's word holds. -/
structure ProcD.Wf (x : ProcD) : Prop where
 id : (Lit.int .i64 x.id).wf = true
 on : (Lit.int .i64 x.on).wf = true
 since : (Lit.int .i64 x.since).wf = true
theorem keys_wf {lp : List (ProcD × Nat)} (h : ∀ p ∈ lp, p.1.Wf) : ∀ p ∈ keysOf (fun x : ProcD => x.id) lp, (Lit.int .i64 p.1).wf = true := fun p hp => by
 obtain ⟨r, hr, rfl⟩ := List.mem_map.1 hp
 exact (h r hr).id

set_option maxRecDepth 100000 in
set_option maxHeartbeats 2000000 in
theorem waitsOk_any (o : Nat) (q : Opn) (lp : List (ProcD × Nat)) (ms me mb mf : MapL) (w : World) (h : OpenIn w w o q lp ms me mb mf) (hl : lp.length ≤ 1048576) (hwf : ∀ p ∈ lp, p.1.Wf) :
  Calls Tryz.prog 154 #[.pointer (some ⟨o, 0, none⟩)] w fun e w' => e = .returned (.bool (lp.all fun p => waitK ms me mb mf p.1)) ∧ Below w.heap.size w w' := by
 have H : Hid (OpenIn w w o q lp ms me mb mf ∧ ∀ p ∈ lp, p.1.Wf) := ⟨h, hwf⟩
 have c2 : w.cell? ⟨o, 2, none⟩ = some (.int .i64 6) := h.opn.cell 2
 have c3 : w.cell? ⟨o, 3, none⟩ = some (.map (some q.bp)) := h.opn.cell 3
 have hkl : (keysOf (fun x : ProcD => x.id) lp).length = lp.length := keysOf_length lp
 have HK : Hid ((keysOf (fun x : ProcD => x.id) lp).length = lp.length) := hkl
 clear h hwf hkl
 go_enter Tryz.func154, Tryz.ntmps154
 go_wp2_with fail
 refine (allProc_any 6 q.bp (keysOf (fun x : ProcD => x.id) lp) w H.out.1.shelf.map (by rw [HK.out]; exact hl) (keys_wf H.out.2)).mono ?_
 rintro e w2 ⟨a, cap, rfl, hown, hb2⟩
 obtain ⟨a', cap', hv, hrow⟩ := own_form hown
 cases hv
 have HR : Hid (Row w2 a ((keysOf (fun x : ProcD => x.id) lp).map fun p => ptrV p.2)) := hrow
 have HO : Hid (OpenIn w w2 o q lp ms me mb mf) := H.out.1.below hb2
 rw [HK.out]
 clear hown hrow hb2 c2 c3
 go_wp2_with fail
 go_loopw [11] (fun i wr => ∃ k : Nat, k ≤ lp.length ∧ i = .int .i64 k ∧ Hid (((lp.take k).all fun p => waitK ms me mb mf p.1) = true ∧ Below w2.heap.size w2 wr)) (fun i _ => lp.length - (intOf i).toNat)
 case atStart => exact ⟨0, Nat.zero_le _, rfl, ⟨by simp, Below.refl _ _⟩⟩
 case round =>
  obtain ⟨k, hk, rfl, HA⟩ := hrel
  have HO2 : Hid (OpenIn w wr o q lp ms me mb mf) := HO.out.below HA.out.2
  by_cases hlt : k < lp.length
  ·have i0 : (0 : Int) ≤ (k : Int) := by omega
   have i1 : (k : Int) < (lp.length : Int) := by omega
   obtain ⟨p, hp⟩ : ∃ p, lp[k]? = some p := ⟨_, List.getElem?_eq_getElem hlt⟩
   have hpm := List.mem_of_getElem? hp
   obtain ⟨g, ha, hc⟩ := (HR.out.below HA.out.2) k (ptrV p.2) (by simp [keysOf, hp])
   subst ha
   unfold ptrV at hc
   have HP : Hid (lp[k]? = some p ∧ p ∈ lp) := ⟨hp, hpm⟩
   clear hp hpm
   go_wp2_with fail
   refine (hasWait_any o p.2 q p.1 ms me mb mf wr (HO2.out.has HP.out.2) (H.out.2 p HP.out.2).on).mono ?_
   rintro e w4 ⟨rfl, hb4⟩
   have HB4 : Hid (Below w2.heap.size w2 w4) := HA.out.2.trans (hb4.mono HA.out.2.size)
   have HF4 : Hid (Below w.heap.size w w4) := HO2.out.bel.trans (hb4.mono HO2.out.bel.size)
   clear hb4
   cases hwt : waitK ms me mb mf p.1 with
   | true =>
    have HY : Hid (((lp.take (k + 1)).all fun p => waitK ms me mb mf p.1) = true) := by
     show _ = true
     rw [take_up HP.out.1, List.all_append, HA.out.1]
     simp [hwt]
    clear hwt
    go_wp2
    go_roundw
    case rel => exact ⟨k + 1, by omega, by go_num, ⟨HY.out, HB4.out⟩⟩
    case measure => simp [intOf]; omega
   | false =>
    have HN : Hid ((lp.all fun p => waitK ms me mb mf p.1) = false) := by
     show _ = false
     rw [List.all_eq_false]
     exact ⟨p, HP.out.2, by simp [hwt]⟩
    clear hwt
    go_wp2
    go_ret
    exact ⟨ret_bool HN.out.symm, HF4.out⟩
  ·have i1 : ¬ (k : Int) < (lp.length : Int) := by omega
   have HT : Hid ((lp.all fun p => waitK ms me mb mf p.1) = true) := by have := HA.out.1; rwa [List.take_of_length_le (by omega)] at this
   go_wp2
   go_ret
   exact ⟨ret_bool HT.out.symm, HO2.out.bel⟩

end Go.Proofs.YtkbcplnlehdjfaaGreat

/- Whether the turns are in order: what the programme answers of an open partition. (Made by mkturns.py.) -/
namespace Go.Proofs.YtkbcplnlehdjfaaGreat
open Go.RowKit Go.Maps
attribute [local go_sem ↓] Go.wp_at_zero Go.wp_at_succ

theorem zeroInt (w : World) : (zeroValue 3).run Tryz.prog w = .ok (.int .i64 0) w := by kernel_rfl
/-- Block b is the map of the turns that are taken, each once. -/
def TakenIs (w : World) (b : Nat) (L : List Int) : Prop := ∃ D : DataW Unit, w.ownsMap Tryz.prog 2 (plainElem Tryz.prog 3) b L.length D ∧ IsMap D ∧ ∀ z : Int, D.atKey (.int .i64 z) (.lit (.int .i64 0)) = .lit (.int .i64 (if z ∈ L then 1 else 0))
theorem TakenIs.none {w : World} {b : Nat} (hb : w.heap[b]? = some (.map #[] 0)) : TakenIs w b [] :=
 ⟨.map [], ⟨#[], 0, hb, ⟨by simp, MapKept.stamped_empty 0, by simp⟩, by simp, rfl⟩, isMap_empty, fun z => by simp [DataW.atKey]⟩
theorem TakenIs.lt {w : World} {b : Nat} {L : List Int} (h : TakenIs w b L) : b < w.heap.size := by obtain ⟨D, h, _⟩ := h; exact h.lt
theorem TakenIs.same {w w' : World} {b : Nat} {L : List Int} (h : TakenIs w b L) (hs : w'.heap[b]? = w.heap[b]?) : TakenIs w' b L := by
 obtain ⟨D, ⟨es, clock, hb, r⟩, h2⟩ := h
 exact ⟨D, ⟨es, clock, hs.trans hb, r⟩, h2⟩
theorem TakenIs.look {w : World} {b : Nat} {L : List Int} (h : TakenIs w b L) {z : Int} (hz : (Lit.int .i64 z).wf = true) : (Instr.lookup 252 (.map (some b)) (.int .i64 z) false).run Tryz.prog w = .ok (.int .i64 (if z ∈ L then 1 else 0)) w := by
 obtain ⟨D, hown, _, hat⟩ := h
 obtain ⟨c, hrun, hc, _⟩ := hown.lookup_int keyed64 Tryz.underlying252 Tryz.underlying3 (zeroInt w) (key64 hz)
 rw [hat z] at hc
 simp only [DataW.lit.injEq, Lit.int.injEq, true_and] at hc
 rw [hrun, hc]
/-- One that is taken once more. -/
theorem TakenIs.put {w : World} {b : Nat} {L : List Int} (h : TakenIs w b L) (hl : L.length ≤ 1048576) {z : Int} (hz : (Lit.int .i64 z).wf = true) (v : Int) (hv : v = (if z ∈ L then 1 else 0) + 1) :
  ∃ w', (Instr.mapUpdate 252 (.map (some b)) (.int .i64 z) (.int .i64 v)).run Tryz.prog w = .ok () w' ∧ w.grownBy w' (some b) ∧ w'.heap.size = w.heap.size ∧
   (∀ W : World, W.heap = w'.heap → (Instr.lookup 252 (.map (some b)) (.int .i64 z) false).run Tryz.prog W = .ok (.int .i64 v) W) ∧ (z ∉ L → TakenIs w' b (L ++ [z])) := by
 obtain ⟨D, hown, hm, hat⟩ := h
 have hvw : (Lit.int .i64 v).wf = true := by
  subst hv
  split <;> decide
 obtain ⟨w', hrun, ho, ht⟩ := hown.store keyed64 Tryz.underlying252 (Nat.lt_of_le_of_lt hl (by decide)) (key64 hz) (plainElem_int (H := Unit) Tryz.underlying3 hvw)
 refine ⟨w', hrun, ht.grown, ?_, fun W hW => ?_, fun hn => ⟨_, by rw [List.length_append]; exact ho, hm.put _ _, fun y => ?_⟩⟩
 ·obtain ⟨es, clock, es', clock', hb, rfl⟩ := ht
  simp [ChangeMaps.setBlock]
 ·have hoW : W.ownsMap Tryz.prog 2 (plainElem Tryz.prog 3) b (L.length + 1) (D.put (.int .i64 z) (.lit (.int .i64 v))) := by
   obtain ⟨es, clock, hb, r⟩ := ho
   exact ⟨es, clock, by rw [hW]; exact hb, r⟩
  obtain ⟨c, hr, hc, _⟩ := hoW.lookup_int keyed64 Tryz.underlying252 Tryz.underlying3 (zeroInt W) (key64 hz)
  rw [atKey_put_same hm (keyed64.key (key64 hz))] at hc
  simp only [DataW.lit.injEq, Lit.int.injEq, true_and] at hc
  rw [hr, hc]
 ·by_cases hy : y = z
  ·subst hy
   rw [atKey_put_same hm (keyed64.key (key64 hz))]
   simp [hv, hn]
  ·rw [atKey_put_other (fun e => hy (by simpa using e)), hat y]
   simp [hy]

/-- The turns of those that are not dormant. -/
def upD (l : List (ProcD × Nat)) : List Int := upL (l.map fun p => p.1.toProcP)
def TurnsD (next : Int) (l : List (ProcD × Nat)) : Prop := TurnsR next (l.map fun p => p.1.toProcP)
theorem upD_snoc (l : List (ProcD × Nat)) (p : ProcD × Nat) : upD (l ++ [p]) = upD l ++ (if p.1.state = 0 then [] else [p.1.since]) := by
 simp only [upD, upL, List.map_append, List.filter_append, List.map_cons, List.map_nil, List.filter_cons, List.filter_nil]
 by_cases h : p.1.state = 0 <;> simp [h]
theorem turns_snoc {next : Int} {l : List (ProcD × Nat)} {p : ProcD × Nat} (h : TurnsD next l) (hp : ¬ p.1.state = 0 → 1 ≤ p.1.since ∧ p.1.since < next ∧ p.1.since ∉ upD l) : TurnsD next (l ++ [p]) := by
 refine ⟨fun x hx => ?_, ?_⟩
 ·rw [List.map_append] at hx
  rcases List.mem_append.1 hx with hx | hx
  ·exact h.1 x hx
  ·simp only [List.map_cons, List.map_nil, List.mem_singleton] at hx
   subst hx
   exact fun h0 => ⟨(hp h0).1, (hp h0).2.1⟩
 ·have e := upD_snoc l p
  unfold upD at e
  rw [e]
  by_cases h0 : p.1.state = 0
  ·simp only [h0, if_true, List.append_nil]; exact h.2
  ·simp only [h0, if_false]
   refine List.nodup_append.2 ⟨h.2, by simp, fun a ha b hb => ?_⟩
   simp only [List.mem_singleton] at hb
   subst hb
   intro e2
   subst e2
   exact (hp h0).2.2 ha
theorem turns_bad {next : Int} {l : List (ProcD × Nat)} {k : Nat} {p : ProcD × Nat} (hp : l[k]? = some p) (h0 : ¬ p.1.state = 0) (hb : ¬ (1 ≤ p.1.since ∧ p.1.since < next ∧ p.1.since ∉ upD (l.take k))) : ¬ TurnsD next l := fun h => by
 have hm : p.1.toProcP ∈ l.map fun p => p.1.toProcP := List.mem_map.2 ⟨p, List.mem_of_getElem? hp, rfl⟩
 have h1 := h.1 _ hm h0
 refine hb ⟨h1.1, h1.2, fun hmem => ?_⟩
 have e : l = l.take k ++ p :: l.drop (k + 1) := split_at hp
 have h2 := h.2
 rw [e] at h2
 simp only [upL, List.map_append, List.map_cons, List.filter_append, List.filter_cons] at h2
 have h0' : (!decide (p.1.toProcP.state = 0)) = true := by simp [h0]
 rw [if_pos h0', List.map_cons] at h2
 exact (List.nodup_append.1 h2).2.2 p.1.since hmem p.1.since (by simp) rfl

/-- What looking through the turns ends in. -/
def TurnEnds (w : World) (q : Opn) (lp : List (ProcD × Nat)) (e : Ending) (w' : World) : Prop := ∃ ok : Bool, e = .returned (.bool ok) ∧ (ok = true ↔ TurnsD q.next lp) ∧ Below w.heap.size w w'
theorem turnEnds_no {w w' : World} {q : Opn} {lp : List (ProcD × Nat)} (h : ¬ TurnsD q.next lp) (hb : Below w.heap.size w w') : TurnEnds w q lp (.returned (.bool false)) w' := ⟨false, rfl, ⟨(fun h => by cases h), fun h' => absurd h' h⟩, hb⟩

/-- What is there while the turns are looked through. -/
structure TurnIn (w w2 wr : World) (o : Nat) (q : Opn) (lp : List (ProcD × Nat)) (L : List Int) : Prop where
 taken : TakenIs wr w.heap.size L
 grown : w2.grownBy wr (some w.heap.size)
theorem TurnIn.block {w w2 wr : World} {o : Nat} {q : Opn} {lp : List (ProcD × Nat)} {L : List Int} (h : TurnIn w w2 wr o q lp L) {g : Nat} (hg : g < w2.heap.size) (hne : ¬ g = w.heap.size) : wr.heap[g]? = w2.heap[g]? := h.grown.block g hg (fun e => hne (Option.some.inj e))

set_option maxRecDepth 100000 in
set_option maxHeartbeats 8000000 in
theorem turnsOk_any (o : Nat) (q : Opn) (lp : List (ProcD × Nat)) (ms me mb mf : MapL) (w : World) (h : OpenIn w w o q lp ms me mb mf) (hl : lp.length ≤ 1048576) (hwf : ∀ p ∈ lp, p.1.Wf) :
  Calls Tryz.prog 153 #[.pointer (some ⟨o, 0, none⟩)] w fun e w' => TurnEnds w q lp e w' := by
 have hmk := run_makeMap (P := Tryz.prog) 252
 have H : Hid (OpenIn w w o q lp ms me mb mf ∧ ∀ p ∈ lp, p.1.Wf) := ⟨h, hwf⟩
 have hol : o < w.heap.size := (Array.getElem?_eq_some_iff.1 h.opn).1
 have c2 : w.cell? ⟨o, 2, none⟩ = some (.int .i64 6) := h.opn.cell 2
 have c3 : w.cell? ⟨o, 3, none⟩ = some (.map (some q.bp)) := h.opn.cell 3
 have HK : Hid ((keysOf (fun x : ProcD => x.id) lp).length = lp.length) := keysOf_length lp
 clear h hwf
 go_enter Tryz.func153, Tryz.ntmps153
 go_wp2_with fail
 refine (allProc_any 6 q.bp (keysOf (fun x : ProcD => x.id) lp) (w.alloc (.map #[] 0)) (H.out.1.shelf.map.below ((Below.refl _ w).alloc (Nat.le_refl _) _)) (by rw [HK.out]; exact hl) (keys_wf H.out.2)).mono ?_
 rintro e w2 ⟨a, cap, rfl, hown, hb2⟩
 obtain ⟨a', cap', hv, hrow⟩ := own_form hown
 cases hv
 have HR : Hid (Row w2 a ((keysOf (fun x : ProcD => x.id) lp).map fun p => ptrV p.2)) := hrow
 have HRB : Hid (∀ g, a = some ⟨g, 0, none⟩ → w.heap.size + 1 ≤ g ∧ g < w2.heap.size) := fun g hg => by
  subst hg
  have := hown.lt g rfl
  simpa using this
 have HB2 : Hid (Below w.heap.size w w2) := ((Below.refl _ w).alloc (Nat.le_refl _) _).trans (hb2.mono (by simp))
 have HT0 : Hid (TakenIs w2 w.heap.size []) := TakenIs.none ((hb2.block _ (by simp)).trans (heap_alloc_new _ _))
 rw [HK.out]
 clear hown hrow hb2 c2 c3 hmk
 go_wp2_with fail
 go_loopw [13] (fun i wr => ∃ k : Nat, k ≤ lp.length ∧ i = .int .i64 k ∧ Hid (TurnsD q.next (lp.take k) ∧ TurnIn w w2 wr o q lp (upD (lp.take k)))) (fun i _ => lp.length - (intOf i).toNat)
 case atStart => exact ⟨0, Nat.zero_le _, rfl, ⟨⟨(fun x hx => by simp at hx), by simp [upL]⟩, ⟨by simpa [upD, upL] using HT0.out, ⟨rfl, rfl, rfl, Nat.le_refl _, fun _ _ _ => rfl⟩⟩⟩⟩
 case round =>
  obtain ⟨k, hk, rfl, HA⟩ := hrel
  have HBR : Hid (Below w.heap.size w wr) := HB2.out.grown HA.out.2.grown HB2.out.size (fun k hk => by cases hk; exact Nat.le_refl _)
  by_cases hlt : k < lp.length
  ·have i0 : (0 : Int) ≤ (k : Int) := by omega
   have i1 : (k : Int) < (lp.length : Int) := by omega
   obtain ⟨p, hp⟩ : ∃ p, lp[k]? = some p := ⟨_, List.getElem?_eq_getElem hlt⟩
   have hpm := List.mem_of_getElem? hp
   have hrw := HR.out k (ptrV p.2) (by simp [keysOf, hp])
   obtain ⟨g, ha, hc0⟩ := hrw
   have hgb := HRB.out g ha
   have hc : wr.cell? ⟨g, k, none⟩ = some (.pointer (some ⟨p.2, 0, none⟩)) := (World.cell?_of_block (w := w2) (a := ⟨g, k, none⟩) (HA.out.2.block (g := g) hgb.2 (fun e => by have h1 := hgb.1; have e' : g = w.heap.size := e; omega))).trans hc0
   subst ha
   have hbox : wr.heap[p.2]? = some (.cells (procVs p.1) 43 (0, 0)) := (HBR.out.block _ (Array.getElem?_eq_some_iff.1 (H.out.1.shelf.box p hpm)).1).trans (H.out.1.shelf.box p hpm)
   have hob : OpenBox wr o q := (HBR.out.block _ hol).trans H.out.1.opn
   have HP : Hid (lp[k]? = some p ∧ p ∈ lp) := ⟨hp, hpm⟩
   have HW : Hid ((Lit.int .i64 p.1.since).wf = true) := (H.out.2 p hpm).since
   have HX : Hid (wr.heap[p.2]? = some (.cells (procVs p.1) 43 (0, 0)) ∧ OpenBox wr o q) := ⟨hbox, hob⟩
   have k3 := (proc_cells hbox).2.2.2.1
   have k11 := (proc_cells hbox).2.2.2.2.2.2.2.2.2.2.2
   have hls : (upD (lp.take k)).length ≤ 1048576 := by
    have h1 : (upD (lp.take k)).length ≤ (lp.take k).length := by
     simp only [upD, upL, List.length_map]
     exact Nat.le_trans (List.length_filter_le _ _) (by simp)
    rw [List.length_take] at h1
    omega
   clear hp hpm hc0 hgb hbox hob
   by_cases h0 : p.1.state = 0
   ·have HY : Hid (TurnsD q.next (lp.take (k + 1)) ∧ TurnIn w w2 wr o q lp (upD (lp.take (k + 1)))) := by
     rw [take_up HP.out.1]
     refine ⟨turns_snoc HA.out.1 (fun h => absurd h0 h), ?_⟩
     rw [upD_snoc, if_pos h0, List.append_nil]
     exact HA.out.2
    have e0 : (p.1.state == 0) = true := by simp [h0]
    clear h0
    go_wp2
    go_roundw
    case rel => exact ⟨k + 1, by omega, by go_num, HY⟩
    case measure => simp [intOf]; omega
   ·have e0 : (p.1.state == 0) = false := by simp [h0]
    have H0 : Hid (¬ p.1.state = 0) := h0
    clear h0
    have hlk := HA.out.2.taken.look HW.out
    by_cases hz : p.1.since ∈ upD (lp.take k)
    ·rw [if_pos hz] at hlk
     obtain ⟨w5, hput, hgr5, hsz5, hlk5, -⟩ := HA.out.2.taken.put hls HW.out 2 (by rw [if_pos hz]; rfl)
     have HN : Hid (¬ TurnsD q.next lp) := turns_bad HP.out.1 H0.out (fun hh => hh.2.2 hz)
     have HB5 : Hid (Below w.heap.size w w5) := HBR.out.grown hgr5 HBR.out.size (fun k hk => by cases hk; exact Nat.le_refl _)
     have hx5 : w5.heap[p.2]? = some (.cells (procVs p.1) 43 (0, 0)) := (HB5.out.block _ (Array.getElem?_eq_some_iff.1 (H.out.1.shelf.box p HP.out.2)).1).trans (H.out.1.shelf.box p HP.out.2)
     have ho5 : OpenBox w5 o q := (HB5.out.block _ hol).trans H.out.1.opn
     have f11 := (proc_cells hx5).2.2.2.2.2.2.2.2.2.2.2
     have f1 : w5.cell? ⟨o, 1, none⟩ = some (.int .i64 q.next) := ho5.cell 1
     have hl5 := hlk5 w5.drew rfl
     clear hlk5 hgr5 hsz5 hx5 ho5 hz
     by_cases hA : p.1.since < 1
     ·have dA : decide (p.1.since < 1) = true := decide_eq_true hA
      clear hA
      go_wp2_with fail
      refine tame_region (fun w' => w' = w5.drew) (by kernel_rfl) rfl ?_
      iterate 6 (refine yl (v := ?_) ?_ ?_; rotate_left; (intro w0 hS0; subst hS0; go_simp; try with_reducible rfl); simp only [pt, sb, s0, s1])
      iterate 9 (refine nl ?_; simp only [pt, sb, s0, s1])
      iterate 2 (refine yl (v := ?_) ?_ ?_; rotate_left; (intro w0 hS0; subst hS0; go_simp; try with_reducible rfl); simp only [pt, sb, s0, s1])
      iterate 7 (refine nl ?_; simp only [pt, sb, s0, s1])
      (refine yl (v := ?_) ?_ ?_; rotate_left; (intro w0 hS0; subst hS0; go_simp; try with_reducible rfl); simp only [pt, sb, s0, s1])
      refine tame_done (by kernel_rfl) ?_ _
      intro w1 hS1
      subst hS1
      go_wp2
      go_ret
      exact turnEnds_no HN.out HB5.out.drew
     have dA : decide (p.1.since < 1) = false := decide_eq_false hA
     by_cases hB : q.next ≤ p.1.since
     ·have dB : decide (q.next ≤ p.1.since) = true := decide_eq_true hB
      clear hA hB
      go_wp2_with fail
      refine tame_region (fun w' => w' = w5.drew) (by kernel_rfl) rfl ?_
      iterate 17 (refine yl (v := ?_) ?_ ?_; rotate_left; (intro w0 hS0; subst hS0; go_simp; try with_reducible rfl); simp only [pt, sb, s0, s1])
      iterate 7 (refine nl ?_; simp only [pt, sb, s0, s1])
      (refine yl (v := ?_) ?_ ?_; rotate_left; (intro w0 hS0; subst hS0; go_simp; try with_reducible rfl); simp only [pt, sb, s0, s1])
      refine tame_done (by kernel_rfl) ?_ _
      intro w1 hS1
      subst hS1
      go_wp2
      go_ret
      exact turnEnds_no HN.out HB5.out.drew
     have dB : decide (q.next ≤ p.1.since) = false := decide_eq_false hB
     clear hA hB
     go_wp2_with fail
     refine tame_region (fun w' => w' = w5.drew) (by kernel_rfl) rfl ?_
     iterate 25 (refine yl (v := ?_) ?_ ?_; rotate_left; (intro w0 hS0; subst hS0; go_simp; try with_reducible rfl); simp only [pt, sb, s0, s1])
     refine tame_done (by kernel_rfl) ?_ _
     intro w1 hS1
     subst hS1
     go_wp2
     go_ret
     exact turnEnds_no HN.out HB5.out.drew
    ·rw [if_neg hz] at hlk
     obtain ⟨w5, hput, hgr5, hsz5, hlk5, htk⟩ := HA.out.2.taken.put hls HW.out 1 (by rw [if_neg hz]; rfl)
     have HB5 : Hid (Below w.heap.size w w5) := HBR.out.grown hgr5 HBR.out.size (fun k hk => by cases hk; exact Nat.le_refl _)
     have HI5 : Hid (TurnIn w w2 w5 o q lp (upD (lp.take k) ++ [p.1.since])) := ⟨htk hz, ⟨hgr5.os.trans HA.out.2.grown.os, hgr5.tape.trans HA.out.2.grown.tape, hgr5.output.trans HA.out.2.grown.output, Nat.le_trans HA.out.2.grown.size hgr5.size, fun k hk hne => (hgr5.block k (Nat.lt_of_lt_of_le hk HA.out.2.grown.size) hne).trans (HA.out.2.grown.block k hk hne)⟩⟩
     have HZ : Hid (¬ p.1.since ∈ upD (lp.take k)) := hz
     have hx5 : w5.heap[p.2]? = some (.cells (procVs p.1) 43 (0, 0)) := (HB5.out.block _ (Array.getElem?_eq_some_iff.1 (H.out.1.shelf.box p HP.out.2)).1).trans (H.out.1.shelf.box p HP.out.2)
     have ho5 : OpenBox w5 o q := (HB5.out.block _ hol).trans H.out.1.opn
     have f11 := (proc_cells hx5).2.2.2.2.2.2.2.2.2.2.2
     have f1 : w5.cell? ⟨o, 1, none⟩ = some (.int .i64 q.next) := ho5.cell 1
     have hl5 := hlk5 w5.drew rfl
     clear hlk5 hgr5 hsz5 hx5 ho5 hz htk
     by_cases hA : p.1.since < 1
     ·have dA : decide (p.1.since < 1) = true := decide_eq_true hA
      have HN : Hid (¬ TurnsD q.next lp) := turns_bad HP.out.1 H0.out (fun hh => by have := hh.1; omega)
      clear hA
      go_wp2_with fail
      refine tame_region (fun w' => w' = w5.drew) (by kernel_rfl) rfl ?_
      iterate 6 (refine yl (v := ?_) ?_ ?_; rotate_left; (intro w0 hS0; subst hS0; go_simp; try with_reducible rfl); simp only [pt, sb, s0, s1])
      iterate 9 (refine nl ?_; simp only [pt, sb, s0, s1])
      iterate 2 (refine yl (v := ?_) ?_ ?_; rotate_left; (intro w0 hS0; subst hS0; go_simp; try with_reducible rfl); simp only [pt, sb, s0, s1])
      iterate 7 (refine nl ?_; simp only [pt, sb, s0, s1])
      (refine yl (v := ?_) ?_ ?_; rotate_left; (intro w0 hS0; subst hS0; go_simp; try with_reducible rfl); simp only [pt, sb, s0, s1])
      refine tame_done (by kernel_rfl) ?_ _
      intro w1 hS1
      subst hS1
      go_wp2
      go_ret
      exact turnEnds_no HN.out HB5.out.drew
     have dA : decide (p.1.since < 1) = false := decide_eq_false hA
     by_cases hB : q.next ≤ p.1.since
     ·have dB : decide (q.next ≤ p.1.since) = true := decide_eq_true hB
      have HN : Hid (¬ TurnsD q.next lp) := turns_bad HP.out.1 H0.out (fun hh => by have := hh.2.1; omega)
      clear hA hB
      go_wp2_with fail
      refine tame_region (fun w' => w' = w5.drew) (by kernel_rfl) rfl ?_
      iterate 17 (refine yl (v := ?_) ?_ ?_; rotate_left; (intro w0 hS0; subst hS0; go_simp; try with_reducible rfl); simp only [pt, sb, s0, s1])
      iterate 7 (refine nl ?_; simp only [pt, sb, s0, s1])
      (refine yl (v := ?_) ?_ ?_; rotate_left; (intro w0 hS0; subst hS0; go_simp; try with_reducible rfl); simp only [pt, sb, s0, s1])
      refine tame_done (by kernel_rfl) ?_ _
      intro w1 hS1
      subst hS1
      go_wp2
      go_ret
      exact turnEnds_no HN.out HB5.out.drew
     have dB : decide (q.next ≤ p.1.since) = false := decide_eq_false hB
     have HY : Hid (TurnsD q.next (lp.take (k + 1)) ∧ TurnIn w w2 w5 o q lp (upD (lp.take (k + 1)))) := by
      rw [take_up HP.out.1]
      refine ⟨turns_snoc HA.out.1 (fun _ => ⟨by omega, by omega, HZ.out⟩), ?_⟩
      rw [upD_snoc, if_neg H0.out]
      exact HI5.out
     clear hA hB
     go_wp2_with fail
     refine tame_region (fun w' => w' = w5.drew) (by kernel_rfl) rfl ?_
     iterate 25 (refine yl (v := ?_) ?_ ?_; rotate_left; (intro w0 hS0; subst hS0; go_simp; try with_reducible rfl); simp only [pt, sb, s0, s1])
     refine tame_done (by kernel_rfl) ?_ _
     intro w1 hS1
     subst hS1
     go_wp2
     go_roundw
     case rel => exact ⟨k + 1, by omega, by go_num, ⟨HY.out.1, ⟨HY.out.2.taken.same rfl, ⟨HY.out.2.grown.os, HY.out.2.grown.tape, HY.out.2.grown.output, HY.out.2.grown.size, HY.out.2.grown.block⟩⟩⟩⟩
     case measure => simp [intOf]; omega
  ·have i1 : ¬ (k : Int) < (lp.length : Int) := by omega
   have HT : Hid (TurnsD q.next lp) := by have := HA.out.1; rwa [List.take_of_length_le (by omega)] at this
   go_wp2
   go_ret
   exact ⟨true, rfl, ⟨fun _ => HT.out, fun _ => rfl⟩, HBR.out⟩

end Go.Proofs.YtkbcplnlehdjfaaGreat

/- What the specification says of one process. -/
namespace Go.Proofs.YtkbcplnlehdjfaaGreat
open Go.RowKit

/-- A process lies in a block of its own. -/
def ProcBox (W : World) (X : Nat) (x : ProcD) : Prop := W.heap[X]? = some (.cells #[.int .i64 x.id, .int .i64 x.prio, .slice x.progA x.prog.length x.progC, .int .i64 x.state, .int .i64 x.pc, .int .i64 x.left, .int .i64 x.wake, .int .i64 x.on, .string x.held, .string x.got, .int .i64 x.code, .int .i64 x.since] 43 (0, 0))
def PartBox (W : World) (B : Nat) (p : PartD) : Prop := W.heap[B]? = some (.cells #[.int .i64 p.id, .int .i64 p.next, .slice p.procA p.procs.length p.procC, .slice p.semA p.sems.length p.semC, .slice p.eventA p.events.length p.eventC, .slice p.boardA p.boards.length p.boardC, .slice p.bufferA p.buffers.length p.bufferC, .slice p.portA p.ports.length p.portC] 32 (0, 0))
theorem ProcBox.below {W W' : World} {X : Nat} {x : ProcD} (h : ProcBox W X x) (hb : Below W.heap.size W W') : ProcBox W' X x := (hb.block X (Array.getElem?_eq_some_iff.1 h).1).trans h
theorem PartBox.below {W W' : World} {X : Nat} {x : PartD} (h : PartBox W X x) (hb : Below W.heap.size W W') : PartBox W' X x := (hb.block X (Array.getElem?_eq_some_iff.1 h).1).trans h
theorem ProcBox.cells {W : World} {X : Nat} {x : ProcD} (h : ProcBox W X x) :
  W.cell? ⟨X, 0, none⟩ = some (.int .i64 x.id) ∧ W.cell? ⟨X, 1, none⟩ = some (.int .i64 x.prio) ∧ W.cell? ⟨X, 2, none⟩ = some (.slice x.progA x.prog.length x.progC) ∧ W.cell? ⟨X, 3, none⟩ = some (.int .i64 x.state) ∧ W.cell? ⟨X, 4, none⟩ = some (.int .i64 x.pc) ∧ W.cell? ⟨X, 5, none⟩ = some (.int .i64 x.left) ∧ W.cell? ⟨X, 6, none⟩ = some (.int .i64 x.wake) ∧ W.cell? ⟨X, 7, none⟩ = some (.int .i64 x.on) ∧ W.cell? ⟨X, 8, none⟩ = some (.string x.held) ∧ W.cell? ⟨X, 9, none⟩ = some (.string x.got) ∧ W.cell? ⟨X, 10, none⟩ = some (.int .i64 x.code) ∧ W.cell? ⟨X, 11, none⟩ = some (.int .i64 x.since) := by
 unfold ProcBox at h
 simp [World.cell?, h]
theorem PartBox.cells {W : World} {X : Nat} {p : PartD} (h : PartBox W X p) :
  W.cell? ⟨X, 0, none⟩ = some (.int .i64 p.id) ∧ W.cell? ⟨X, 1, none⟩ = some (.int .i64 p.next) ∧ W.cell? ⟨X, 2, none⟩ = some (.slice p.procA p.procs.length p.procC) ∧ W.cell? ⟨X, 3, none⟩ = some (.slice p.semA p.sems.length p.semC) ∧ W.cell? ⟨X, 4, none⟩ = some (.slice p.eventA p.events.length p.eventC) ∧ W.cell? ⟨X, 5, none⟩ = some (.slice p.boardA p.boards.length p.boardC) ∧ W.cell? ⟨X, 6, none⟩ = some (.slice p.bufferA p.buffers.length p.bufferC) ∧ W.cell? ⟨X, 7, none⟩ = some (.slice p.portA p.ports.length p.portC) := by
 unfold PartBox at h
 simp [World.cell?, h]

def procOkB (p : PartP) (x : ProcP) : Bool := inB x.id 1 1000 && procB x && turnB p.next x && waitB p x

/-- What is there when the walk begins. -/
structure ProcIn (w W : World) (P X : Nat) (p : PartD) (x : ProcD) : Prop where
 part : PartBox W P p
 proc : ProcBox W X x
 at' : PartD.At W p
 prog : Row W x.progA (opK.flat x.prog)
 bel : Below w.heap.size w W
theorem ProcIn.below {w W W' : World} {P X : Nat} {p : PartD} {x : ProcD} (h : ProcIn w W P X p x) (hb : Below W.heap.size W W') : ProcIn w W' P X p x :=
 ⟨h.part.below hb, h.proc.below hb, h.at'.below hb, h.prog.below hb, h.bel.trans (hb.mono h.bel.size)⟩

theorem procIn_start {w : World} {p : PartD} {x : ProcD} (h : PartD.At w p) (hr : Row w x.progA (opK.flat x.prog)) : ProcIn w ((w.alloc (.cells p.cells 32)).alloc (.cells (procVs x) 43)) w.heap.size (w.heap.size + 1) p x := by
 have b1 : Below w.heap.size w (w.alloc (.cells p.cells 32)) := (Below.refl _ _).alloc (Nat.le_refl _) _
 have b2 : Below w.heap.size w ((w.alloc (.cells p.cells 32)).alloc (.cells (procVs x) 43)) := b1.alloc b1.size _
 exact ⟨(heap_alloc_old _ _ (by simp)).trans (heap_alloc_new _ _), heap_alloc2_new _ _ _, h.below b2, hr.below b2, b2⟩

/-- (the walk) -/
theorem procOkB_eq (p : PartP) (x : ProcP) : procOkB p x = (inB x.id 1 1000 && (inB x.prio 1 50 && progL x.prog && plainB x.held && plainB x.got && inB x.code 0 3 && stateB x) && turnB p.next x && waitB p x) := rfl
theorem stateB_in {x : ProcP} (h : inB x.state 0 7 = false) : stateB x = false := by
 have h' : x.state < 0 ∨ 7 < x.state := by
  have : ¬ (0 ≤ x.state ∧ x.state ≤ 7) := fun hh => by rw [inB_true hh.1 hh.2] at h; cases h
  omega
 unfold stateB
 rw [if_neg (by omega), if_neg (by omega), if_neg (by omega), if_neg (by omega), if_neg (by omega)]
theorem left_spec {x : ProcP} {n : Nat} {o : OpD} (hp : progL x.prog = true) (hpc : x.pc = n) (ho : x.prog[n]? = some o) : leftB x = (decide (x.left = 0) || (decide (o.1 = 1) && inB x.left 1 (o.2.1 - 1))) := by
 have e1 : opAt x = o := by
  unfold opAt
  rw [hpc, Int.toNat_natCast, ho]
  rfl
 have hn : o.1 = 1 → 1 ≤ o.2.1 := fun h1 => by
  have hk : n < x.prog.length := (List.getElem?_eq_some_iff.1 ho).1
  have hb : progB x.prog.length (kOf x.prog) (nOf x.prog) (mOf x.prog) (sOf x.prog) = true := hp
  simp only [progB, decide_eq_true_eq] at hb
  have := hb.2.2 n hk
  simp only [opAtB, kOf, nOf, ho, Option.getD_some, opB, h1] at this
  simp only [true_or, if_true, Bool.and_eq_true] at this
  have := inB_iff.1 this.1.1
  omega
 simp only [leftB, e1]
 by_cases h1 : o.1 = 1
 ·have := hn h1
  simp only [h1, if_true, decide_true, Bool.true_and]
  by_cases h2 : x.left = 0
  ·simp [h2]; omega
  ·simp only [h2, decide_false, Bool.false_or, inB]
   by_cases h3 : 0 ≤ x.left
   ·by_cases h4 : x.left < o.2.1
    ·simp [h3, h4]; omega
    ·simp [h3, h4]; omega
   ·simp [h3]; omega
 ·simp [h1]

theorem state_op {x : ProcP} {b c : Bool} (h : ¬ x.state = 0) : (stateB x && b && c) = (hasOpB x && (stateB x && b && c)) := by
 cases ho : hasOpB x with
 | true => simp
 | false =>
  have : stateB x = false := by
   simp only [stateB, h, if_false, ho]
   simp
  simp [this]
theorem state_left {x : ProcP} (h0 : ¬ x.state = 0) (h1 : ¬ x.state = 1) (hl : ¬ x.left = 0) : stateB x = false := by
 simp only [stateB, h0, h1, if_false, hl, decide_false]
 simp
theorem state_held {x : ProcP} (h0 : ¬ x.state = 0) (h1 : ¬ x.state = 1) (h5 : ¬ x.state = 5) (hl : emptyB x.held = false) : stateB x = false := by
 simp only [stateB, h0, h1, h5, if_false, hl]
 simp
theorem state_wait {p : PartP} {x : ProcP} (h0 : ¬ x.state = 0) (h1 : ¬ x.state = 1) (h2 : ¬ x.state = 2) (h5 : ¬ x.state = 5) (hb : 0 ≤ x.state ∧ x.state ≤ 7) (ho : hasOpB x = true) (hl : x.left = 0) (hh : emptyB x.held = true) : (stateB x && waitB p x) = (wakeB x.wake && hasB p x.state x.on) := by
 have h4 : x.state = 3 ∨ x.state = 4 ∨ x.state = 6 ∨ x.state = 7 := by omega
 have h3 : 3 ≤ x.state := by omega
 simp only [stateB, waitB, h0, h1, h2, h5, if_false, h4, if_true, h3, ho, hl, hh]
 simp
theorem op_ge {l : List OpD} {n : Nat} {o : OpD} (hp : progL l = true) (ho : l[n]? = some o) : o.1 = 1 → 1 ≤ o.2.1 ∧ o.2.1 ≤ 1000 := by
 intro h1
 ·have hk : n < l.length := (List.getElem?_eq_some_iff.1 ho).1
  have hb : progB l.length (kOf l) (nOf l) (mOf l) (sOf l) = true := hp
  simp only [progB, decide_eq_true_eq] at hb
  have := hb.2.2 n hk
  simp only [opAtB, kOf, nOf, ho, Option.getD_some, opB, h1] at this
  simp only [true_or, if_true, Bool.and_eq_true] at this
  have := inB_iff.1 this.1.1
  exact ⟨by omega, by omega⟩

set_option maxRecDepth 100000 in
set_option maxHeartbeats 16000000 in
theorem l3ProcOk_any (p : PartD) (x : ProcD) (w : World) (hp : p.Short) (hx : x.Short) (h1 : 1 ≤ p.next) (h2 : p.next ≤ 1000000000) (h : PartD.At w p) (hr : Row w x.progA (opK.flat x.prog)) :
  Calls Tryz.prog 103 #[.agg p.cells, .agg (procVs x)] w fun e w' => e = .returned (.bool (procOkB p.pure x.toProcP)) ∧ Below w.heap.size w w' := by
 have H0 : Hid (ProcIn w ((w.alloc (.cells p.cells 32)).alloc (.cells (procVs x) 43)) w.heap.size (w.heap.size + 1) p x) := procIn_start h hr
 have HS : Hid (p.Short ∧ x.Short) := ⟨hp, hx⟩
 have HE : Hid (procOkB p.pure x.toProcP = (inB x.id 1 1000 && (inB x.prio 1 50 && progL x.prog && plainB x.held && plainB x.got && inB x.code 0 3 && stateB x.toProcP) && turnB p.next x.toProcP && waitB p.pure x.toProcP)) := rfl
 obtain ⟨m0, m1, m2, m3, m4, m5, m6, m7⟩ := H0.out.part.cells
 obtain ⟨k0, k1, k2, k3, k4, k5, k6, k7, k8, k9, k10, k11⟩ := H0.out.proc.cells
 have hpl := hx.prog
 have hhs := hx.held
 have hgs := hx.got
 clear h hr hp hx
 unfold PartD.cells procVs at *
 go_enter Tryz.func103, Tryz.ntmps103
 go_wp2_with fail
 generalize (w.alloc (.cells #[.int .i64 p.id, .int .i64 p.next, .slice p.procA p.procs.length p.procC, .slice p.semA p.sems.length p.semC, .slice p.eventA p.events.length p.eventC, .slice p.boardA p.boards.length p.boardC, .slice p.bufferA p.buffers.length p.bufferC, .slice p.portA p.ports.length p.portC] 32)).alloc (.cells #[.int .i64 x.id, .int .i64 x.prio, .slice x.progA x.prog.length x.progC, .int .i64 x.state, .int .i64 x.pc, .int .i64 x.left, .int .i64 x.wake, .int .i64 x.on, .string x.held, .string x.got, .int .i64 x.code, .int .i64 x.since] 43) = W at *
 have HP : Hid (ProcIn w W w.heap.size (w.heap.size + 1) p x) := H0.out
 clear H0
 refine (l1In_any x.id 1 1000 _).mono ?_
 rintro e w9 ⟨rfl, hw9⟩
 rw [hw9]
 clear hw9 w9
 cases ha : inB x.id 1 1000
 ·have hz : True := trivial
  have HV : Hid (procOkB p.pure x.toProcP = false) := by show procOkB _ _ = false; rw [HE.out]; simp [ha]
  clear HE
  go_wp2
  go_ret
  exact ⟨ret_bool (by rw [HV.out]), HP.out.bel⟩
 have HA : Hid (inB x.id 1 1000 = true) := ha
 clear ha
 go_wp2_with fail
 refine (l1In_any x.prio 1 50 _).mono ?_
 rintro e w9 ⟨rfl, hw9⟩
 rw [hw9]
 clear hw9 w9
 cases hb : inB x.prio 1 50
 ·have hz : True := trivial
  have HV : Hid (procOkB p.pure x.toProcP = false) := by show procOkB _ _ = false; rw [HE.out]; simp [hb]
  clear HE
  go_wp2
  go_ret
  exact ⟨ret_bool (by rw [HV.out]), HP.out.bel⟩
 have HB : Hid (inB x.prio 1 50 = true) := hb
 clear hb
 go_wp2_with fail
 refine (specProgL_any x.progA x.prog x.progC _ hpl HS.out.2.ops HP.out.prog).mono ?_
 rintro e w3 ⟨rfl, hb3⟩
 have HP : Hid (ProcIn w w3 w.heap.size (w.heap.size + 1) p x) := HP.out.below hb3
 clear hb3 m0 m1 m2 m3 m4 m5 m6 m7 k0 k1 k2 k3 k4 k5 k6 k7 k8 k9 k10 k11
 obtain ⟨m0, m1, m2, m3, m4, m5, m6, m7⟩ := HP.out.part.cells
 obtain ⟨k0, k1, k2, k3, k4, k5, k6, k7, k8, k9, k10, k11⟩ := HP.out.proc.cells
 cases hc : progL x.prog
 ·have hz : True := trivial
  have HV : Hid (procOkB p.pure x.toProcP = false) := by show procOkB _ _ = false; rw [HE.out]; simp [hc]
  clear HE
  go_wp2
  go_ret
  exact ⟨ret_bool (by rw [HV.out]), HP.out.bel⟩
 have HC : Hid (progL x.prog = true) := hc
 clear hc
 go_wp2_with fail
 refine (l2Plain_any x.held _ hhs).mono ?_
 rintro e w9 ⟨rfl, hw9⟩
 rw [hw9]
 clear hw9 w9
 cases hd : plainB x.held
 ·have hz : True := trivial
  have HV : Hid (procOkB p.pure x.toProcP = false) := by show procOkB _ _ = false; rw [HE.out]; simp [hd]
  clear HE
  go_wp2
  go_ret
  exact ⟨ret_bool (by rw [HV.out]), HP.out.bel⟩
 have HD : Hid (plainB x.held = true) := hd
 clear hd
 go_wp2_with fail
 refine (l2Plain_any x.got _ hgs).mono ?_
 rintro e w9 ⟨rfl, hw9⟩
 rw [hw9]
 clear hw9 w9
 cases hg : plainB x.got
 ·have hz : True := trivial
  have HV : Hid (procOkB p.pure x.toProcP = false) := by show procOkB _ _ = false; rw [HE.out]; simp [hg]
  clear HE
  go_wp2
  go_ret
  exact ⟨ret_bool (by rw [HV.out]), HP.out.bel⟩
 have HG : Hid (plainB x.got = true) := hg
 clear hg
 go_wp2_with fail
 refine (l1In_any x.code 0 3 _).mono ?_
 rintro e w9 ⟨rfl, hw9⟩
 rw [hw9]
 clear hw9 w9
 cases hk : inB x.code 0 3
 ·have hz : True := trivial
  have HV : Hid (procOkB p.pure x.toProcP = false) := by show procOkB _ _ = false; rw [HE.out]; simp [hk]
  clear HE
  go_wp2
  go_ret
  exact ⟨ret_bool (by rw [HV.out]), HP.out.bel⟩
 have HK : Hid (inB x.code 0 3 = true) := hk
 clear hk
 go_wp2_with fail
 refine (l1In_any x.state 0 7 _).mono ?_
 rintro e w9 ⟨rfl, hw9⟩
 rw [hw9]
 clear hw9 w9
 cases hst : inB x.state 0 7
 ·have hz : True := trivial
  have HV : Hid (procOkB p.pure x.toProcP = false) := by show procOkB _ _ = false; rw [HE.out]; simp [stateB_in (x := x.toProcP) hst]
  clear HE
  go_wp2
  go_ret
  exact ⟨ret_bool (by rw [HV.out]), HP.out.bel⟩
 have HST : Hid (0 ≤ x.state ∧ x.state ≤ 7) := inB_iff.1 hst
 clear hst
 have HE : Hid (procOkB p.pure x.toProcP = (stateB x.toProcP && turnB p.next x.toProcP && waitB p.pure x.toProcP)) := by show procOkB _ _ = _; rw [HE.out, HA.out, HB.out, HC.out, HD.out, HG.out, HK.out]; simp
 by_cases hs0 : x.state = 0
 ·have e0 : (x.state == 0) = true := by simp [hs0]
  have HE : Hid (procOkB p.pure x.toProcP = (decide (x.pc = 0) && decide (x.left = 0) && decide (x.wake = 0) && decide (x.on = 0) && decide (x.since = 0) && emptyB x.held)) := by show procOkB _ _ = _; rw [HE.out]; simp [stateB, turnB, waitB, hs0]
  clear hs0
  by_cases g0 : x.pc = 0
  rotate_left
  ·have g0' : (x.pc == 0) = false := by simp [g0]
   have HV : Hid (procOkB p.pure x.toProcP = false) := by show procOkB _ _ = false; rw [HE.out]; simp [g0]
   clear HE
   go_wp2
   go_ret
   exact ⟨ret_bool (by rw [HV.out]), HP.out.bel⟩
  have g0' : (x.pc == 0) = true := by simp [g0]
  have G0 : Hid (x.pc = 0) := g0
  clear g0
  by_cases g1 : x.left = 0
  rotate_left
  ·have g1' : (x.left == 0) = false := by simp [g1]
   have HV : Hid (procOkB p.pure x.toProcP = false) := by show procOkB _ _ = false; rw [HE.out]; simp [g1]
   clear HE
   go_wp2
   go_ret
   exact ⟨ret_bool (by rw [HV.out]), HP.out.bel⟩
  have g1' : (x.left == 0) = true := by simp [g1]
  have G1 : Hid (x.left = 0) := g1
  clear g1
  by_cases g2 : x.wake = 0
  rotate_left
  ·have g2' : (x.wake == 0) = false := by simp [g2]
   have HV : Hid (procOkB p.pure x.toProcP = false) := by show procOkB _ _ = false; rw [HE.out]; simp [g2]
   clear HE
   go_wp2
   go_ret
   exact ⟨ret_bool (by rw [HV.out]), HP.out.bel⟩
  have g2' : (x.wake == 0) = true := by simp [g2]
  have G2 : Hid (x.wake = 0) := g2
  clear g2
  by_cases g3 : x.on = 0
  rotate_left
  ·have g3' : (x.on == 0) = false := by simp [g3]
   have HV : Hid (procOkB p.pure x.toProcP = false) := by show procOkB _ _ = false; rw [HE.out]; simp [g3]
   clear HE
   go_wp2
   go_ret
   exact ⟨ret_bool (by rw [HV.out]), HP.out.bel⟩
  have g3' : (x.on == 0) = true := by simp [g3]
  have G3 : Hid (x.on = 0) := g3
  clear g3
  by_cases g4 : x.held.toList = []
  rotate_left
  ·have g4' : ¬ [] = x.held.toList := fun h => g4 h.symm
   have HV : Hid (procOkB p.pure x.toProcP = false) := by show procOkB _ _ = false; rw [HE.out]; simp [emptyB_no g4]
   clear HE
   go_wp2
   go_ret
   exact ⟨ret_bool (by rw [HV.out]), HP.out.bel⟩
  by_cases g5 : x.since = 0
  rotate_left
  ·have g5' : (x.since == 0) = false := by simp [g5]
   have HV : Hid (procOkB p.pure x.toProcP = false) := by show procOkB _ _ = false; rw [HE.out]; simp [g5]
   clear HE
   go_wp2
   go_ret
   exact ⟨ret_bool (by rw [HV.out]), HP.out.bel⟩
  have g5' : (x.since == 0) = true := by simp [g5]
  have HV : Hid (procOkB p.pure x.toProcP = true) := by show procOkB _ _ = true; rw [HE.out]; simp [G0.out, G1.out, G2.out, G3.out, g5, emptyB_yes g4]
  clear HE
  go_wp2
  go_ret
  exact ⟨ret_bool (by rw [HV.out]), HP.out.bel⟩
 have e0 : (x.state == 0) = false := by simp [hs0]
 have HZ : Hid (¬ x.state = 0) := hs0
 clear hs0
 go_wp2_with fail
 refine (l1In_any x.pc 0 ((x.prog.length : Int) - 1) _).mono ?_
 rintro e w9 ⟨rfl, hw9⟩
 rw [hw9]
 clear hw9 w9
 have HE : Hid (procOkB p.pure x.toProcP = (hasOpB x.toProcP && (stateB x.toProcP && turnB p.next x.toProcP && waitB p.pure x.toProcP))) := by show procOkB _ _ = _; rw [HE.out]; exact state_op HZ.out
 cases hop : inB x.pc 0 ((x.prog.length : Int) - 1)
 ·have hz : hasOpB x.toProcP = false := hop
  have HV : Hid (procOkB p.pure x.toProcP = false) := by show procOkB _ _ = false; rw [HE.out]; simp [hz]
  clear HE
  go_wp2
  go_ret
  exact ⟨ret_bool (by rw [HV.out]), HP.out.bel⟩
 have HOP : Hid (hasOpB x.toProcP = true) := hop
 clear hop
 go_wp2_with fail
 refine (l1In_any x.since 1 (p.next - 1) _).mono ?_
 rintro e w9 ⟨rfl, hw9⟩
 rw [hw9]
 clear hw9 w9
 cases hsi : inB x.since 1 (p.next - 1)
 ·have hz : turnB p.next x.toProcP = false := by simp [turnB, hsi, HZ.out]
  have HV : Hid (procOkB p.pure x.toProcP = false) := by show procOkB _ _ = false; rw [HE.out]; simp [hz]
  clear HE
  go_wp2
  go_ret
  exact ⟨ret_bool (by rw [HV.out]), HP.out.bel⟩
 have HTU : Hid (turnB p.next x.toProcP = true) := by show turnB _ _ = true; simp [turnB, hsi]
 clear hsi
 have HE : Hid (procOkB p.pure x.toProcP = (stateB x.toProcP && waitB p.pure x.toProcP)) := by show procOkB _ _ = _; rw [HE.out, HOP.out, HTU.out]; simp
 by_cases hs1 : x.state = 1
 ·have e1 : (x.state == 1) = true := by simp [hs1]
  obtain ⟨n, hn, hnl, hno⟩ := hasOp_get HOP.out
  have HLS : Hid (leftB x.toProcP = (decide (x.left = 0) || (decide ((opAt x.toProcP).1 = 1) && inB x.left 1 ((opAt x.toProcP).2.1 - 1)))) := left_spec HC.out hn hno
  have HE : Hid (procOkB p.pure x.toProcP = (leftB x.toProcP && decide (x.wake = 0) && decide (x.on = 0) && emptyB x.held)) := by show procOkB _ _ = _; rw [HE.out]; simp [stateB, waitB, hs1, HOP.out]
  have HN1 : Hid ((opAt x.toProcP).1 = 1 → 1 ≤ (opAt x.toProcP).2.1 ∧ (opAt x.toProcP).2.1 ≤ 1000) := op_ge HC.out hno
  obtain ⟨g, hg, o0, o1, o2, o3⟩ := op_at HP.out.prog hno
  have hsz : w.heap.size + 1 < w3.heap.size := (Array.getElem?_eq_some_iff.1 HP.out.proc).1
  have i0 : (0 : Int) ≤ (n : Int) := by omega
  have i1 : (n : Int) < (x.prog.length : Int) := by omega
  rw [hg] at k2
  have k4n : w3.cell? ⟨w.heap.size + 1, 4, none⟩ = some (.int .i64 (n : Int)) := by rw [k4]; exact congrArg (fun z => some (Value.int .i64 z)) hn
  clear k4
  generalize opAt x.toProcP = o at *
  clear hs1 hg hn hno
  by_cases g0 : x.wake = 0
  rotate_left
  ·have g0' : (x.wake == 0) = false := by simp [g0]
   have HV : Hid (procOkB p.pure x.toProcP = false) := by show procOkB _ _ = false; rw [HE.out]; simp [g0]
   clear HE
   go_wp2
   go_ret
   exact ⟨ret_bool (by rw [HV.out]), HP.out.bel.alloc HP.out.bel.size _⟩
  have g0' : (x.wake == 0) = true := by simp [g0]
  have G0 : Hid (x.wake = 0) := g0
  clear g0
  by_cases g1 : x.on = 0
  rotate_left
  ·have g1' : (x.on == 0) = false := by simp [g1]
   have HV : Hid (procOkB p.pure x.toProcP = false) := by show procOkB _ _ = false; rw [HE.out]; simp [g1]
   clear HE
   go_wp2
   go_ret
   exact ⟨ret_bool (by rw [HV.out]), HP.out.bel.alloc HP.out.bel.size _⟩
  have g1' : (x.on == 0) = true := by simp [g1]
  have G1 : Hid (x.on = 0) := g1
  clear g1
  by_cases g4 : x.held.toList = []
  rotate_left
  ·have g4' : ¬ [] = x.held.toList := fun h => g4 h.symm
   have HV : Hid (procOkB p.pure x.toProcP = false) := by show procOkB _ _ = false; rw [HE.out]; simp [emptyB_no g4]
   clear HE
   go_wp2
   go_ret
   exact ⟨ret_bool (by rw [HV.out]), HP.out.bel.alloc HP.out.bel.size _⟩
  have HE : Hid (procOkB p.pure x.toProcP = (decide (x.left = 0) || (decide (o.1 = 1) && inB x.left 1 (o.2.1 - 1)))) := by show procOkB _ _ = _; rw [HE.out, HLS.out]; simp [G0.out, G1.out, emptyB_yes g4]
  by_cases g5 : x.left = 0
  ·have g5' : (x.left == 0) = true := by simp [g5]
   have HV : Hid (procOkB p.pure x.toProcP = true) := by show procOkB _ _ = true; rw [HE.out]; simp [g5]
   clear HE
   go_wp2
   go_ret
   exact ⟨ret_bool (by rw [HV.out]), HP.out.bel.alloc HP.out.bel.size _⟩
  have g5' : (x.left == 0) = false := by simp [g5]
  by_cases g6 : o.1 = 1
  rotate_left
  ·have g6' : (o.1 == 1) = false := by simp [g6]
   have HV : Hid (procOkB p.pure x.toProcP = false) := by show procOkB _ _ = false; rw [HE.out]; simp [g5, g6]
   clear HE
   go_wp2
   go_ret
   exact ⟨ret_bool (by rw [HV.out]), HP.out.bel.alloc HP.out.bel.size _⟩
  have n1 := (HN1.out g6).1
  have n2 := (HN1.out g6).2
  have HE : Hid (procOkB p.pure x.toProcP = inB x.left 1 (o.2.1 - 1)) := by show procOkB _ _ = _; rw [HE.out]; simp [g5, g6]
  have g6' : (o.1 == 1) = true := by simp [g6]
  clear g6 g5
  go_wp2_with (go_at_call 78; refine (l1In_any x.left 1 (o.2.1 - 1) _).mono ?_; rintro e w9 ⟨rfl, hw9⟩; rw [hw9]; clear hw9 w9)
  go_ret
  exact ⟨ret_bool (by rw [HE.out]), HP.out.bel.alloc HP.out.bel.size _⟩
 have e1 : (x.state == 1) = false := by simp [hs1]
 by_cases gl : x.left = 0
 rotate_left
 ·have gl' : (x.left == 0) = false := by simp [gl]
  have HSF : Hid (stateB x.toProcP = false) := state_left HZ.out hs1 gl
  have HV : Hid (procOkB p.pure x.toProcP = false) := by show procOkB _ _ = false; rw [HE.out]; simp [HSF.out]
  clear HE
  go_wp2
  go_ret
  exact ⟨ret_bool (by rw [HV.out]), HP.out.bel⟩
 have gl' : (x.left != 0) = false := by simp [gl]
 have HL0 : Hid (x.left = 0) := gl
 clear gl
 by_cases hs5 : x.state = 5
 ·have e5 : (x.state != 5) = false := by simp [hs5]
  have e2 : (x.state == 2) = false := by simp [hs5]
  have HE : Hid (procOkB p.pure x.toProcP = (wakeB x.wake && hasB p.pure x.state x.on)) := by show procOkB _ _ = _; rw [HE.out]; simp [stateB, waitB, hs5, HOP.out, HL0.out]
  clear hs5
  go_wp2_with fail
  refine (l3Has_any p x.state x.on _ HS.out.1 HP.out.at').mono ?_
  rintro e w4 ⟨rfl, hb4⟩
  have HP4 : Hid (ProcIn w w4 w.heap.size (w.heap.size + 1) p x) := HP.out.below hb4
  clear hb4 m0 m1 m2 m3 m4 m5 m6 m7 k0 k1 k2 k3 k4 k5 k6 k7 k8 k9 k10 k11
  obtain ⟨k0, k1, k2, k3, k4, k5, k6, k7, k8, k9, k10, k11⟩ := HP4.out.proc.cells
  cases hha : hasB p.pure x.state x.on
  ·have hz : True := trivial
   have HV : Hid (procOkB p.pure x.toProcP = false) := by show procOkB _ _ = false; rw [HE.out]; simp [hha]
   clear HE
   go_wp2
   go_ret
   exact ⟨ret_bool (by rw [HV.out]), HP4.out.bel⟩
  have HHA : Hid (hasB p.pure x.state x.on = true) := hha
  clear hha
  have HE : Hid (procOkB p.pure x.toProcP = (inB x.wake 1 2000000000 || decide (x.wake = -1))) := by show procOkB _ _ = _; rw [HE.out, HHA.out]; simp [wakeB]
  by_cases hm : x.wake = -1
  ·have hm' : (x.wake == -1) = true := by simp [hm]
   have HV : Hid (procOkB p.pure x.toProcP = true) := by show procOkB _ _ = true; rw [HE.out]; simp [hm]
   clear HE
   go_wp2
   go_ret
   exact ⟨ret_bool (by rw [HV.out]), HP4.out.bel⟩
  have hm' : (x.wake == -1) = false := by simp [hm]
  have HV : Hid (procOkB p.pure x.toProcP = inB x.wake 1 2000000000) := by show procOkB _ _ = _; rw [HE.out]; simp [hm]
  clear HE hm
  go_wp2_with (go_at_call 78; refine (l1In_any x.wake 1 2000000000 _).mono ?_; rintro e w9 ⟨rfl, hw9⟩; rw [hw9]; clear hw9 w9)
  go_ret
  exact ⟨ret_bool (by rw [HV.out]), HP4.out.bel⟩
 have e5 : (x.state != 5) = true := by simp [hs5]
 by_cases g4 : x.held.toList = []
 rotate_left
 ·have g4' : ¬ [] = x.held.toList := fun h => g4 h.symm
  have g4n : x.held.toList.isEmpty = false := by simp [g4]
  have HSF : Hid (stateB x.toProcP = false) := state_held HZ.out hs1 hs5 (emptyB_no g4)
  have HV : Hid (procOkB p.pure x.toProcP = false) := by show procOkB _ _ = false; rw [HE.out]; simp [HSF.out]
  clear HE
  go_wp2
  go_ret
  exact ⟨ret_bool (by rw [HV.out]), HP.out.bel⟩
 have HH0 : Hid (emptyB x.held = true) := emptyB_yes g4
 by_cases hs2 : x.state = 2
 ·have e2 : (x.state == 2) = true := by simp [hs2]
  have HE : Hid (procOkB p.pure x.toProcP = (inB x.wake 1 2000000000 && decide (x.on = 0))) := by show procOkB _ _ = _; rw [HE.out]; simp [stateB, waitB, hs2, HOP.out, HL0.out, HH0.out]
  clear hs2
  by_cases go : x.on = 0
  rotate_left
  ·have go' : (x.on == 0) = false := by simp [go]
   have HV : Hid (procOkB p.pure x.toProcP = false) := by show procOkB _ _ = false; rw [HE.out]; simp [go]
   clear HE
   go_wp2
   go_ret
   exact ⟨ret_bool (by rw [HV.out]), HP.out.bel⟩
  have go' : (x.on == 0) = true := by simp [go]
  have HV : Hid (procOkB p.pure x.toProcP = inB x.wake 1 2000000000) := by show procOkB _ _ = _; rw [HE.out]; simp [go]
  clear HE go
  go_wp2_with (go_at_call 78; refine (l1In_any x.wake 1 2000000000 _).mono ?_; rintro e w9 ⟨rfl, hw9⟩; rw [hw9]; clear hw9 w9)
  go_ret
  exact ⟨ret_bool (by rw [HV.out]), HP.out.bel⟩
 have e2 : (x.state == 2) = false := by simp [hs2]
 have HE : Hid (procOkB p.pure x.toProcP = (wakeB x.wake && hasB p.pure x.state x.on)) := by show procOkB _ _ = _; rw [HE.out]; exact state_wait HZ.out hs1 hs2 hs5 HST.out HOP.out HL0.out HH0.out
 clear hs1 hs2 hs5
 go_wp2_with fail
 refine (l3Has_any p x.state x.on _ HS.out.1 HP.out.at').mono ?_
 rintro e w4 ⟨rfl, hb4⟩
 have HP4 : Hid (ProcIn w w4 w.heap.size (w.heap.size + 1) p x) := HP.out.below hb4
 clear hb4 m0 m1 m2 m3 m4 m5 m6 m7 k0 k1 k2 k3 k4 k5 k6 k7 k8 k9 k10 k11
 obtain ⟨k0, k1, k2, k3, k4, k5, k6, k7, k8, k9, k10, k11⟩ := HP4.out.proc.cells
 cases hha : hasB p.pure x.state x.on
 ·have hz : True := trivial
  have HV : Hid (procOkB p.pure x.toProcP = false) := by show procOkB _ _ = false; rw [HE.out]; simp [hha]
  clear HE
  go_wp2
  go_ret
  exact ⟨ret_bool (by rw [HV.out]), HP4.out.bel⟩
 have HHA : Hid (hasB p.pure x.state x.on = true) := hha
 clear hha
 have HE : Hid (procOkB p.pure x.toProcP = (inB x.wake 1 2000000000 || decide (x.wake = -1))) := by show procOkB _ _ = _; rw [HE.out, HHA.out]; simp [wakeB]
 by_cases hm : x.wake = -1
 ·have hm' : (x.wake == -1) = true := by simp [hm]
  have HV : Hid (procOkB p.pure x.toProcP = true) := by show procOkB _ _ = true; rw [HE.out]; simp [hm]
  clear HE
  go_wp2
  go_ret
  exact ⟨ret_bool (by rw [HV.out]), HP4.out.bel⟩
 have hm' : (x.wake == -1) = false := by simp [hm]
 have HV : Hid (procOkB p.pure x.toProcP = inB x.wake 1 2000000000) := by show procOkB _ _ = _; rw [HE.out]; simp [hm]
 clear HE hm
 go_wp2_with (go_at_call 78; refine (l1In_any x.wake 1 2000000000 _).mono ?_; rintro e w9 ⟨rfl, hw9⟩; rw [hw9]; clear hw9 w9)
 go_ret
 exact ⟨ret_bool (by rw [HV.out]), HP4.out.bel⟩

end Go.Proofs.YtkbcplnlehdjfaaGreat

/- An open partition as data. (Made by mkopena.py.) -/
namespace Go.Proofs.YtkbcplnlehdjfaaGreat
open Go.RowKit Go.Maps

/-- The numbers, the blocks of the maps, and the things with their blocks. -/
structure OpenD where
 q : Opn
 lp : List (ProcD × Nat)
 ls : List (SemD × Nat)
 le : List (EventD × Nat)
 lb : List (BoardD × Nat)
 lf : List (BufferD × Nat)
 lq : List (PortD × Nat)
def OpenD.pure (S : OpenD) : PartP := ⟨S.q.id, S.q.next, S.lp.map (·.1.toProcP), S.ls.map (·.1), S.le.map (·.1), S.lb.map (·.1), S.lf.map (·.1.toBufferP), S.lq.map (·.1.toPortP)⟩
/-- The blocks of the maps and of the things. -/
def OpenD.boxes (S : OpenD) : List Nat := (S.q.bp :: S.lp.map (·.2)) ++ ((S.q.bs :: S.ls.map (·.2)) ++ ((S.q.be :: S.le.map (·.2)) ++ ((S.q.bb :: S.lb.map (·.2)) ++ ((S.q.bf :: S.lf.map (·.2)) ++ (S.q.bq :: S.lq.map (·.2))))))
/-- The blocks of the things' lists. -/
def OpenD.kids (S : OpenD) : List Nat := YtkbcplnlehdjfaaGreat.kids procN S.lp ++ (YtkbcplnlehdjfaaGreat.kids bufferN S.lf ++ YtkbcplnlehdjfaaGreat.kids portN S.lq)

/-- A partition lies open, all of it in memory of its own. -/
structure OpenAt (w : World) (base o : Nat) (S : OpenD) : Prop where
 opn : OpenBox w o S.q
 procs : Shelf procVs (fun x : ProcD => x.id) 43 w base S.q.bp S.lp
 sems : Shelf semVs (fun x : SemD => x.id) 49 w base S.q.bs S.ls
 events : Shelf eventVs (fun x : EventD => x.id) 138 w base S.q.be S.le
 boards : Shelf boardVs (fun x : BoardD => x.id) 141 w base S.q.bb S.lb
 buffers : Shelf bufferVs (fun x : BufferD => x.id) 144 w base S.q.bf S.lf
 ports : Shelf portVs (fun x : PortD => x.id) 61 w base S.q.bq S.lq
 mineP : ∀ p ∈ S.lp, procN.Mine w base p.1
 mineF : ∀ p ∈ S.lf, bufferN.Mine w base p.1
 mineQ : ∀ p ∈ S.lq, portN.Mine w base p.1
 nodup : (o :: (S.boxes ++ S.kids)).Nodup
 low : base ≤ o

section
variable {α : Type} {vs : α → Array Value} {num : α → Int} {T : TypeId}
/-- What came of making a shelf: its number and its map; if all is well the shelf, between two bounds. -/
def ShRes (vs : α → Array Value) (num : α → Int) (T : TypeId) (W : World) (lo hi : Nat) (most : Int) (ok : Bool) (list : List α) (m : Int) (mb : Option Nat) : Prop :=
 ok = true → m = most ∧ ∃ b l, mb = some b ∧ l.map (·.1) = list ∧ Shelf vs num T W lo b l ∧ ∀ g ∈ b :: l.map (·.2), g < hi
theorem ShRes.below {W W' : World} {lo hi : Nat} {most : Int} {ok : Bool} {list : List α} {m : Int} {mb : Option Nat} (h : ShRes vs num T W lo hi most ok list m mb) (hb : Below W.heap.size W W') : ShRes vs num T W' lo hi most ok list m mb := fun e => by
 obtain ⟨h1, b, l, h2, h3, h4, h5⟩ := h e
 exact ⟨h1, b, l, h2, h3, h4.below hb, h5⟩
theorem ShelfEnds.res {w w' : World} {most : Int} {ok : Bool} {list : List α} {e : Ending} (h : ShelfEnds vs num T w most ok list e w') :
  ∃ (okv : Bool) (m : Int) (mb : Option Nat), e = .returned (.tuple #[.agg #[.int .i64 m, .map mb], .bool okv]) ∧ okv = ok ∧ Below w.heap.size w w' ∧ ShRes vs num T w' w.heap.size w'.heap.size most okv list m mb := by
 obtain ⟨hb, ⟨h1, h2⟩ | ⟨h1, b, l, h2, h3, h4⟩⟩ := h
 ·exact ⟨false, 0, none, h2, h1.symm, hb, fun e => by cases e⟩
 ·exact ⟨true, most, some b, h2, h1.symm, hb, fun _ => ⟨rfl, b, l, rfl, h3, h4, h4.lt⟩⟩
end

/-- The partition's block, and the shelves that are made: block, most, map. -/
structure Opg (w wr : World) (p : PartD) (l : List (Nat × Int × Option Nat)) : Prop where
 bel : Below w.heap.size w wr
 part : PartBox wr w.heap.size p
 shs : ∀ q ∈ l, ∃ t, wr.heap[q.1]? = some (.cells #[.int .i64 q.2.1, .map q.2.2] t (0, 0))
theorem Opg.start (w : World) (p : PartD) : Opg w (w.alloc (.cells p.cells 32)) p [] :=
 ⟨(Below.refl _ _).alloc (Nat.le_refl _) _, heap_alloc_new _ _, fun q hq => absurd hq (by simp)⟩
theorem Opg.below {w wr w' : World} {p : PartD} {l : List (Nat × Int × Option Nat)} (h : Opg w wr p l) (hb : Below wr.heap.size wr w') : Opg w w' p l :=
 ⟨h.bel.trans (hb.mono h.bel.size), h.part.below hb, fun q hq => by
  obtain ⟨t, h1⟩ := h.shs q hq
  exact ⟨t, (hb.block _ (Array.getElem?_eq_some_iff.1 h1).1).trans h1⟩⟩
theorem Opg.push {w wr w1 : World} {p : PartD} {m : Int} {mb : Option Nat} {l : List (Nat × Int × Option Nat)} (h : Opg w wr p l) (hb : Below wr.heap.size wr w1) (t : TypeId) :
  Opg w (w1.alloc (.cells #[.int .i64 m, .map mb] t)) p ((w1.heap.size, m, mb) :: l) := by
 have h1 := h.below hb
 have h2 : Below w1.heap.size w1 (w1.alloc (.cells #[.int .i64 m, .map mb] t)) := (Below.refl _ _).alloc (Nat.le_refl _) _
 have h3 := h1.below h2
 refine ⟨h3.bel, h3.part, fun q hq => ?_⟩
 rcases List.mem_cons.1 hq with rfl | hq
 ·exact ⟨t, heap_alloc_new _ _⟩
 ·exact h3.shs q hq
theorem Opg.c0 {w wr : World} {p : PartD} {l : List (Nat × Int × Option Nat)} (h : Opg w wr p l) {B : Nat} {m : Int} {mb : Option Nat} (hq : (B, m, mb) ∈ l) : wr.cell? ⟨B, 0, none⟩ = some (.int .i64 m) := by
 obtain ⟨t, h1⟩ := h.shs _ hq
 simp only at h1
 simp [World.cell?, h1]
theorem Opg.c1 {w wr : World} {p : PartD} {l : List (Nat × Int × Option Nat)} (h : Opg w wr p l) {B : Nat} {m : Int} {mb : Option Nat} (hq : (B, m, mb) ∈ l) : wr.cell? ⟨B, 1, none⟩ = some (.map mb) := by
 obtain ⟨t, h1⟩ := h.shs _ hq
 simp only at h1
 simp [World.cell?, h1]

/-- All that came in lies, and is not too long for a machine. -/
structure PartD.Good (w : World) (p : PartD) : Prop where
 at' : PartD.At w p
 short : p.Short
 procs : ∀ x ∈ p.procs, x.Short ∧ x.Wf
 sems : ∀ x ∈ p.sems, (Lit.int .i64 x.id).wf = true
 events : ∀ x ∈ p.events, (Lit.int .i64 x.id).wf = true
 boards : ∀ x ∈ p.boards, (Lit.int .i64 x.id).wf = true ∧ x.text.size ≤ 1048576
 buffers : ∀ x ∈ p.buffers, (Lit.int .i64 x.id).wf = true ∧ x.items.length ≤ 1048576 ∧ ∀ s ∈ x.items, s.size ≤ 1048576
 ports : ∀ x ∈ p.ports, (Lit.int .i64 x.id).wf = true ∧ x.items.length ≤ 1048576 ∧ ∀ s ∈ x.items, s.size ≤ 1048576
 lowProc : ∀ x ∈ p.procs, ∀ g, procN.kid x = some g → g < w.heap.size
 lowBuffer : ∀ x ∈ p.buffers, ∀ g, bufferN.kid x = some g → g < w.heap.size
 lowPort : ∀ x ∈ p.ports, ∀ g, portN.kid x = some g → g < w.heap.size
theorem PartD.Good.below {w w' : World} {p : PartD} (h : p.Good w) (hb : Below w.heap.size w w') : p.Good w' := ⟨h.at'.below hb, h.short, h.procs, h.sems, h.events, h.boards, h.buffers, h.ports, fun x hx g hk => Nat.lt_of_lt_of_le (h.lowProc x hx g hk) hb.size, fun x hx g hk => Nat.lt_of_lt_of_le (h.lowBuffer x hx g hk) hb.size, fun x hx g hk => Nat.lt_of_lt_of_le (h.lowPort x hx g hk) hb.size⟩
theorem PartD.Good.fitProc {w : World} {p : PartD} (h : p.Good w) : ∀ x ∈ p.procs, ProcFit w x := fun x hx => ⟨(h.procs x hx).1, h.at'.1.2 x hx (x.progA, opK.flat x.prog) (by simp [procK])⟩
theorem PartD.Good.fitSem {w : World} {p : PartD} (_ : p.Good w) : ∀ x ∈ p.sems, SemFit w x := fun _ _ => trivial
theorem PartD.Good.fitEvent {w : World} {p : PartD} (_ : p.Good w) : ∀ x ∈ p.events, EventFit w x := fun _ _ => trivial
theorem PartD.Good.fitBoard {w : World} {p : PartD} (h : p.Good w) : ∀ x ∈ p.boards, BoardFit w x := fun x hx => (h.boards x hx).2
theorem PartD.Good.fitBuffer {w : World} {p : PartD} (h : p.Good w) : ∀ x ∈ p.buffers, BufferFit w x := fun x hx => ⟨(h.buffers x hx).2.1, (h.buffers x hx).2.2, h.at'.2.2.2.2.1.2 x hx (x.itemsA, strK.flat x.items) (by simp [bufferK])⟩
theorem PartD.Good.fitPort {w : World} {p : PartD} (h : p.Good w) : ∀ x ∈ p.ports, PortFit w x := fun x hx => ⟨(h.ports x hx).2.1, (h.ports x hx).2.2, h.at'.2.2.2.2.2.2 x hx (x.itemsA, strK.flat x.items) (by simp [portK])⟩
theorem PartD.Good.wfProc {w : World} {p : PartD} (h : p.Good w) : ∀ x ∈ p.procs, (Lit.int .i64 x.id).wf = true := fun x hx => (h.procs x hx).2.id
theorem PartD.Good.wfSem {w : World} {p : PartD} (h : p.Good w) : ∀ x ∈ p.sems, (Lit.int .i64 x.id).wf = true := h.sems
theorem PartD.Good.wfEvent {w : World} {p : PartD} (h : p.Good w) : ∀ x ∈ p.events, (Lit.int .i64 x.id).wf = true := h.events
theorem PartD.Good.wfBoard {w : World} {p : PartD} (h : p.Good w) : ∀ x ∈ p.boards, (Lit.int .i64 x.id).wf = true := fun x hx => (h.boards x hx).1
theorem PartD.Good.wfBuffer {w : World} {p : PartD} (h : p.Good w) : ∀ x ∈ p.buffers, (Lit.int .i64 x.id).wf = true := fun x hx => (h.buffers x hx).1
theorem PartD.Good.wfPort {w : World} {p : PartD} (h : p.Good w) : ∀ x ∈ p.ports, (Lit.int .i64 x.id).wf = true := fun x hx => (h.ports x hx).1

/-! ### What each test says of the partition -/
def okProc (p : PartD) : Bool := thingsB (fun x : ProcD => x.id) (fun x : ProcD => procB x.toProcP) 0 p.procs && decide ((p.procs.length : Int) ≤ max 6 0)
theorem okProc_iff (p : PartD) : okProc p = true ↔ (thingsB (·.id) procB 0 p.pure.procs = true ∧ p.pure.procs.length ≤ 6) := by
 have e : thingsB (·.id) procB 0 p.pure.procs = thingsB (fun x : ProcD => x.id) (fun x : ProcD => procB x.toProcP) 0 p.procs := thingsB_map _ _ _ _ _
 have e2 : p.pure.procs.length = p.procs.length := by simp [PartD.pure]
 rw [e, e2]
 unfold okProc
 rw [Bool.and_eq_true, decide_eq_true_iff]
 constructor
 ·intro h; exact ⟨h.1, by omega⟩
 ·intro h; exact ⟨h.1, by omega⟩
def okSem (p : PartD) : Bool := thingsB (fun x : SemD => x.id) (fun x : SemD => semB x) 0 p.sems && decide ((p.sems.length : Int) ≤ max 5 0)
theorem okSem_iff (p : PartD) : okSem p = true ↔ (thingsB (·.id) semB 0 p.pure.sems = true ∧ p.pure.sems.length ≤ 5) := by
 have e : p.pure.sems = p.sems := rfl
 rw [e]
 unfold okSem
 rw [Bool.and_eq_true, decide_eq_true_iff]
 constructor
 ·intro h; exact ⟨h.1, by omega⟩
 ·intro h; exact ⟨h.1, by omega⟩
def okEvent (p : PartD) : Bool := thingsB (fun x : EventD => x.id) (fun x : EventD => eventB x) 0 p.events && decide ((p.events.length : Int) ≤ max 5 0)
theorem okEvent_iff (p : PartD) : okEvent p = true ↔ (thingsB (·.id) eventB 0 p.pure.events = true ∧ p.pure.events.length ≤ 5) := by
 have e : p.pure.events = p.events := rfl
 rw [e]
 unfold okEvent
 rw [Bool.and_eq_true, decide_eq_true_iff]
 constructor
 ·intro h; exact ⟨h.1, by omega⟩
 ·intro h; exact ⟨h.1, by omega⟩
def okBoard (p : PartD) : Bool := thingsB (fun x : BoardD => x.id) (fun x : BoardD => boardB x) 0 p.boards && decide ((p.boards.length : Int) ≤ max 5 0)
theorem okBoard_iff (p : PartD) : okBoard p = true ↔ (thingsB (·.id) boardB 0 p.pure.boards = true ∧ p.pure.boards.length ≤ 5) := by
 have e : p.pure.boards = p.boards := rfl
 rw [e]
 unfold okBoard
 rw [Bool.and_eq_true, decide_eq_true_iff]
 constructor
 ·intro h; exact ⟨h.1, by omega⟩
 ·intro h; exact ⟨h.1, by omega⟩
def okBuffer (p : PartD) : Bool := thingsB (fun x : BufferD => x.id) (fun x : BufferD => bufferB x.toBufferP) 0 p.buffers && decide ((p.buffers.length : Int) ≤ max 5 0)
theorem okBuffer_iff (p : PartD) : okBuffer p = true ↔ (thingsB (·.id) bufferB 0 p.pure.buffers = true ∧ p.pure.buffers.length ≤ 5) := by
 have e : thingsB (·.id) bufferB 0 p.pure.buffers = thingsB (fun x : BufferD => x.id) (fun x : BufferD => bufferB x.toBufferP) 0 p.buffers := thingsB_map _ _ _ _ _
 have e2 : p.pure.buffers.length = p.buffers.length := by simp [PartD.pure]
 rw [e, e2]
 unfold okBuffer
 rw [Bool.and_eq_true, decide_eq_true_iff]
 constructor
 ·intro h; exact ⟨h.1, by omega⟩
 ·intro h; exact ⟨h.1, by omega⟩
def okPort (p : PartD) : Bool := thingsB (fun x : PortD => x.id) (fun x : PortD => portB x.toPortP) 0 p.ports && decide ((p.ports.length : Int) ≤ max 5 0)
theorem okPort_iff (p : PartD) : okPort p = true ↔ (thingsB (·.id) portB 0 p.pure.ports = true ∧ p.pure.ports.length ≤ 5) := by
 have e : thingsB (·.id) portB 0 p.pure.ports = thingsB (fun x : PortD => x.id) (fun x : PortD => portB x.toPortP) 0 p.ports := thingsB_map _ _ _ _ _
 have e2 : p.pure.ports.length = p.ports.length := by simp [PartD.pure]
 rw [e, e2]
 unfold okPort
 rw [Bool.and_eq_true, decide_eq_true_iff]
 constructor
 ·intro h; exact ⟨h.1, by omega⟩
 ·intro h; exact ⟨h.1, by omega⟩

theorem mem_keys {α : Type} {num : α → Int} {l : List (α × Nat)} (k : Int) : (lookM (keysOf num l) k).isSome = decide (k ∈ (l.map (·.1)).map num) := by
 rw [lookM_isSome]
 simp only [keysOf, List.map_map, Function.comp_def]
/-- What a process waits for, by the maps and by the lists. -/
theorem waitK_is {p : PartD} {ls : List (SemD × Nat)} {le : List (EventD × Nat)} {lb : List (BoardD × Nat)} {lf : List (BufferD × Nat)} (hs : ls.map (·.1) = p.sems) (he : le.map (·.1) = p.events) (hb : lb.map (·.1) = p.boards) (hf : lf.map (·.1) = p.buffers) (x : ProcD) (hx : procB x.toProcP = true) :
  waitK (keysOf (fun x : SemD => x.id) ls) (keysOf (fun x : EventD => x.id) le) (keysOf (fun x : BoardD => x.id) lb) (keysOf (fun x : BufferD => x.id) lf) x = waitB p.pure x.toProcP := by
 have hst : 0 ≤ x.state ∧ x.state ≤ 7 := by
  have h1 : stateB x.toProcP = true := by
   simp only [procB, Bool.and_eq_true] at hx
   exact hx.2
  have h2 : inB x.state 0 7 = true := by
   cases h : inB x.state 0 7 with
   | true => rfl
   | false => rw [stateB_in h] at h1; cases h1
  exact inB_iff.1 h2
 have eF : p.pure.buffers.map (·.id) = p.buffers.map (·.id) := by simp [PartD.pure, Function.comp_def]
 unfold waitK waitB hasB
 simp only [mem_keys, hs, he, hb, hf, eF]
 have e1 : p.pure.sems = p.sems := rfl
 have e2 : p.pure.events = p.events := rfl
 have e3 : p.pure.boards = p.boards := rfl
 rw [e1, e2, e3]
 by_cases h3 : x.state = 3
 ·simp [h3]
 by_cases h4 : x.state = 4
 ·simp [h4]
 by_cases h5 : x.state = 5
 ·simp [h5]
 by_cases h6 : x.state = 6
 ·simp [h6]
 by_cases h7 : x.state = 7
 ·simp [h7]
 have h8 : ¬ 3 ≤ x.state := by omega
 simp [h3, h4, h5, h6, h7, h8]
theorem waits_is {p : PartD} {lp : List (ProcD × Nat)} {ls : List (SemD × Nat)} {le : List (EventD × Nat)} {lb : List (BoardD × Nat)} {lf : List (BufferD × Nat)} (hp : lp.map (·.1) = p.procs) (hs : ls.map (·.1) = p.sems) (he : le.map (·.1) = p.events) (hb : lb.map (·.1) = p.boards) (hf : lf.map (·.1) = p.buffers) (hok : okProc p = true) :
  (lp.all fun q => waitK (keysOf (fun x : SemD => x.id) ls) (keysOf (fun x : EventD => x.id) le) (keysOf (fun x : BoardD => x.id) lb) (keysOf (fun x : BufferD => x.id) lf) q.1) = p.pure.procs.all (waitB p.pure) := by
 have e : p.pure.procs = lp.map fun q => q.1.toProcP := by
  show p.procs.map (·.toProcP) = _
  rw [← hp, List.map_map]
  rfl
 rw [e, List.all_map]
 have hall : ∀ q ∈ lp, procB q.1.toProcP = true := fun q hq => by
  have h1 := ((okProc_iff p).1 hok).1
  refine (things_all h1 q.1.toProcP ?_).2
  rw [e]
  exact List.mem_map.2 ⟨q, hq, rfl⟩
 rw [Bool.eq_iff_iff, List.all_eq_true, List.all_eq_true]
 constructor
 ·intro h q hq
  have := h q hq
  rw [waitK_is hs he hb hf q.1 (hall q hq)] at this
  exact this
 ·intro h q hq
  rw [waitK_is hs he hb hf q.1 (hall q hq)]
  exact h q hq
theorem turns_is {p : PartD} {lp : List (ProcD × Nat)} {next : Int} (hp : lp.map (·.1) = p.procs) : TurnsD next lp ↔ TurnsR next p.pure.procs := by
 have e : p.pure.procs = lp.map fun q => q.1.toProcP := by
  show p.procs.map (·.toProcP) = _
  rw [← hp, List.map_map]
  rfl
 rw [e]
 rfl
theorem open_yes {p : PartD} (h1 : okProc p = true) (h2 : okSem p = true) (h3 : okEvent p = true) (h4 : okBoard p = true) (h5 : okBuffer p = true) (h6 : okPort p = true) (h7 : 1 ≤ p.id ∧ p.id ≤ 6) (h8 : 1 ≤ p.next ∧ p.next ≤ 1000000000) (h9 : TurnsR p.next p.pure.procs) (h10 : p.pure.procs.all (waitB p.pure) = true) : PartR p.pure := by
 rw [okProc_iff] at h1
 rw [okSem_iff] at h2
 rw [okEvent_iff] at h3
 rw [okBoard_iff] at h4
 rw [okBuffer_iff] at h5
 rw [okPort_iff] at h6
 exact (openR_iff _).1 ⟨inB_iff.2 h7, inB_iff.2 h8, h1.2, h2.2, h3.2, h4.2, h5.2, h6.2, h1.1, h2.1, h3.1, h4.1, h5.1, h6.1, h9, h10⟩
theorem open_noProc {p : PartD} (h : okProc p = false) : ¬ PartR p.pure := fun hr => by
 have h0 := (openR_iff _).2 hr
 have := (okProc_iff p).2 ⟨h0.procs, h0.nProc⟩
 rw [h] at this
 cases this
theorem open_noSem {p : PartD} (h : okSem p = false) : ¬ PartR p.pure := fun hr => by
 have h0 := (openR_iff _).2 hr
 have := (okSem_iff p).2 ⟨h0.sems, h0.nSem⟩
 rw [h] at this
 cases this
theorem open_noEvent {p : PartD} (h : okEvent p = false) : ¬ PartR p.pure := fun hr => by
 have h0 := (openR_iff _).2 hr
 have := (okEvent_iff p).2 ⟨h0.events, h0.nEvent⟩
 rw [h] at this
 cases this
theorem open_noBoard {p : PartD} (h : okBoard p = false) : ¬ PartR p.pure := fun hr => by
 have h0 := (openR_iff _).2 hr
 have := (okBoard_iff p).2 ⟨h0.boards, h0.nBoard⟩
 rw [h] at this
 cases this
theorem open_noBuffer {p : PartD} (h : okBuffer p = false) : ¬ PartR p.pure := fun hr => by
 have h0 := (openR_iff _).2 hr
 have := (okBuffer_iff p).2 ⟨h0.buffers, h0.nBuffer⟩
 rw [h] at this
 cases this
theorem open_noPort {p : PartD} (h : okPort p = false) : ¬ PartR p.pure := fun hr => by
 have h0 := (openR_iff _).2 hr
 have := (okPort_iff p).2 ⟨h0.ports, h0.nPort⟩
 rw [h] at this
 cases this
theorem open_noId {p : PartD} (h : ¬ (1 ≤ p.id ∧ p.id ≤ 6)) : ¬ PartR p.pure := fun hr => h (inB_iff.1 hr.id)
theorem open_noNext {p : PartD} (h : ¬ (1 ≤ p.next ∧ p.next ≤ 1000000000)) : ¬ PartR p.pure := fun hr => h (inB_iff.1 hr.next)
theorem open_noTurns {p : PartD} (h : ¬ TurnsR p.next p.pure.procs) : ¬ PartR p.pure := fun hr => h ((openR_iff _).2 hr).turns
theorem open_noWaits {p : PartD} (h : p.pure.procs.all (waitB p.pure) = false) : ¬ PartR p.pure := fun hr => by
 have := ((openR_iff _).2 hr).waits
 rw [h] at this
 cases this

/-- What opening ends in. -/
def OpenEnds (w : World) (p : PartP) (e : Ending) (w' : World) : Prop :=
 Below w.heap.size w w' ∧ ((¬ PartR p ∧ e = .returned (.tuple #[.pointer none, .bool false])) ∨ (PartR p ∧ ∃ o S, e = .returned (.tuple #[.pointer (some ⟨o, 0, none⟩), .bool true]) ∧ OpenAt w' w.heap.size o S ∧ S.pure = p))

end Go.Proofs.YtkbcplnlehdjfaaGreat

/- What the laws' own functions do to lists of things: they measure them, copy them, hold them against each other. What all have in common. -/
namespace Go.Proofs.YtkbcplnlehdjfaaGreat
open Go.RowKit

/-- Values laid over an array from a place on. -/
def setAll (cur : Array Value) (off : Nat) : List Value → Array Value
 | [] => cur
 | v :: r => setAll (cur.setIfInBounds off v) (off + 1) r
theorem setAll_size : ∀ (vs : List Value) (cur : Array Value) (off : Nat), (setAll cur off vs).size = cur.size
 | [], _, _ => rfl
 | v :: r, cur, off => by rw [setAll, setAll_size r]; simp
theorem setAll_low : ∀ (vs : List Value) (cur : Array Value) (off j : Nat), j < off → (setAll cur off vs)[j]? = cur[j]?
 | [], _, _, _, _ => rfl
 | v :: r, cur, off, j, h => by
  rw [setAll, setAll_low r _ _ _ (by omega), Array.getElem?_setIfInBounds_ne (by omega)]
theorem setAll_at : ∀ (vs : List Value) (cur : Array Value) (off j : Nat) (v : Value), off + vs.length ≤ cur.size → vs[j]? = some v → (setAll cur off vs)[off + j]? = some v
 | [], _, _, _, _, _, h => by simp at h
 | u :: r, cur, off, j, v, hl, h => by
  simp only [List.length_cons] at hl
  cases j with
  | zero =>
   simp only [List.getElem?_cons_zero, Option.some.injEq] at h
   subst h
   rw [setAll, setAll_low r _ _ _ (by omega)]
   simp [show off < cur.size by omega]
  | succ j =>
   have h' : r[j]? = some v := by simpa using h
   have := setAll_at r (cur.setIfInBounds off u) (off + 1) j v (by simp; omega) h'
   rw [setAll, show off + (j + 1) = off + 1 + j by omega]
   exact this
theorem setAll_take {vs : List Value} {cur : Array Value} {off : Nat} (hl : off + vs.length ≤ cur.size) : (setAll cur off vs).toList.take (off + vs.length) = cur.toList.take off ++ vs := by
 apply List.ext_getElem?
 intro j
 rw [List.getElem?_take]
 by_cases h1 : j < off
 ·rw [if_pos (by omega), List.getElem?_append_left (by simp; omega), List.getElem?_take, if_pos h1, Array.getElem?_toList, Array.getElem?_toList, setAll_low _ _ _ _ h1]
 ·by_cases h2 : j < off + vs.length
  ·rw [if_pos h2, List.getElem?_append_right (by simp; omega)]
   have e : (cur.toList.take off).length = off := by simp; omega
   rw [e]
   obtain ⟨d, rfl⟩ : ∃ d, j = off + d := ⟨j - off, by omega⟩
   rw [show off + d - off = d by omega, Array.getElem?_toList, List.getElem?_eq_getElem (by omega)]
   exact setAll_at vs cur off d _ hl (List.getElem?_eq_getElem (by omega))
  ·rw [if_neg h2, List.getElem?_eq_none (by simp; omega)]
/-- The same in memory. -/
def setAllW (w : World) (g off : Nat) : List Value → World
 | [] => w
 | v :: r => setAllW (w.setCell ⟨g, off, none⟩ v) g (off + 1) r
theorem setAllW_heap : ∀ (vs : List Value) {w : World} {g off : Nat} {cur : Array Value} {T : TypeId}, w.heap[g]? = some (.cells cur T (0, 0)) → (setAllW w g off vs).heap[g]? = some (.cells (setAll cur off vs) T (0, 0))
 | [], _, _, _, _, _, h => h
 | v :: r, w, g, off, cur, T, h => setAllW_heap r (heap_setCell_same w g off cur T v h)
theorem setAllW_other : ∀ (vs : List Value) {w : World} {g off k : Nat}, ¬ k = g → (setAllW w g off vs).heap[k]? = w.heap[k]?
 | [], _, _, _, _, _ => rfl
 | v :: r, w, _, _, k, h => (setAllW_other r h).trans (Below.heap_setCell w _ v k h)
theorem setAllW_size : ∀ (vs : List Value) {w : World} {g off : Nat}, (setAllW w g off vs).heap.size = w.heap.size
 | [], _, _, _ => rfl
 | v :: r, w, g, off => by rw [setAllW, setAllW_size r]; simp [World.setCell]
theorem setAllW_below : ∀ (vs : List Value) {B : Nat} {w0 w : World} {g off : Nat}, B ≤ g → Below B w0 w → Below B w0 (setAllW w g off vs)
 | [], _, _, _, _, _, _, h => h
 | v :: r, _, _, _, _, _, hB, h => setAllW_below r hB (h.setCell hB v)

theorem setCells_is : ∀ (vs : List Value) (w : World) (g off : Nat), w.setCells g off vs = setAllW w g off vs
 | [], _, _, _ => rfl
 | v :: r, w, g, off => setCells_is r (w.setCell ⟨g, off, none⟩ v) g (off + 1)
theorem setAll_full {vs : List Value} {cur : Array Value} (h : cur.size = vs.length) : setAll cur 0 vs = vs.toArray := by
 have h1 := setAll_take (off := 0) (vs := vs) (cur := cur) (by omega)
 simp only [Nat.zero_add, List.take_zero, List.nil_append] at h1
 have h2 : (setAll cur 0 vs).toList.length = vs.length := by simp [setAll_size, h]
 rw [List.take_of_length_le (by omega)] at h1
 exact (Array.toArray_toList (xs := setAll cur 0 vs)).symm.trans (congrArg List.toArray h1)
theorem setAllW_full {w : World} {g : Nat} {cur : Array Value} {T : TypeId} {vs : List Value} (h : w.heap[g]? = some (.cells cur T (0, 0))) (hs : cur.size = vs.length) : (setAllW w g 0 vs).heap[g]? = some (.cells vs.toArray T (0, 0)) := by
 have := setAllW_heap (off := 0) vs h
 rwa [setAll_full hs] at this
theorem there_of {w : World} {g : Nat} {cur : Array Value} {T : TypeId} {n : Nat} (h : w.heap[g]? = some (.cells cur T (0, 0))) (hs : n ≤ cur.size) : w.there g 0 n := fun j hj => by
 simp only [Nat.zero_add]
 refine ⟨?_, frozen_of_row _ _ _ _ _ h⟩
 rw [cell_of_row _ _ _ _ _ _ h, Array.getElem?_eq_getElem (by omega)]
 rfl
theorem heap_alloc3_new (w : World) (o1 o2 o3 : Obj) : (((w.alloc o1).alloc o2).alloc o3).heap[w.heap.size + 1 + 1]? = some o3 := by
 have := heap_alloc_new ((w.alloc o1).alloc o2) o3
 simpa using this

theorem alloc3_facts (w : World) (o1 o2 o3 : Obj) : (((w.alloc o1).alloc o2).alloc o3).heap[w.heap.size]? = some o1 ∧ (((w.alloc o1).alloc o2).alloc o3).heap[w.heap.size + 1]? = some o2 ∧ (((w.alloc o1).alloc o2).alloc o3).heap[w.heap.size + 1 + 1]? = some o3 ∧ (((w.alloc o1).alloc o2).alloc o3).heap.size = w.heap.size + 1 + 1 + 1 :=
 ⟨by rw [heap_alloc_old _ _ (by simp; omega), heap_alloc_old _ _ (by simp), heap_alloc_new], by rw [heap_alloc_old _ _ (by simp)]; exact heap_alloc2_new _ _ _, heap_alloc3_new _ _ _ _, by simp⟩
theorem alloc3_below (w : World) (o1 o2 o3 : Obj) : Below w.heap.size w (((w.alloc o1).alloc o2).alloc o3) := (((Below.refl _ _).alloc (Nat.le_refl _) _).alloc (by simp) _).alloc (by simp; omega) _
theorem alloc2_facts (w : World) (o1 o2 : Obj) : ((w.alloc o1).alloc o2).heap[w.heap.size]? = some o1 ∧ ((w.alloc o1).alloc o2).heap[w.heap.size + 1]? = some o2 := ⟨(heap_alloc_old _ _ (by simp)).trans (heap_alloc_new _ _), heap_alloc2_new _ _ _⟩
theorem alloc2_below (w : World) (o1 o2 : Obj) : Below w.heap.size w ((w.alloc o1).alloc o2) := ((Below.refl _ _).alloc (Nat.le_refl _) _).alloc (by simp) _

/-- What measuring ends in: what is left; if it is not below 0 all was short, and c of it were counted. -/
def SzEnds (w : World) (left : Int) (c : Nat) (P : Prop) (e : Ending) (w' : World) : Prop := ∃ r : Int, e = .returned (.int .i64 r) ∧ -1 ≤ r ∧ r ≤ left ∧ (0 ≤ r → P ∧ r + c ≤ left) ∧ Below w.heap.size w w'
theorem szEnds_no {w w' : World} {left : Int} {c : Nat} {P : Prop} (h : Below w.heap.size w w') (h0 : 0 ≤ left) : SzEnds w left c P (.returned (.int .i64 (-1))) w' := ⟨-1, rfl, by omega, by omega, fun h => absurd h (by omega), h⟩
def sumL {α : Type} (c : α → Nat) (l : List α) : Nat := (l.map c).sum
theorem sumL_up {α : Type} {c : α → Nat} {l : List α} {k : Nat} {x : α} (hx : l[k]? = some x) : sumL c (l.take (k + 1)) = sumL c (l.take k) + c x := by
 rw [take_up hx]
 simp [sumL]

section
variable {α : Type}
theorem all_up {P : α → Prop} {l : List α} {k : Nat} {x : α} (hx : l[k]? = some x) (h : ∀ y ∈ l.take k, P y) (hp : P x) : ∀ y ∈ l.take (k + 1), P y := fun y hy => by
 rw [take_up hx] at hy
 rcases List.mem_append.1 hy with hy | hy
 ·exact h y hy
 ·simp only [List.mem_cons, List.not_mem_nil, or_false] at hy
  subst hy
  exact hp
theorem all_end {P : α → Prop} {l : List α} {k : Nat} (hk : l.length ≤ k) (h : ∀ y ∈ l.take k, P y) : ∀ y ∈ l, P y := by rwa [List.take_of_length_le hk] at h

/-- A row that is filled one by one: the first ones are there. -/
structure Fill (K : Kind α) (T : TypeId) (w wr : World) (len : Nat) (out : List α) : Prop where
 row : ∃ cur : Array Value, wr.heap[w.heap.size]? = some (.cells cur T (0, 0)) ∧ cur.size = len * K.n ∧ cur.toList.take (out.length * K.n) = K.flat out
 bel : Below w.heap.size w wr
variable {K : Kind α} {T : TypeId} {w wr w' : World} {len : Nat} {out : List α}
theorem Fill.start {cs : Array Value} (hs : cs.size = len * K.n) : Fill K T w (w.alloc (.cells cs T)) len [] :=
 ⟨⟨cs, heap_alloc_new _ _, hs, by simp [Kind.flat]⟩, (Below.refl _ _).alloc (Nat.le_refl _) _⟩
theorem Fill.below (h : Fill K T w wr len out) (hb : Below wr.heap.size wr w') : Fill K T w w' len out := by
 obtain ⟨cur, h1, h2⟩ := h.row
 exact ⟨⟨cur, (hb.block _ (Array.getElem?_eq_some_iff.1 h1).1).trans h1, h2⟩, h.bel.trans (hb.mono h.bel.size)⟩
theorem Fill.at (h : Fill K T w wr len out) : (∃ u : Nat → Value, ∀ j, j < len * K.n → wr.cell? ⟨w.heap.size, j, none⟩ = some (u j)) ∧ ∀ j, wr.frozen? ⟨w.heap.size, j, none⟩ = false := by
 obtain ⟨cur, h1, h2, h3⟩ := h.row
 refine ⟨⟨fun j => cur.getD j undef, fun j hj => ?_⟩, fun j => frozen_of_row _ _ _ _ _ h1⟩
 rw [cell_of_row _ _ _ _ _ _ h1]
 simp [Array.getD, show j < cur.size by omega]
theorem Fill.lt (h : Fill K T w wr len out) : w.heap.size < wr.heap.size := by
 obtain ⟨cur, h1, _⟩ := h.row
 exact (Array.getElem?_eq_some_iff.1 h1).1
/-- One more. -/
theorem Fill.more (h : Fill K T w wr len out) (hl : out.length < len) (x : α) : Fill K T w (setAllW wr w.heap.size (out.length * K.n) (K.vals x)) len (out ++ [x]) := by
 obtain ⟨cur, h1, h2, h3⟩ := h.row
 have hle : out.length * K.n + (K.vals x).length ≤ cur.size := by
  rw [K.len, h2, ← Nat.succ_mul]
  exact Nat.mul_le_mul_right _ hl
 refine ⟨⟨_, setAllW_heap _ h1, by rw [setAll_size, h2], ?_⟩, setAllW_below _ (Nat.le_refl _) h.bel⟩
 have := setAll_take hle
 rw [K.len, ← Nat.succ_mul] at this
 rw [List.length_append, List.length_singleton]
 refine this.trans ?_
 rw [h3, K.flat_append, K.flat_one]
theorem Fill.done (h : Fill K T w wr len out) (hl : out.length = len) (hm : len ≤ maxLen) : wr.ownsRow w.heap.size T K.n (.slice (some ⟨w.heap.size, 0, none⟩) len len) len (K.flat out) := by
 obtain ⟨cur, h1, h2, h3⟩ := h.row
 subst hl
 exact ⟨K.flat_length out, .inr ⟨w.heap.size, out.length, cur, rfl, Nat.le_refl _, h1, Nat.le_refl _, hm, h2, h3⟩⟩
end

theorem below_drewN' {B : Nat} {w w' : World} (h : Below B w w') (n : Nat) : Below B w (w'.drewN n) := ⟨h.os, h.tape, h.output, h.size, h.block⟩
theorem map_same {α β : Type} {f : α → β} {l l' : List α} {k : Nat} {x : α} (h : l'.map f = l.map f) (hx : l[k]? = some x) : ∃ y, l'[k]? = some y ∧ f y = f x := by
 have h1 : (l'.map f)[k]? = (l.map f)[k]? := by rw [h]
 rw [List.getElem?_map, List.getElem?_map, hx] at h1
 obtain ⟨y, hy, e⟩ := Option.map_eq_some_iff.1 h1
 exact ⟨y, hy, e⟩

/-- A list of things that have lists is copied: the copies' lists are their own. -/
structure CopyIs {α : Type} (N : Nest α) (K : Kind α) (w w' : World) (len : Nat) (l out : List α) : Prop where
 row : w'.ownsRow w.heap.size N.T K.n (.slice (some ⟨w.heap.size, 0, none⟩) len len) len (K.flat out)
 alike : out.map (fun x => N.set x none 0) = l.map (fun x => N.set x none 0)
 mine : ∀ x ∈ out, N.Mine w' (w.heap.size + 1) x
 nodup : (out.filterMap N.kid).Nodup
 bel : Below w.heap.size w w'
structure FillN {α : Type} (N : Nest α) (K : Kind α) (w wr : World) (l out : List α) (k : Nat) : Prop where
 fill : Fill K N.T w wr l.length out
 len : out.length = k
 alike : out.map (fun x => N.set x none 0) = (l.take k).map (fun x => N.set x none 0)
 mine : ∀ x ∈ out, N.Mine wr (w.heap.size + 1) x
 nodup : (out.filterMap N.kid).Nodup
section
variable {α : Type} {N : Nest α} {K : Kind α} {w wr w' : World} {l out : List α} {k : Nat}
theorem FillN.start (h : Fill K N.T w wr l.length []) : FillN N K w wr l [] 0 := ⟨h, rfl, rfl, (fun x hx => by cases hx), List.nodup_nil⟩
theorem FillN.below (h : FillN N K w wr l out k) (hb : Below wr.heap.size wr w') : FillN N K w w' l out k :=
 ⟨h.fill.below hb, h.len, h.alike, fun x hx => (h.mine x hx).same fun g hg => hb.block g ((h.mine x hx).lt hg).2, h.nodup⟩
theorem FillN.more {x : α} {a : Option Addr} {c : Nat} (h : FillN N K w w' l out k) (hlt : k < l.length) (hx : l[k]? = some x) (hm : N.Mine w' (w.heap.size + 1) (N.set x a c)) (hk : ∀ g, N.kid (N.set x a c) = some g → wr.heap.size ≤ g) (hr : FillN N K w wr l out k) :
  FillN N K w (setAllW w' w.heap.size (k * K.n) (K.vals (N.set x a c))) l (out ++ [N.set x a c]) (k + 1) := by
 have hf := h.fill.more (by rw [h.len]; exact hlt) (N.set x a c)
 rw [h.len] at hf
 refine ⟨hf, by rw [List.length_append, h.len]; rfl, ?_, fun y hy => ?_, ?_⟩
 ·rw [take_up hx, List.map_append, List.map_append, h.alike]
  simp [N.set_set]
 ·have hmy : N.Mine w' (w.heap.size + 1) y := by
   rcases List.mem_append.1 hy with hy | hy
   ·exact h.mine y hy
   ·simp only [List.mem_cons, List.not_mem_nil, or_false] at hy
    subst hy
    exact hm
  exact hmy.same fun g hg => setAllW_other _ (by have := (hmy.lt hg).1; omega)
 ·rw [List.filterMap_append, List.nodup_append]
  refine ⟨h.nodup, ?_, fun g hg g' hg' e => ?_⟩
  ·simp only [List.filterMap_cons, List.filterMap_nil]
   split <;> simp
  ·obtain ⟨y, hy, hky⟩ := List.mem_filterMap.1 hg
   obtain ⟨z, hz, hkz⟩ := List.mem_filterMap.1 hg'
   simp only [List.mem_cons, List.not_mem_nil, or_false] at hz
   subst hz
   have h1 := ((hr.mine y hy).lt hky).2
   have h2 := hk g' hkz
   omega
theorem FillN.done (h : FillN N K w wr l out l.length) (hm : l.length ≤ maxLen) : CopyIs N K w wr l.length l out := by
 refine ⟨h.fill.done h.len hm, ?_, h.mine, h.nodup, h.fill.bel⟩
 have := h.alike
 rwa [List.take_length] at this
end

theorem own_row {w : World} {base n size cap : Nat} {e : TypeId} {a : Option Addr} {xs : List Value} (h : w.ownsRow base e size (.slice a n cap) n xs) : Row w a xs := by
 obtain ⟨a', cap', e', hr⟩ := own_form h
 simp only [Value.slice.injEq] at e'
 rw [e'.1]
 exact hr
theorem own_below {w w' : World} {base n size cap : Nat} {e : TypeId} {a : Option Addr} {xs : List Value} (h : w.ownsRow base e size (.slice a n cap) n xs) (hb : Below w.heap.size w w') : w'.ownsRow base e size (.slice a n cap) n xs := by
 obtain ⟨hl, h2⟩ := h
 refine ⟨hl, ?_⟩
 rcases h2 with h2 | ⟨g, c, cur, hv, h1, hg, r⟩
 ·exact .inl h2
 ·exact .inr ⟨g, c, cur, hv, h1, (hb.block g (Array.getElem?_eq_some_iff.1 hg).1).trans hg, r⟩

end Go.Proofs.YtkbcplnlehdjfaaGreat

/- Laying a thing in: the five ways. -/
namespace Go.Proofs.YtkbcplnlehdjfaaGreat
open Go.RowKit

theorem layB_of {most : Int} {m : MapL} {id : Int} {ok vA vB vC vD : Bool} (hA : (lookM m id).isSome = vA) (hB : decide (most ≤ (m.length : Int)) = vB) (hC : inB id 1 1000 = vC) (hD : ok = vD) : layB most m id ok = (!vA && !vB && vC && vD) := by
 subst hA hB hC hD
 have e : decide ((m.length : Int) < most) = !decide (most ≤ (m.length : Int)) := by
  by_cases h : most ≤ (m.length : Int)
  ·simp [h]
  ·simp [h, Int.not_le.1 h]
 simp [layB, e]
theorem four_ways (vA vB vC vD : Bool) : vA = true ∨ (vA = false ∧ vB = true) ∨ (vA = false ∧ vB = false ∧ vC = false) ∨ (vA = false ∧ vB = false ∧ vC = true ∧ vD = false) ∨ (vA = false ∧ vB = false ∧ vC = true ∧ vD = true) := by
 revert vA vB vC vD
 decide

end Go.Proofs.YtkbcplnlehdjfaaGreat

/- Laying a thing of the kind Proc into its shelf. (Made by mkshelf.py.) -/
namespace Go.Proofs.YtkbcplnlehdjfaaGreat
open Go.RowKit
attribute [local go_sem ↓] Go.wp_at_zero Go.wp_at_succ

/-- What every order of laying in keeps. -/
def LaySProc (w : World) (b : Nat) (m : MapL) (most : Int) (x : ProcD) (w' : World) : Prop := (w'.cell? ⟨w.heap.size, 0, none⟩ = some (.int .i64 most) ∧ w'.cell? ⟨w.heap.size, 1, none⟩ = some (.map (some b)) ∧ (∀ ty, (Builtin.len_ #[108] ty #[.map (some b)]).run Tryz.prog w' = .ok (.int .i64 (m.length : Int)) w') ∧ w'.cell? ⟨w.heap.size + 1, 0, none⟩ = some (.int .i64 x.id) ∧ w'.cell? ⟨w.heap.size + 1, 1, none⟩ = some (.int .i64 x.prio) ∧ w'.cell? ⟨w.heap.size + 1, 2, none⟩ = some (.slice x.progA x.prog.length x.progC) ∧ w'.cell? ⟨w.heap.size + 1, 3, none⟩ = some (.int .i64 x.state) ∧ w'.cell? ⟨w.heap.size + 1, 4, none⟩ = some (.int .i64 x.pc) ∧ w'.cell? ⟨w.heap.size + 1, 5, none⟩ = some (.int .i64 x.left) ∧ w'.cell? ⟨w.heap.size + 1, 6, none⟩ = some (.int .i64 x.wake) ∧ w'.cell? ⟨w.heap.size + 1, 7, none⟩ = some (.int .i64 x.on) ∧ w'.cell? ⟨w.heap.size + 1, 8, none⟩ = some (.string x.held) ∧ w'.cell? ⟨w.heap.size + 1, 9, none⟩ = some (.string x.got) ∧ w'.cell? ⟨w.heap.size + 1, 10, none⟩ = some (.int .i64 x.code) ∧ w'.cell? ⟨w.heap.size + 1, 11, none⟩ = some (.int .i64 x.since)) ∧ Hid (LayIn w w' w.heap.size (w.heap.size + 1) b m most (procVs x) 43 110) ∧ Hid (ProcFit w' x)
theorem laySProc_of {w w' : World} {b : Nat} {m : MapL} {most : Int} {x : ProcD} (h : LayIn w w' w.heap.size (w.heap.size + 1) b m most (procVs x) 43 110) (hf : ProcFit w' x) : LaySProc w b m most x w' :=
 ⟨⟨h.cells.1, h.cells.2, fun ty => h.mp.len Tryz.underlying108 ty, proc_cells h.bx⟩, h, hf⟩
set_option maxRecDepth 100000 in
set_option maxHeartbeats 16000000 in
theorem layProc_any (most : Int) (b : Nat) (m : MapL) (x : ProcD) (w : World) (h : MapIs w b m) (hw : (Lit.int .i64 x.id).wf = true) (hm : m.length ≤ 1048576) (hf : ProcFit w x) :
  Calls Tryz.prog 84 #[.agg #[.int .i64 most, .map (some b)], .agg (procVs x)] w fun e w' => LayEnds w b m (layB most m x.id (procB x.toProcP)) x.id (procVs x) 43 e w' := by
 have HF : Hid (LayIn w ((w.alloc (.cells #[.int .i64 most, .map (some b)] 110)).alloc (.cells (procVs x) 43)) w.heap.size (w.heap.size + 1) b m most (procVs x) 43 110) := LayIn.start w h most _ _ _
 have HW : Hid ((Lit.int .i64 x.id).wf = true ∧ ¬ w.heap.size + 1 = b ∧ m.length ≤ 1048576) := ⟨hw, by have := h.lt; omega, hm⟩
 have HI : Hid (ProcFit ((w.alloc (.cells #[.int .i64 most, .map (some b)] 110)).alloc (.cells (procVs x) 43)) x) := hf.below ((((Below.refl _ w).alloc (Nat.le_refl _) _)).alloc (by simp) _)
 have hmn := meth_numberProc
 have hmr := meth_rightProc
 obtain ⟨s0, s1⟩ := HF.out.cells
 obtain ⟨c0, c1, c2, c3, c4, c5, c6, c7, c8, c9, c10, c11⟩ := proc_cells HF.out.bx
 clear h hw hf hm
 unfold procVs at *
 go_enter Tryz.func84, Tryz.ntmps84
 go_wp2_with fail
 clear s0 s1 c0 c1 c2 c3 c4 c5 c6 c7 c8 c9 c10 c11
 obtain ⟨vA, hA⟩ : ∃ v, (lookM m x.id).isSome = v := ⟨_, rfl⟩
 obtain ⟨vB, hBd⟩ : ∃ v, decide (most ≤ (m.length : Int)) = v := ⟨_, rfl⟩
 obtain ⟨vC, hC⟩ : ∃ v, inB x.id 1 1000 = v := ⟨_, rfl⟩
 obtain ⟨vD, hD⟩ : ∃ v, procB x.toProcP = v := ⟨_, rfl⟩
 have HL : Hid (layB most m x.id (procB x.toProcP) = (!vA && !vB && vC && vD) ∧ (vA = false → lookM m x.id = none)) := ⟨layB_of hA hBd hC hD, fun e => Option.isNone_iff_eq_none.1 (Option.isSome_eq_false_iff.1 (hA.trans e))⟩
 have HA : Hid (Ending.returned (.bool (lookM m x.id).isSome) = .returned (.bool vA)) := ret_bool hA
 have HC : Hid (Ending.returned (.bool (inB x.id 1 1000)) = .returned (.bool vC)) := ret_bool hC
 have HD : Hid (Ending.returned (.bool (procB x.toProcP)) = .returned (.bool vD)) := ret_bool hD
 clear hA hC hD
 refine tame_region (LaySProc w b m most x) (by kernel_rfl) (laySProc_of HF.out.drew (HI.out.below (Below.refl _ _).drew)) ?_
 iterate 3 (refine yl (v := ?_) ?_ ?_; rotate_left; (intro w0 hS0; obtain ⟨⟨q0, q1, q2, q3, q4, q5, q6, q7, q8, q9, q10, q11, q12, q13, q14⟩, hH⟩ := hS0; go_simp; try with_reducible rfl); simp only [pt, sb, s0, s1])
 (refine cl (.int .i64 x.id) 282 #[.agg #[.int .i64 x.id, .int .i64 x.prio, .slice x.progA x.prog.length x.progC, .int .i64 x.state, .int .i64 x.pc, .int .i64 x.left, .int .i64 x.wake, .int .i64 x.on, .string x.held, .string x.got, .int .i64 x.code, .int .i64 x.since]] ?_ ?_ ?_; (intro w0 hS0; obtain ⟨⟨q0, q1, q2, q3, q4, q5, q6, q7, q8, q9, q10, q11, q12, q13, q14⟩, hH⟩ := hS0; go_simp; try with_reducible rfl); (intro w0 hS0; refine (numberProc_any x w0).mono ?_; rintro e w2 ⟨rfl, hb2⟩; exact ⟨rfl, laySProc_of (hS0.2.1.out.below hb2) (hS0.2.2.out.below hb2)⟩); simp only [pt, sb, s0, s1])
 (refine cl (.bool vA) 163 #[.agg #[.int .i64 most, .map (some b)], .int .i64 x.id] ?_ ?_ ?_; (intro w0 hS0; obtain ⟨⟨q0, q1, q2, q3, q4, q5, q6, q7, q8, q9, q10, q11, q12, q13, q14⟩, hH⟩ := hS0; go_simp; try with_reducible rfl); (intro w0 hS0; refine (hasProc_any most b m x.id w0 hS0.2.1.out.mp HW.out.1).mono ?_; rintro e w2 ⟨rfl, hb2⟩; exact ⟨HA.out, laySProc_of (hS0.2.1.out.below hb2) (hS0.2.2.out.below hb2)⟩); simp only [pt, sb, s0, s1])
 (refine yl (v := ?_) ?_ ?_; rotate_left; (intro w0 hS0; obtain ⟨⟨q0, q1, q2, q3, q4, q5, q6, q7, q8, q9, q10, q11, q12, q13, q14⟩, hH⟩ := hS0; go_simp; try with_reducible rfl); simp only [pt, sb, s0, s1])
 rcases vA.eq_false_or_eq_true with rfl | rfl
 focus iterate 6 (refine nl ?_; simp only [pt, sb, s0, s1])
 rotate_left
 focus iterate 6 (refine yl (v := ?_) ?_ ?_; rotate_left; (intro w0 hS0; obtain ⟨⟨q0, q1, q2, q3, q4, q5, q6, q7, q8, q9, q10, q11, q12, q13, q14⟩, hH⟩ := hS0; go_simp; try with_reducible rfl); simp only [pt, sb, s0, s1])
 all_goals iterate 2 (refine yl (v := ?_) ?_ ?_; rotate_left; (intro w0 hS0; obtain ⟨⟨q0, q1, q2, q3, q4, q5, q6, q7, q8, q9, q10, q11, q12, q13, q14⟩, hH⟩ := hS0; go_simp; try with_reducible rfl); simp only [pt, sb, s0, s1])
 rcases vB.eq_false_or_eq_true with rfl | rfl
 focus iterate 5 (refine nl ?_; simp only [pt, sb, s0, s1])
 rotate_left
 focus
  iterate 2 (refine yl (v := ?_) ?_ ?_; rotate_left; (intro w0 hS0; obtain ⟨⟨q0, q1, q2, q3, q4, q5, q6, q7, q8, q9, q10, q11, q12, q13, q14⟩, hH⟩ := hS0; go_simp; try with_reducible rfl); simp only [pt, sb, s0, s1])
  (refine cl (.int .i64 x.id) 282 #[.agg #[.int .i64 x.id, .int .i64 x.prio, .slice x.progA x.prog.length x.progC, .int .i64 x.state, .int .i64 x.pc, .int .i64 x.left, .int .i64 x.wake, .int .i64 x.on, .string x.held, .string x.got, .int .i64 x.code, .int .i64 x.since]] ?_ ?_ ?_; (intro w0 hS0; obtain ⟨⟨q0, q1, q2, q3, q4, q5, q6, q7, q8, q9, q10, q11, q12, q13, q14⟩, hH⟩ := hS0; go_simp; try with_reducible rfl); (intro w0 hS0; refine (numberProc_any x w0).mono ?_; rintro e w2 ⟨rfl, hb2⟩; exact ⟨rfl, laySProc_of (hS0.2.1.out.below hb2) (hS0.2.2.out.below hb2)⟩); simp only [pt, sb, s0, s1])
  (refine cl (.bool vC) 164 #[.int .i64 x.id] ?_ ?_ ?_; (intro w0 hS0; obtain ⟨⟨q0, q1, q2, q3, q4, q5, q6, q7, q8, q9, q10, q11, q12, q13, q14⟩, hH⟩ := hS0; go_simp; try with_reducible rfl); (intro w0 hS0; refine (isNumber_any x.id w0).mono ?_; rintro e w2 ⟨rfl, rfl⟩; exact ⟨HC.out, hS0⟩); simp only [pt, sb, s0, s1])
  (refine yl (v := ?_) ?_ ?_; rotate_left; (intro w0 hS0; obtain ⟨⟨q0, q1, q2, q3, q4, q5, q6, q7, q8, q9, q10, q11, q12, q13, q14⟩, hH⟩ := hS0; go_simp; try with_reducible rfl); simp only [pt, sb, s0, s1])
 rotate_left
 focus iterate 5 (refine nl ?_; simp only [pt, sb, s0, s1])
 all_goals iterate 2 (refine yl (v := ?_) ?_ ?_; rotate_left; (intro w0 hS0; obtain ⟨⟨q0, q1, q2, q3, q4, q5, q6, q7, q8, q9, q10, q11, q12, q13, q14⟩, hH⟩ := hS0; go_simp; try with_reducible rfl); simp only [pt, sb, s0, s1])
 rotate_right
 rcases vC.eq_false_or_eq_true with rfl | rfl
 focus
  iterate 2 (refine yl (v := ?_) ?_ ?_; rotate_left; (intro w0 hS0; obtain ⟨⟨q0, q1, q2, q3, q4, q5, q6, q7, q8, q9, q10, q11, q12, q13, q14⟩, hH⟩ := hS0; go_simp; try with_reducible rfl); simp only [pt, sb, s0, s1])
  (refine cl (.bool vD) 283 #[.agg #[.int .i64 x.id, .int .i64 x.prio, .slice x.progA x.prog.length x.progC, .int .i64 x.state, .int .i64 x.pc, .int .i64 x.left, .int .i64 x.wake, .int .i64 x.on, .string x.held, .string x.got, .int .i64 x.code, .int .i64 x.since]] ?_ ?_ ?_; (intro w0 hS0; obtain ⟨⟨q0, q1, q2, q3, q4, q5, q6, q7, q8, q9, q10, q11, q12, q13, q14⟩, hH⟩ := hS0; go_simp; try with_reducible rfl); (intro w0 hS0; refine (rightProc_any x w0 hS0.2.2.out).mono ?_; rintro e w2 ⟨rfl, hb2⟩; exact ⟨HD.out, laySProc_of (hS0.2.1.out.below hb2) (hS0.2.2.out.below hb2)⟩); simp only [pt, sb, s0, s1])
  (refine yl (v := ?_) ?_ ?_; rotate_left; (intro w0 hS0; obtain ⟨⟨q0, q1, q2, q3, q4, q5, q6, q7, q8, q9, q10, q11, q12, q13, q14⟩, hH⟩ := hS0; go_simp; try with_reducible rfl); simp only [pt, sb, s0, s1])
 rotate_left
 focus iterate 4 (refine nl ?_; simp only [pt, sb, s0, s1])
 rotate_left
 focus iterate 4 (refine nl ?_; simp only [pt, sb, s0, s1])
 rotate_left
 focus iterate 4 (refine nl ?_; simp only [pt, sb, s0, s1])
 rotate_left
 all_goals (refine yl (v := ?_) ?_ ?_; rotate_left; (intro w0 hS0; obtain ⟨⟨q0, q1, q2, q3, q4, q5, q6, q7, q8, q9, q10, q11, q12, q13, q14⟩, hH⟩ := hS0; go_simp; try with_reducible rfl); simp only [pt, sb, s0, s1])
 all_goals refine tame_done (by kernel_rfl) ?_ _
 all_goals intro w1 hS1
 rcases vD.eq_false_or_eq_true with rfl | rfl
 rotate_left
 iterate 4
  go_wp2
  go_ret
  exact layEnds_no HL.out.1 hS1.2.1.out.bel
 go_wp2_with fail
 refine last_region (LaySProc w b m most x) 5 (by kernel_rfl) (laySProc_of hS1.2.1.out.drew (hS1.2.2.out.below (Below.refl _ _).drew)) ?_
 iterate 4 (refine ly 6 (v := ?_) (some _) rfl rfl (by kernel_rfl) (fun _ _ _ h => h) (does_yield (by kernel_rfl) ?_) ?_; rotate_left; (intro w0 hS0; obtain ⟨⟨q0, q1, q2, q3, q4, q5, q6, q7, q8, q9, q10, q11, q12, q13, q14⟩, hH⟩ := hS0; go_simp; try with_reducible rfl); simp only [pt, sb, s0, s1])
 refine ly 6 (v := .int .i64 x.id) (some _) rfl rfl (by kernel_rfl) (fun _ _ _ h => h) (does_call (f := 282) (args := #[.agg #[.int .i64 x.id, .int .i64 x.prio, .slice x.progA x.prog.length x.progC, .int .i64 x.state, .int .i64 x.pc, .int .i64 x.left, .int .i64 x.wake, .int .i64 x.on, .string x.held, .string x.got, .int .i64 x.code, .int .i64 x.since]]) (by kernel_rfl) ?_ ?_) ?_
 ·intro w0 hS0
  obtain ⟨⟨q0, q1, q2, q3, q4, q5, q6, q7, q8, q9, q10, q11, q12, q13, q14⟩, hH⟩ := hS0
  go_simp
  try with_reducible rfl
 ·intro w0 hS0
  refine (numberProc_any x w0).mono ?_
  rintro e w2 ⟨rfl, hb2⟩
  exact ⟨rfl, laySProc_of (hS0.2.1.out.below hb2) (hS0.2.2.out.below hb2)⟩
 simp only [pt, sb, s0, s1]
 refine last_done rfl (by kernel_rfl) (by kernel_rfl) (by kernel_rfl) ?_
 intro w1 hS1
 obtain ⟨w2, hput, hend⟩ := hS1.2.1.out.put (by omega) Tryz.underlying108 HW.out.1 (HL.out.2 (by trivial)) HW.out.2.2 HW.out.2.1
 have HE : Hid (LayEnds w b m true x.id (procVs x) 43 (.returned (.bool true)) w2) := hend
 clear hend hS1
 go_simp
 go_wp2
 go_ret
 rw [HL.out.1]
 exact HE.out

end Go.Proofs.YtkbcplnlehdjfaaGreat

/- A shelf of a list of things of the kind Proc. (Made by mkshelfof.py.) -/
namespace Go.Proofs.YtkbcplnlehdjfaaGreat
open Go.RowKit
attribute [local go_sem ↓] Go.wp_at_zero Go.wp_at_succ

/-- What holds at the head of each round. -/
def ShProcAt (w : World) (most : Int) (list : List ProcD) (k : Nat) (wr : World) : Prop :=
 ∃ l : List (ProcD × Nat), l.map (·.1) = list.take k ∧ ShIn procVs (fun x : ProcD => x.id) 43 110 w wr most l ∧ thingsB (fun x : ProcD => x.id) (fun x : ProcD => procB x.toProcP) 0 (list.take k) = true ∧ (k : Int) ≤ max most 0

set_option maxRecDepth 100000 in
set_option maxHeartbeats 4000000 in
theorem shelfOfProc_any (a : Option Addr) (list : List ProcD) (cap : Nat) (most : Int) (w : World) (hl : list.length ≤ 1048576) (h : procK.Lies w a list) (hf : ∀ x ∈ list, ProcFit w x) (hw : ∀ x ∈ list, (Lit.int .i64 x.id).wf = true) :
  Calls Tryz.prog 147 #[.slice a list.length cap, .int .i64 most] w fun e w' => ShelfEnds procVs (fun x : ProcD => x.id) 43 w most (thingsB (fun x : ProcD => x.id) (fun x : ProcD => procB x.toProcP) 0 list && decide ((list.length : Int) ≤ max most 0)) list e w' := by
 have hmk := run_makeMap (P := Tryz.prog) 108
 have hmn := meth_numberProc
 have H0 : Hid (ShIn procVs (fun x : ProcD => x.id) 43 110 w (((w.alloc (.cells #[.int .i64 0, .map none] 110)).alloc (.map #[] 0)).alloc (.cells #[.int .i64 most, .map (some (w.heap.size + 1))] 110)) most []) := ShIn.start 110 w most
 have HL : Hid (procK.Lies w a list ∧ (∀ x ∈ list, ProcFit w x) ∧ ∀ x ∈ list, (Lit.int .i64 x.id).wf = true) := ⟨h, hf, hw⟩
 clear h hf hw
 go_enter Tryz.func147, Tryz.ntmps147
 go_wp2_with fail
 go_loopw [7, 15] (fun last i wr => ∃ k : Nat, k ≤ list.length ∧ i = .int .i64 k ∧ last = .int .i64 (lastOf (fun x : ProcD => x.id) 0 (list.take k)) ∧ Hid (ShProcAt w most list k wr)) (fun _ i _ => list.length - (intOf i).toNat)
 case atStart => exact ⟨0, Nat.zero_le _, rfl, rfl, ⟨[], by simp, H0.out, rfl, by simp; omega⟩⟩
 case round =>
  clear H0 hmk
  obtain ⟨k, hk, rfl, rfl, HA⟩ := hrel
  obtain ⟨l, hlm, hin, hth, hkm⟩ := HA.out
  have HT : Hid (l.map (·.1) = list.take k ∧ thingsB (fun x : ProcD => x.id) (fun x : ProcD => procB x.toProcP) 0 (list.take k) = true ∧ (k : Int) ≤ max most 0) := ⟨hlm, hth, hkm⟩
  have HI : Hid (ShIn procVs (fun x : ProcD => x.id) 43 110 w wr most l) := hin
  clear HA hlm hin hth hkm
  by_cases hlt : k < list.length
  ·have i0 : (0 : Int) ≤ (k : Int) := by omega
   have i1 : (k : Int) < (list.length : Int) := by omega
   obtain ⟨x, hx⟩ : ∃ x, list[k]? = some x := ⟨_, List.getElem?_eq_getElem hlt⟩
   have hmem := List.mem_of_getElem? hx
   have HX : Hid (list[k]? = some x) := hx
   have HF : Hid (ProcFit w x ∧ (Lit.int .i64 x.id).wf = true) := ⟨HL.out.2.1 x hmem, HL.out.2.2 x hmem⟩
   obtain ⟨gs, ha, hat⟩ := proc_at (HL.out.1.below HI.out.bel) hx
   obtain ⟨c0, c1, c2, c3, c4, c5, c6, c7, c8, c9, c10, c11⟩ := hat
   subst ha
   clear hx hmem
   go_wp2_with fail
   refine (numberProc_any x _).mono ?_
   rintro e w2 ⟨rfl, hb2⟩
   have HI2 : Hid (ShIn procVs (fun x : ProcD => x.id) 43 110 w w2 most l) := (HI.out.below ((Below.refl _ wr).alloc (Nat.le_refl _) (.cells #[.int .i64 x.id, .int .i64 x.prio, .slice x.progA x.prog.length x.progC, .int .i64 x.state, .int .i64 x.pc, .int .i64 x.left, .int .i64 x.wake, .int .i64 x.on, .string x.held, .string x.got, .int .i64 x.code, .int .i64 x.since] 43))).below hb2
   have HB : Hid (w2.heap[wr.heap.size]? = some (.cells (procVs x) 43 (0, 0))) := (hb2.block _ (by simp)).trans (heap_alloc_new _ _)
   have HZ : Hid (w.heap.size + 1 < wr.heap.size) := by show w.heap.size + 1 < wr.heap.size; have := (Array.getElem?_eq_some_iff.1 HI.out.var).1; omega
   clear hb2 HI c0 c1 c2 c3 c4 c5 c6 c7 c8 c9 c10 c11
   obtain ⟨d0, d1, d2, d3, d4, d5, d6, d7, d8, d9, d10, d11⟩ := proc_cells HB.out
   obtain ⟨r0, r1, v0, v1, z0, z1⟩ := HI2.out.cells
   by_cases hle : x.id ≤ lastOf (fun x : ProcD => x.id) 0 (list.take k)
   ·have HN : Hid ((thingsB (fun x : ProcD => x.id) (fun x : ProcD => procB x.toProcP) 0 list && decide ((list.length : Int) ≤ max most 0)) = false) := by
     show _ = false
     rw [things_no HX.out (fun hh => absurd hh.2.1 (by show ¬ lastOf (fun x : ProcD => x.id) 0 (list.take k) < x.id; omega))]; rfl
    go_wp2
    refine bodyPost_ret (v := .tuple #[.agg #[.int .i64 0, .map none], .bool false]) (by simp [results, Tryz.results147, go_sem, *]) rfl ?_
    exact ⟨(HI2.out.away _ _).2, .inl ⟨HN.out, rfl⟩⟩
   have HLT : Hid (lastOf (fun x : ProcD => x.id) 0 (list.take k) < x.id) := by show _ < _; omega
   have hkl : (keysOf (fun x : ProcD => x.id) l).length ≤ 1048576 := by
    rw [keysOf_length]
    have := congrArg List.length HT.out.1
    simp only [List.length_map, List.length_take] at this
    omega
   go_wp2_with fail
   refine (layProc_any most (w.heap.size + 1) (keysOf (fun x : ProcD => x.id) l) x w2 HI2.out.shelf.map HF.out.2 hkl (HF.out.1.below HI2.out.bel)).mono ?_
   rintro e w3 ⟨rfl, hno, hyes⟩
   cases hlay : layB most (keysOf (fun x : ProcD => x.id) l) x.id (procB x.toProcP) with
   | false =>
    have HN : Hid ((thingsB (fun x : ProcD => x.id) (fun x : ProcD => procB x.toProcP) 0 list && decide ((list.length : Int) ≤ max most 0)) = false) := things_lay_no HX.out HT.out.1 HT.out.2.1 HLT.out hlay
    have HI3 : Hid (ShIn procVs (fun x : ProcD => x.id) 43 110 w w3 most l) := HI2.out.below (hno hlay)
    clear hno hyes hlay HI2 r0 r1 v0 v1 z0 z1 d0 d1 d2 d3 d4 d5 d6 d7 d8 d9 d10 d11 HB
    obtain ⟨r0, r1, v0, v1, z0, z1⟩ := HI3.out.cells
    go_wp2
    refine bodyPost_ret (v := .tuple #[.agg #[.int .i64 0, .map none], .bool false]) (by simp [results, Tryz.results147, go_sem, *]) rfl ?_
    exact ⟨(HI3.out.away _ _).2, .inl ⟨HN.out, rfl⟩⟩
   | true =>
    have HY : Hid (thingsB (fun x : ProcD => x.id) (fun x : ProcD => procB x.toProcP) 0 (list.take (k + 1)) = true ∧ ((k + 1 : Nat) : Int) ≤ max most 0) := things_lay_yes HX.out HT.out.1 HT.out.2.1 HLT.out hlay
    obtain ⟨g, hin4⟩ := HI2.out.lay (x := x) (e := .returned (.bool true)) (w' := w3) ⟨rfl, (fun h => by cases h), fun _ => hyes hlay⟩ (rises_last HT.out.1 HT.out.2.1 HLT.out)
    have HI4 : Hid (ShIn procVs (fun x : ProcD => x.id) 43 110 w w3 most (l ++ [(x, g)])) := hin4
    have HB3 : Hid (w3.heap[wr.heap.size]? = some (.cells (procVs x) 43 (0, 0))) := by
     obtain ⟨g', _, _, _, hgr⟩ := hyes hlay
     exact (hgr.block _ (Array.getElem?_eq_some_iff.1 HB.out).1 (fun e => by have := Option.some.inj e; have := HZ.out; omega)).trans HB.out
    clear hno hyes hlay HI2 r0 r1 v0 v1 z0 z1 d0 d1 d2 d3 d4 d5 d6 d7 d8 d9 d10 d11 HB hin4
    obtain ⟨d0, d1, d2, d3, d4, d5, d6, d7, d8, d9, d10, d11⟩ := proc_cells HB3.out
    go_wp2_with fail
    refine (numberProc_any x _).mono ?_
    rintro e w5 ⟨rfl, hb5⟩
    have HI5 : Hid (ShIn procVs (fun x : ProcD => x.id) 43 110 w w5 most (l ++ [(x, g)])) := HI4.out.below hb5
    have HE : Hid (lastOf (fun x : ProcD => x.id) 0 (list.take (k + 1)) = x.id) := lastOf_take HX.out 0
    clear hb5 HI4
    go_wp2
    go_roundw
    case rel => exact ⟨k + 1, by omega, by go_num, by rw [HE.out], ⟨l ++ [(x, g)], by rw [List.map_append, HT.out.1, take_up HX.out]; rfl, HI5.out, HY.out.1, HY.out.2⟩⟩
    case measure => simp [intOf]; omega
  ·have i1 : ¬ (k : Int) < (list.length : Int) := by omega
   have HK : Hid (list.take k = list ∧ ((list.length : Int) ≤ max most 0)) := ⟨List.take_of_length_le (by omega), by have := HT.out.2.2; omega⟩
   have HY : Hid ((thingsB (fun x : ProcD => x.id) (fun x : ProcD => procB x.toProcP) 0 list && decide ((list.length : Int) ≤ max most 0)) = true) := by
    show _ = true
    have h1 := HT.out.2.1
    rw [HK.out.1] at h1
    rw [h1, decide_eq_true HK.out.2]; rfl
   obtain ⟨r0, r1, v0, v1, z0, z1⟩ := HI.out.cells
   go_wp2
   refine bodyPost_ret (v := .tuple #[.agg #[.int .i64 most, .map (some (w.heap.size + 1))], .bool true]) (by simp [results, Tryz.results147, go_sem, *]) rfl ?_
   exact ⟨(HI.out.away _ _).2, .inr ⟨HY.out, w.heap.size + 1, l, rfl, by rw [HT.out.1, HK.out.1], (HI.out.away _ _).1⟩⟩

end Go.Proofs.YtkbcplnlehdjfaaGreat

/- Laying a thing of the kind Sem into its shelf. (Made by mkshelf.py.) -/
namespace Go.Proofs.YtkbcplnlehdjfaaGreat
open Go.RowKit
attribute [local go_sem ↓] Go.wp_at_zero Go.wp_at_succ

/-- What every order of laying in keeps. -/
def LaySSem (w : World) (b : Nat) (m : MapL) (most : Int) (x : SemD) (w' : World) : Prop := (w'.cell? ⟨w.heap.size, 0, none⟩ = some (.int .i64 most) ∧ w'.cell? ⟨w.heap.size, 1, none⟩ = some (.map (some b)) ∧ (∀ ty, (Builtin.len_ #[111] ty #[.map (some b)]).run Tryz.prog w' = .ok (.int .i64 (m.length : Int)) w') ∧ w'.cell? ⟨w.heap.size + 1, 0, none⟩ = some (.int .i64 x.id) ∧ w'.cell? ⟨w.heap.size + 1, 1, none⟩ = some (.int .i64 x.n) ∧ w'.cell? ⟨w.heap.size + 1, 2, none⟩ = some (.int .i64 x.max)) ∧ Hid (LayIn w w' w.heap.size (w.heap.size + 1) b m most (semVs x) 49 113) ∧ Hid (SemFit w' x)
theorem laySSem_of {w w' : World} {b : Nat} {m : MapL} {most : Int} {x : SemD} (h : LayIn w w' w.heap.size (w.heap.size + 1) b m most (semVs x) 49 113) (hf : SemFit w' x) : LaySSem w b m most x w' :=
 ⟨⟨h.cells.1, h.cells.2, fun ty => h.mp.len Tryz.underlying111 ty, sem_cells h.bx⟩, h, hf⟩
set_option maxRecDepth 100000 in
set_option maxHeartbeats 16000000 in
theorem laySem_any (most : Int) (b : Nat) (m : MapL) (x : SemD) (w : World) (h : MapIs w b m) (hw : (Lit.int .i64 x.id).wf = true) (hm : m.length ≤ 1048576) (hf : SemFit w x) :
  Calls Tryz.prog 89 #[.agg #[.int .i64 most, .map (some b)], .agg (semVs x)] w fun e w' => LayEnds w b m (layB most m x.id (semB x)) x.id (semVs x) 49 e w' := by
 have HF : Hid (LayIn w ((w.alloc (.cells #[.int .i64 most, .map (some b)] 113)).alloc (.cells (semVs x) 49)) w.heap.size (w.heap.size + 1) b m most (semVs x) 49 113) := LayIn.start w h most _ _ _
 have HW : Hid ((Lit.int .i64 x.id).wf = true ∧ ¬ w.heap.size + 1 = b ∧ m.length ≤ 1048576) := ⟨hw, by have := h.lt; omega, hm⟩
 have HI : Hid (SemFit ((w.alloc (.cells #[.int .i64 most, .map (some b)] 113)).alloc (.cells (semVs x) 49)) x) := hf.below ((((Below.refl _ w).alloc (Nat.le_refl _) _)).alloc (by simp) _)
 have hmn := meth_numberSem
 have hmr := meth_rightSem
 obtain ⟨s0, s1⟩ := HF.out.cells
 obtain ⟨c0, c1, c2⟩ := sem_cells HF.out.bx
 clear h hw hf hm
 unfold semVs at *
 go_enter Tryz.func89, Tryz.ntmps89
 go_wp2_with fail
 clear s0 s1 c0 c1 c2
 obtain ⟨vA, hA⟩ : ∃ v, (lookM m x.id).isSome = v := ⟨_, rfl⟩
 obtain ⟨vB, hBd⟩ : ∃ v, decide (most ≤ (m.length : Int)) = v := ⟨_, rfl⟩
 obtain ⟨vC, hC⟩ : ∃ v, inB x.id 1 1000 = v := ⟨_, rfl⟩
 obtain ⟨vD, hD⟩ : ∃ v, semB x = v := ⟨_, rfl⟩
 have HL : Hid (layB most m x.id (semB x) = (!vA && !vB && vC && vD) ∧ (vA = false → lookM m x.id = none)) := ⟨layB_of hA hBd hC hD, fun e => Option.isNone_iff_eq_none.1 (Option.isSome_eq_false_iff.1 (hA.trans e))⟩
 have HA : Hid (Ending.returned (.bool (lookM m x.id).isSome) = .returned (.bool vA)) := ret_bool hA
 have HC : Hid (Ending.returned (.bool (inB x.id 1 1000)) = .returned (.bool vC)) := ret_bool hC
 have HD : Hid (Ending.returned (.bool (semB x)) = .returned (.bool vD)) := ret_bool hD
 clear hA hC hD
 refine tame_region (LaySSem w b m most x) (by kernel_rfl) (laySSem_of HF.out.drew (HI.out.below (Below.refl _ _).drew)) ?_
 iterate 3 (refine yl (v := ?_) ?_ ?_; rotate_left; (intro w0 hS0; obtain ⟨⟨q0, q1, q2, q3, q4, q5⟩, hH⟩ := hS0; go_simp; try with_reducible rfl); simp only [pt, sb, s0, s1])
 (refine cl (.int .i64 x.id) 294 #[.agg #[.int .i64 x.id, .int .i64 x.n, .int .i64 x.max]] ?_ ?_ ?_; (intro w0 hS0; obtain ⟨⟨q0, q1, q2, q3, q4, q5⟩, hH⟩ := hS0; go_simp; try with_reducible rfl); (intro w0 hS0; refine (numberSem_any x w0).mono ?_; rintro e w2 ⟨rfl, hb2⟩; exact ⟨rfl, laySSem_of (hS0.2.1.out.below hb2) (hS0.2.2.out.below hb2)⟩); simp only [pt, sb, s0, s1])
 (refine cl (.bool vA) 175 #[.agg #[.int .i64 most, .map (some b)], .int .i64 x.id] ?_ ?_ ?_; (intro w0 hS0; obtain ⟨⟨q0, q1, q2, q3, q4, q5⟩, hH⟩ := hS0; go_simp; try with_reducible rfl); (intro w0 hS0; refine (hasSem_any most b m x.id w0 hS0.2.1.out.mp HW.out.1).mono ?_; rintro e w2 ⟨rfl, hb2⟩; exact ⟨HA.out, laySSem_of (hS0.2.1.out.below hb2) (hS0.2.2.out.below hb2)⟩); simp only [pt, sb, s0, s1])
 (refine yl (v := ?_) ?_ ?_; rotate_left; (intro w0 hS0; obtain ⟨⟨q0, q1, q2, q3, q4, q5⟩, hH⟩ := hS0; go_simp; try with_reducible rfl); simp only [pt, sb, s0, s1])
 rcases vA.eq_false_or_eq_true with rfl | rfl
 focus iterate 6 (refine nl ?_; simp only [pt, sb, s0, s1])
 rotate_left
 focus iterate 6 (refine yl (v := ?_) ?_ ?_; rotate_left; (intro w0 hS0; obtain ⟨⟨q0, q1, q2, q3, q4, q5⟩, hH⟩ := hS0; go_simp; try with_reducible rfl); simp only [pt, sb, s0, s1])
 all_goals iterate 2 (refine yl (v := ?_) ?_ ?_; rotate_left; (intro w0 hS0; obtain ⟨⟨q0, q1, q2, q3, q4, q5⟩, hH⟩ := hS0; go_simp; try with_reducible rfl); simp only [pt, sb, s0, s1])
 rcases vB.eq_false_or_eq_true with rfl | rfl
 focus iterate 5 (refine nl ?_; simp only [pt, sb, s0, s1])
 rotate_left
 focus
  iterate 2 (refine yl (v := ?_) ?_ ?_; rotate_left; (intro w0 hS0; obtain ⟨⟨q0, q1, q2, q3, q4, q5⟩, hH⟩ := hS0; go_simp; try with_reducible rfl); simp only [pt, sb, s0, s1])
  (refine cl (.int .i64 x.id) 294 #[.agg #[.int .i64 x.id, .int .i64 x.n, .int .i64 x.max]] ?_ ?_ ?_; (intro w0 hS0; obtain ⟨⟨q0, q1, q2, q3, q4, q5⟩, hH⟩ := hS0; go_simp; try with_reducible rfl); (intro w0 hS0; refine (numberSem_any x w0).mono ?_; rintro e w2 ⟨rfl, hb2⟩; exact ⟨rfl, laySSem_of (hS0.2.1.out.below hb2) (hS0.2.2.out.below hb2)⟩); simp only [pt, sb, s0, s1])
  (refine cl (.bool vC) 164 #[.int .i64 x.id] ?_ ?_ ?_; (intro w0 hS0; obtain ⟨⟨q0, q1, q2, q3, q4, q5⟩, hH⟩ := hS0; go_simp; try with_reducible rfl); (intro w0 hS0; refine (isNumber_any x.id w0).mono ?_; rintro e w2 ⟨rfl, rfl⟩; exact ⟨HC.out, hS0⟩); simp only [pt, sb, s0, s1])
  (refine yl (v := ?_) ?_ ?_; rotate_left; (intro w0 hS0; obtain ⟨⟨q0, q1, q2, q3, q4, q5⟩, hH⟩ := hS0; go_simp; try with_reducible rfl); simp only [pt, sb, s0, s1])
 rotate_left
 focus iterate 5 (refine nl ?_; simp only [pt, sb, s0, s1])
 all_goals iterate 2 (refine yl (v := ?_) ?_ ?_; rotate_left; (intro w0 hS0; obtain ⟨⟨q0, q1, q2, q3, q4, q5⟩, hH⟩ := hS0; go_simp; try with_reducible rfl); simp only [pt, sb, s0, s1])
 rotate_right
 rcases vC.eq_false_or_eq_true with rfl | rfl
 focus
  iterate 2 (refine yl (v := ?_) ?_ ?_; rotate_left; (intro w0 hS0; obtain ⟨⟨q0, q1, q2, q3, q4, q5⟩, hH⟩ := hS0; go_simp; try with_reducible rfl); simp only [pt, sb, s0, s1])
  (refine cl (.bool vD) 295 #[.agg #[.int .i64 x.id, .int .i64 x.n, .int .i64 x.max]] ?_ ?_ ?_; (intro w0 hS0; obtain ⟨⟨q0, q1, q2, q3, q4, q5⟩, hH⟩ := hS0; go_simp; try with_reducible rfl); (intro w0 hS0; refine (rightSem_any x w0 hS0.2.2.out).mono ?_; rintro e w2 ⟨rfl, hb2⟩; exact ⟨HD.out, laySSem_of (hS0.2.1.out.below hb2) (hS0.2.2.out.below hb2)⟩); simp only [pt, sb, s0, s1])
  (refine yl (v := ?_) ?_ ?_; rotate_left; (intro w0 hS0; obtain ⟨⟨q0, q1, q2, q3, q4, q5⟩, hH⟩ := hS0; go_simp; try with_reducible rfl); simp only [pt, sb, s0, s1])
 rotate_left
 focus iterate 4 (refine nl ?_; simp only [pt, sb, s0, s1])
 rotate_left
 focus iterate 4 (refine nl ?_; simp only [pt, sb, s0, s1])
 rotate_left
 focus iterate 4 (refine nl ?_; simp only [pt, sb, s0, s1])
 rotate_left
 all_goals (refine yl (v := ?_) ?_ ?_; rotate_left; (intro w0 hS0; obtain ⟨⟨q0, q1, q2, q3, q4, q5⟩, hH⟩ := hS0; go_simp; try with_reducible rfl); simp only [pt, sb, s0, s1])
 all_goals refine tame_done (by kernel_rfl) ?_ _
 all_goals intro w1 hS1
 rcases vD.eq_false_or_eq_true with rfl | rfl
 rotate_left
 iterate 4
  go_wp2
  go_ret
  exact layEnds_no HL.out.1 hS1.2.1.out.bel
 go_wp2_with fail
 refine last_region (LaySSem w b m most x) 5 (by kernel_rfl) (laySSem_of hS1.2.1.out.drew (hS1.2.2.out.below (Below.refl _ _).drew)) ?_
 iterate 4 (refine ly 6 (v := ?_) (some _) rfl rfl (by kernel_rfl) (fun _ _ _ h => h) (does_yield (by kernel_rfl) ?_) ?_; rotate_left; (intro w0 hS0; obtain ⟨⟨q0, q1, q2, q3, q4, q5⟩, hH⟩ := hS0; go_simp; try with_reducible rfl); simp only [pt, sb, s0, s1])
 refine ly 6 (v := .int .i64 x.id) (some _) rfl rfl (by kernel_rfl) (fun _ _ _ h => h) (does_call (f := 294) (args := #[.agg #[.int .i64 x.id, .int .i64 x.n, .int .i64 x.max]]) (by kernel_rfl) ?_ ?_) ?_
 ·intro w0 hS0
  obtain ⟨⟨q0, q1, q2, q3, q4, q5⟩, hH⟩ := hS0
  go_simp
  try with_reducible rfl
 ·intro w0 hS0
  refine (numberSem_any x w0).mono ?_
  rintro e w2 ⟨rfl, hb2⟩
  exact ⟨rfl, laySSem_of (hS0.2.1.out.below hb2) (hS0.2.2.out.below hb2)⟩
 simp only [pt, sb, s0, s1]
 refine last_done rfl (by kernel_rfl) (by kernel_rfl) (by kernel_rfl) ?_
 intro w1 hS1
 obtain ⟨w2, hput, hend⟩ := hS1.2.1.out.put (by omega) Tryz.underlying111 HW.out.1 (HL.out.2 (by trivial)) HW.out.2.2 HW.out.2.1
 have HE : Hid (LayEnds w b m true x.id (semVs x) 49 (.returned (.bool true)) w2) := hend
 clear hend hS1
 go_simp
 go_wp2
 go_ret
 rw [HL.out.1]
 exact HE.out

end Go.Proofs.YtkbcplnlehdjfaaGreat

/- A shelf of a list of things of the kind Sem. (Made by mkshelfof.py.) -/
namespace Go.Proofs.YtkbcplnlehdjfaaGreat
open Go.RowKit
attribute [local go_sem ↓] Go.wp_at_zero Go.wp_at_succ

/-- What holds at the head of each round. -/
def ShSemAt (w : World) (most : Int) (list : List SemD) (k : Nat) (wr : World) : Prop :=
 ∃ l : List (SemD × Nat), l.map (·.1) = list.take k ∧ ShIn semVs (fun x : SemD => x.id) 49 113 w wr most l ∧ thingsB (fun x : SemD => x.id) (fun x : SemD => semB x) 0 (list.take k) = true ∧ (k : Int) ≤ max most 0

set_option maxRecDepth 100000 in
set_option maxHeartbeats 4000000 in
theorem shelfOfSem_any (a : Option Addr) (list : List SemD) (cap : Nat) (most : Int) (w : World) (hl : list.length ≤ 1048576) (h : semK.Lies w a list) (hf : ∀ x ∈ list, SemFit w x) (hw : ∀ x ∈ list, (Lit.int .i64 x.id).wf = true) :
  Calls Tryz.prog 148 #[.slice a list.length cap, .int .i64 most] w fun e w' => ShelfEnds semVs (fun x : SemD => x.id) 49 w most (thingsB (fun x : SemD => x.id) (fun x : SemD => semB x) 0 list && decide ((list.length : Int) ≤ max most 0)) list e w' := by
 have hmk := run_makeMap (P := Tryz.prog) 111
 have hmn := meth_numberSem
 have H0 : Hid (ShIn semVs (fun x : SemD => x.id) 49 113 w (((w.alloc (.cells #[.int .i64 0, .map none] 113)).alloc (.map #[] 0)).alloc (.cells #[.int .i64 most, .map (some (w.heap.size + 1))] 113)) most []) := ShIn.start 113 w most
 have HL : Hid (semK.Lies w a list ∧ (∀ x ∈ list, SemFit w x) ∧ ∀ x ∈ list, (Lit.int .i64 x.id).wf = true) := ⟨h, hf, hw⟩
 clear h hf hw
 go_enter Tryz.func148, Tryz.ntmps148
 go_wp2_with fail
 go_loopw [7, 15] (fun last i wr => ∃ k : Nat, k ≤ list.length ∧ i = .int .i64 k ∧ last = .int .i64 (lastOf (fun x : SemD => x.id) 0 (list.take k)) ∧ Hid (ShSemAt w most list k wr)) (fun _ i _ => list.length - (intOf i).toNat)
 case atStart => exact ⟨0, Nat.zero_le _, rfl, rfl, ⟨[], by simp, H0.out, rfl, by simp; omega⟩⟩
 case round =>
  clear H0 hmk
  obtain ⟨k, hk, rfl, rfl, HA⟩ := hrel
  obtain ⟨l, hlm, hin, hth, hkm⟩ := HA.out
  have HT : Hid (l.map (·.1) = list.take k ∧ thingsB (fun x : SemD => x.id) (fun x : SemD => semB x) 0 (list.take k) = true ∧ (k : Int) ≤ max most 0) := ⟨hlm, hth, hkm⟩
  have HI : Hid (ShIn semVs (fun x : SemD => x.id) 49 113 w wr most l) := hin
  clear HA hlm hin hth hkm
  by_cases hlt : k < list.length
  ·have i0 : (0 : Int) ≤ (k : Int) := by omega
   have i1 : (k : Int) < (list.length : Int) := by omega
   obtain ⟨x, hx⟩ : ∃ x, list[k]? = some x := ⟨_, List.getElem?_eq_getElem hlt⟩
   have hmem := List.mem_of_getElem? hx
   have HX : Hid (list[k]? = some x) := hx
   have HF : Hid (SemFit w x ∧ (Lit.int .i64 x.id).wf = true) := ⟨HL.out.2.1 x hmem, HL.out.2.2 x hmem⟩
   obtain ⟨gs, ha, hat⟩ := sem_at (HL.out.1.below HI.out.bel) hx
   obtain ⟨c0, c1, c2⟩ := hat
   subst ha
   clear hx hmem
   go_wp2_with fail
   refine (numberSem_any x _).mono ?_
   rintro e w2 ⟨rfl, hb2⟩
   have HI2 : Hid (ShIn semVs (fun x : SemD => x.id) 49 113 w w2 most l) := (HI.out.below ((Below.refl _ wr).alloc (Nat.le_refl _) (.cells #[.int .i64 x.id, .int .i64 x.n, .int .i64 x.max] 49))).below hb2
   have HB : Hid (w2.heap[wr.heap.size]? = some (.cells (semVs x) 49 (0, 0))) := (hb2.block _ (by simp)).trans (heap_alloc_new _ _)
   have HZ : Hid (w.heap.size + 1 < wr.heap.size) := by show w.heap.size + 1 < wr.heap.size; have := (Array.getElem?_eq_some_iff.1 HI.out.var).1; omega
   clear hb2 HI c0 c1 c2
   obtain ⟨d0, d1, d2⟩ := sem_cells HB.out
   obtain ⟨r0, r1, v0, v1, z0, z1⟩ := HI2.out.cells
   by_cases hle : x.id ≤ lastOf (fun x : SemD => x.id) 0 (list.take k)
   ·have HN : Hid ((thingsB (fun x : SemD => x.id) (fun x : SemD => semB x) 0 list && decide ((list.length : Int) ≤ max most 0)) = false) := by
     show _ = false
     rw [things_no HX.out (fun hh => absurd hh.2.1 (by show ¬ lastOf (fun x : SemD => x.id) 0 (list.take k) < x.id; omega))]; rfl
    go_wp2
    refine bodyPost_ret (v := .tuple #[.agg #[.int .i64 0, .map none], .bool false]) (by simp [results, Tryz.results148, go_sem, *]) rfl ?_
    exact ⟨(HI2.out.away _ _).2, .inl ⟨HN.out, rfl⟩⟩
   have HLT : Hid (lastOf (fun x : SemD => x.id) 0 (list.take k) < x.id) := by show _ < _; omega
   have hkl : (keysOf (fun x : SemD => x.id) l).length ≤ 1048576 := by
    rw [keysOf_length]
    have := congrArg List.length HT.out.1
    simp only [List.length_map, List.length_take] at this
    omega
   go_wp2_with fail
   refine (laySem_any most (w.heap.size + 1) (keysOf (fun x : SemD => x.id) l) x w2 HI2.out.shelf.map HF.out.2 hkl (HF.out.1.below HI2.out.bel)).mono ?_
   rintro e w3 ⟨rfl, hno, hyes⟩
   cases hlay : layB most (keysOf (fun x : SemD => x.id) l) x.id (semB x) with
   | false =>
    have HN : Hid ((thingsB (fun x : SemD => x.id) (fun x : SemD => semB x) 0 list && decide ((list.length : Int) ≤ max most 0)) = false) := things_lay_no HX.out HT.out.1 HT.out.2.1 HLT.out hlay
    have HI3 : Hid (ShIn semVs (fun x : SemD => x.id) 49 113 w w3 most l) := HI2.out.below (hno hlay)
    clear hno hyes hlay HI2 r0 r1 v0 v1 z0 z1 d0 d1 d2 HB
    obtain ⟨r0, r1, v0, v1, z0, z1⟩ := HI3.out.cells
    go_wp2
    refine bodyPost_ret (v := .tuple #[.agg #[.int .i64 0, .map none], .bool false]) (by simp [results, Tryz.results148, go_sem, *]) rfl ?_
    exact ⟨(HI3.out.away _ _).2, .inl ⟨HN.out, rfl⟩⟩
   | true =>
    have HY : Hid (thingsB (fun x : SemD => x.id) (fun x : SemD => semB x) 0 (list.take (k + 1)) = true ∧ ((k + 1 : Nat) : Int) ≤ max most 0) := things_lay_yes HX.out HT.out.1 HT.out.2.1 HLT.out hlay
    obtain ⟨g, hin4⟩ := HI2.out.lay (x := x) (e := .returned (.bool true)) (w' := w3) ⟨rfl, (fun h => by cases h), fun _ => hyes hlay⟩ (rises_last HT.out.1 HT.out.2.1 HLT.out)
    have HI4 : Hid (ShIn semVs (fun x : SemD => x.id) 49 113 w w3 most (l ++ [(x, g)])) := hin4
    have HB3 : Hid (w3.heap[wr.heap.size]? = some (.cells (semVs x) 49 (0, 0))) := by
     obtain ⟨g', _, _, _, hgr⟩ := hyes hlay
     exact (hgr.block _ (Array.getElem?_eq_some_iff.1 HB.out).1 (fun e => by have := Option.some.inj e; have := HZ.out; omega)).trans HB.out
    clear hno hyes hlay HI2 r0 r1 v0 v1 z0 z1 d0 d1 d2 HB hin4
    obtain ⟨d0, d1, d2⟩ := sem_cells HB3.out
    go_wp2_with fail
    refine (numberSem_any x _).mono ?_
    rintro e w5 ⟨rfl, hb5⟩
    have HI5 : Hid (ShIn semVs (fun x : SemD => x.id) 49 113 w w5 most (l ++ [(x, g)])) := HI4.out.below hb5
    have HE : Hid (lastOf (fun x : SemD => x.id) 0 (list.take (k + 1)) = x.id) := lastOf_take HX.out 0
    clear hb5 HI4
    go_wp2
    go_roundw
    case rel => exact ⟨k + 1, by omega, by go_num, by rw [HE.out], ⟨l ++ [(x, g)], by rw [List.map_append, HT.out.1, take_up HX.out]; rfl, HI5.out, HY.out.1, HY.out.2⟩⟩
    case measure => simp [intOf]; omega
  ·have i1 : ¬ (k : Int) < (list.length : Int) := by omega
   have HK : Hid (list.take k = list ∧ ((list.length : Int) ≤ max most 0)) := ⟨List.take_of_length_le (by omega), by have := HT.out.2.2; omega⟩
   have HY : Hid ((thingsB (fun x : SemD => x.id) (fun x : SemD => semB x) 0 list && decide ((list.length : Int) ≤ max most 0)) = true) := by
    show _ = true
    have h1 := HT.out.2.1
    rw [HK.out.1] at h1
    rw [h1, decide_eq_true HK.out.2]; rfl
   obtain ⟨r0, r1, v0, v1, z0, z1⟩ := HI.out.cells
   go_wp2
   refine bodyPost_ret (v := .tuple #[.agg #[.int .i64 most, .map (some (w.heap.size + 1))], .bool true]) (by simp [results, Tryz.results148, go_sem, *]) rfl ?_
   exact ⟨(HI.out.away _ _).2, .inr ⟨HY.out, w.heap.size + 1, l, rfl, by rw [HT.out.1, HK.out.1], (HI.out.away _ _).1⟩⟩

end Go.Proofs.YtkbcplnlehdjfaaGreat

/- Laying a thing of the kind Event into its shelf. (Made by mkshelf.py.) -/
namespace Go.Proofs.YtkbcplnlehdjfaaGreat
open Go.RowKit
attribute [local go_sem ↓] Go.wp_at_zero Go.wp_at_succ

/-- What every order of laying in keeps. -/
def LaySEvent (w : World) (b : Nat) (m : MapL) (most : Int) (x : EventD) (w' : World) : Prop := (w'.cell? ⟨w.heap.size, 0, none⟩ = some (.int .i64 most) ∧ w'.cell? ⟨w.heap.size, 1, none⟩ = some (.map (some b)) ∧ (∀ ty, (Builtin.len_ #[114] ty #[.map (some b)]).run Tryz.prog w' = .ok (.int .i64 (m.length : Int)) w') ∧ w'.cell? ⟨w.heap.size + 1, 0, none⟩ = some (.int .i64 x.id) ∧ w'.cell? ⟨w.heap.size + 1, 1, none⟩ = some (.bool x.up)) ∧ Hid (LayIn w w' w.heap.size (w.heap.size + 1) b m most (eventVs x) 138 116) ∧ Hid (EventFit w' x)
theorem laySEvent_of {w w' : World} {b : Nat} {m : MapL} {most : Int} {x : EventD} (h : LayIn w w' w.heap.size (w.heap.size + 1) b m most (eventVs x) 138 116) (hf : EventFit w' x) : LaySEvent w b m most x w' :=
 ⟨⟨h.cells.1, h.cells.2, fun ty => h.mp.len Tryz.underlying114 ty, event_cells h.bx⟩, h, hf⟩
set_option maxRecDepth 100000 in
set_option maxHeartbeats 16000000 in
theorem layEvent_any (most : Int) (b : Nat) (m : MapL) (x : EventD) (w : World) (h : MapIs w b m) (hw : (Lit.int .i64 x.id).wf = true) (hm : m.length ≤ 1048576) (hf : EventFit w x) :
  Calls Tryz.prog 90 #[.agg #[.int .i64 most, .map (some b)], .agg (eventVs x)] w fun e w' => LayEnds w b m (layB most m x.id (eventB x)) x.id (eventVs x) 138 e w' := by
 have HF : Hid (LayIn w ((w.alloc (.cells #[.int .i64 most, .map (some b)] 116)).alloc (.cells (eventVs x) 138)) w.heap.size (w.heap.size + 1) b m most (eventVs x) 138 116) := LayIn.start w h most _ _ _
 have HW : Hid ((Lit.int .i64 x.id).wf = true ∧ ¬ w.heap.size + 1 = b ∧ m.length ≤ 1048576) := ⟨hw, by have := h.lt; omega, hm⟩
 have HI : Hid (EventFit ((w.alloc (.cells #[.int .i64 most, .map (some b)] 116)).alloc (.cells (eventVs x) 138)) x) := hf.below ((((Below.refl _ w).alloc (Nat.le_refl _) _)).alloc (by simp) _)
 have hmn := meth_numberEvent
 have hmr := meth_rightEvent
 obtain ⟨s0, s1⟩ := HF.out.cells
 obtain ⟨c0, c1⟩ := event_cells HF.out.bx
 clear h hw hf hm
 unfold eventVs at *
 go_enter Tryz.func90, Tryz.ntmps90
 go_wp2_with fail
 clear s0 s1 c0 c1
 obtain ⟨vA, hA⟩ : ∃ v, (lookM m x.id).isSome = v := ⟨_, rfl⟩
 obtain ⟨vB, hBd⟩ : ∃ v, decide (most ≤ (m.length : Int)) = v := ⟨_, rfl⟩
 obtain ⟨vC, hC⟩ : ∃ v, inB x.id 1 1000 = v := ⟨_, rfl⟩
 obtain ⟨vD, hD⟩ : ∃ v, eventB x = v := ⟨_, rfl⟩
 have HL : Hid (layB most m x.id (eventB x) = (!vA && !vB && vC && vD) ∧ (vA = false → lookM m x.id = none)) := ⟨layB_of hA hBd hC hD, fun e => Option.isNone_iff_eq_none.1 (Option.isSome_eq_false_iff.1 (hA.trans e))⟩
 have HA : Hid (Ending.returned (.bool (lookM m x.id).isSome) = .returned (.bool vA)) := ret_bool hA
 have HC : Hid (Ending.returned (.bool (inB x.id 1 1000)) = .returned (.bool vC)) := ret_bool hC
 have HD : Hid (Ending.returned (.bool (eventB x)) = .returned (.bool vD)) := ret_bool hD
 clear hA hC hD
 refine tame_region (LaySEvent w b m most x) (by kernel_rfl) (laySEvent_of HF.out.drew (HI.out.below (Below.refl _ _).drew)) ?_
 iterate 3 (refine yl (v := ?_) ?_ ?_; rotate_left; (intro w0 hS0; obtain ⟨⟨q0, q1, q2, q3, q4⟩, hH⟩ := hS0; go_simp; try with_reducible rfl); simp only [pt, sb, s0, s1])
 (refine cl (.int .i64 x.id) 307 #[.agg #[.int .i64 x.id, .bool x.up]] ?_ ?_ ?_; (intro w0 hS0; obtain ⟨⟨q0, q1, q2, q3, q4⟩, hH⟩ := hS0; go_simp; try with_reducible rfl); (intro w0 hS0; refine (numberEvent_any x w0).mono ?_; rintro e w2 ⟨rfl, hb2⟩; exact ⟨rfl, laySEvent_of (hS0.2.1.out.below hb2) (hS0.2.2.out.below hb2)⟩); simp only [pt, sb, s0, s1])
 (refine cl (.bool vA) 176 #[.agg #[.int .i64 most, .map (some b)], .int .i64 x.id] ?_ ?_ ?_; (intro w0 hS0; obtain ⟨⟨q0, q1, q2, q3, q4⟩, hH⟩ := hS0; go_simp; try with_reducible rfl); (intro w0 hS0; refine (hasEvent_any most b m x.id w0 hS0.2.1.out.mp HW.out.1).mono ?_; rintro e w2 ⟨rfl, hb2⟩; exact ⟨HA.out, laySEvent_of (hS0.2.1.out.below hb2) (hS0.2.2.out.below hb2)⟩); simp only [pt, sb, s0, s1])
 (refine yl (v := ?_) ?_ ?_; rotate_left; (intro w0 hS0; obtain ⟨⟨q0, q1, q2, q3, q4⟩, hH⟩ := hS0; go_simp; try with_reducible rfl); simp only [pt, sb, s0, s1])
 rcases vA.eq_false_or_eq_true with rfl | rfl
 focus iterate 6 (refine nl ?_; simp only [pt, sb, s0, s1])
 rotate_left
 focus iterate 6 (refine yl (v := ?_) ?_ ?_; rotate_left; (intro w0 hS0; obtain ⟨⟨q0, q1, q2, q3, q4⟩, hH⟩ := hS0; go_simp; try with_reducible rfl); simp only [pt, sb, s0, s1])
 all_goals iterate 2 (refine yl (v := ?_) ?_ ?_; rotate_left; (intro w0 hS0; obtain ⟨⟨q0, q1, q2, q3, q4⟩, hH⟩ := hS0; go_simp; try with_reducible rfl); simp only [pt, sb, s0, s1])
 rcases vB.eq_false_or_eq_true with rfl | rfl
 focus iterate 5 (refine nl ?_; simp only [pt, sb, s0, s1])
 rotate_left
 focus
  iterate 2 (refine yl (v := ?_) ?_ ?_; rotate_left; (intro w0 hS0; obtain ⟨⟨q0, q1, q2, q3, q4⟩, hH⟩ := hS0; go_simp; try with_reducible rfl); simp only [pt, sb, s0, s1])
  (refine cl (.int .i64 x.id) 307 #[.agg #[.int .i64 x.id, .bool x.up]] ?_ ?_ ?_; (intro w0 hS0; obtain ⟨⟨q0, q1, q2, q3, q4⟩, hH⟩ := hS0; go_simp; try with_reducible rfl); (intro w0 hS0; refine (numberEvent_any x w0).mono ?_; rintro e w2 ⟨rfl, hb2⟩; exact ⟨rfl, laySEvent_of (hS0.2.1.out.below hb2) (hS0.2.2.out.below hb2)⟩); simp only [pt, sb, s0, s1])
  (refine cl (.bool vC) 164 #[.int .i64 x.id] ?_ ?_ ?_; (intro w0 hS0; obtain ⟨⟨q0, q1, q2, q3, q4⟩, hH⟩ := hS0; go_simp; try with_reducible rfl); (intro w0 hS0; refine (isNumber_any x.id w0).mono ?_; rintro e w2 ⟨rfl, rfl⟩; exact ⟨HC.out, hS0⟩); simp only [pt, sb, s0, s1])
  (refine yl (v := ?_) ?_ ?_; rotate_left; (intro w0 hS0; obtain ⟨⟨q0, q1, q2, q3, q4⟩, hH⟩ := hS0; go_simp; try with_reducible rfl); simp only [pt, sb, s0, s1])
 rotate_left
 focus iterate 5 (refine nl ?_; simp only [pt, sb, s0, s1])
 all_goals iterate 2 (refine yl (v := ?_) ?_ ?_; rotate_left; (intro w0 hS0; obtain ⟨⟨q0, q1, q2, q3, q4⟩, hH⟩ := hS0; go_simp; try with_reducible rfl); simp only [pt, sb, s0, s1])
 rotate_right
 rcases vC.eq_false_or_eq_true with rfl | rfl
 focus
  iterate 2 (refine yl (v := ?_) ?_ ?_; rotate_left; (intro w0 hS0; obtain ⟨⟨q0, q1, q2, q3, q4⟩, hH⟩ := hS0; go_simp; try with_reducible rfl); simp only [pt, sb, s0, s1])
  (refine cl (.bool vD) 308 #[.agg #[.int .i64 x.id, .bool x.up]] ?_ ?_ ?_; (intro w0 hS0; obtain ⟨⟨q0, q1, q2, q3, q4⟩, hH⟩ := hS0; go_simp; try with_reducible rfl); (intro w0 hS0; refine (rightEvent_any x w0 hS0.2.2.out).mono ?_; rintro e w2 ⟨rfl, hb2⟩; exact ⟨HD.out, laySEvent_of (hS0.2.1.out.below hb2) (hS0.2.2.out.below hb2)⟩); simp only [pt, sb, s0, s1])
  (refine yl (v := ?_) ?_ ?_; rotate_left; (intro w0 hS0; obtain ⟨⟨q0, q1, q2, q3, q4⟩, hH⟩ := hS0; go_simp; try with_reducible rfl); simp only [pt, sb, s0, s1])
 rotate_left
 focus iterate 4 (refine nl ?_; simp only [pt, sb, s0, s1])
 rotate_left
 focus iterate 4 (refine nl ?_; simp only [pt, sb, s0, s1])
 rotate_left
 focus iterate 4 (refine nl ?_; simp only [pt, sb, s0, s1])
 rotate_left
 all_goals (refine yl (v := ?_) ?_ ?_; rotate_left; (intro w0 hS0; obtain ⟨⟨q0, q1, q2, q3, q4⟩, hH⟩ := hS0; go_simp; try with_reducible rfl); simp only [pt, sb, s0, s1])
 all_goals refine tame_done (by kernel_rfl) ?_ _
 all_goals intro w1 hS1
 rcases vD.eq_false_or_eq_true with rfl | rfl
 rotate_left
 iterate 4
  go_wp2
  go_ret
  exact layEnds_no HL.out.1 hS1.2.1.out.bel
 go_wp2_with fail
 refine last_region (LaySEvent w b m most x) 5 (by kernel_rfl) (laySEvent_of hS1.2.1.out.drew (hS1.2.2.out.below (Below.refl _ _).drew)) ?_
 iterate 4 (refine ly 6 (v := ?_) (some _) rfl rfl (by kernel_rfl) (fun _ _ _ h => h) (does_yield (by kernel_rfl) ?_) ?_; rotate_left; (intro w0 hS0; obtain ⟨⟨q0, q1, q2, q3, q4⟩, hH⟩ := hS0; go_simp; try with_reducible rfl); simp only [pt, sb, s0, s1])
 refine ly 6 (v := .int .i64 x.id) (some _) rfl rfl (by kernel_rfl) (fun _ _ _ h => h) (does_call (f := 307) (args := #[.agg #[.int .i64 x.id, .bool x.up]]) (by kernel_rfl) ?_ ?_) ?_
 ·intro w0 hS0
  obtain ⟨⟨q0, q1, q2, q3, q4⟩, hH⟩ := hS0
  go_simp
  try with_reducible rfl
 ·intro w0 hS0
  refine (numberEvent_any x w0).mono ?_
  rintro e w2 ⟨rfl, hb2⟩
  exact ⟨rfl, laySEvent_of (hS0.2.1.out.below hb2) (hS0.2.2.out.below hb2)⟩
 simp only [pt, sb, s0, s1]
 refine last_done rfl (by kernel_rfl) (by kernel_rfl) (by kernel_rfl) ?_
 intro w1 hS1
 obtain ⟨w2, hput, hend⟩ := hS1.2.1.out.put (by omega) Tryz.underlying114 HW.out.1 (HL.out.2 (by trivial)) HW.out.2.2 HW.out.2.1
 have HE : Hid (LayEnds w b m true x.id (eventVs x) 138 (.returned (.bool true)) w2) := hend
 clear hend hS1
 go_simp
 go_wp2
 go_ret
 rw [HL.out.1]
 exact HE.out

end Go.Proofs.YtkbcplnlehdjfaaGreat
