/- What the proof leans on, part 1: KdProc0, OpenB, KdBuffer, KdPort, KdSem, KdEvent, KdBoard, OwnI, TameY, HasW, StProc, KdProc, AlProc, WaitsI, TurnsI. -/
import Derived.Test.YtkbcplnlehdjfaaGreatOwnP0

namespace Go.Proofs.YtkbcplnlehdjfaaGreat
open Go.RowKit
attribute [local go_sem ↓] Go.wp_at_zero Go.wp_at_succ

def procVs (x : ProcD) : Array Value := #[.int .i64 x.id, .int .i64 x.prio, .slice x.progA x.prog.length x.progC, .int .i64 x.state, .int .i64 x.pc, .int .i64 x.left, .int .i64 x.wake, .int .i64 x.on, .string x.held, .string x.got, .int .i64 x.code, .int .i64 x.since]
/-- Its lists lie, and nothing of it is too long for a machine. -/
def ProcFit (w : World) (x : ProcD) : Prop := x.Short ∧ Row w x.progA (opK.flat x.prog)
theorem ProcFit.below {w w' : World} {x : ProcD} (h : ProcFit w x) (hb : Below w.heap.size w w') : ProcFit w' x := ⟨h.1, h.2.below hb⟩
theorem proc_cells {W : World} {X : Nat} {x : ProcD} (h : W.heap[X]? = some (.cells (procVs x) 43 (0, 0))) : W.cell? ⟨X, 0, none⟩ = some (.int .i64 x.id) ∧ W.cell? ⟨X, 1, none⟩ = some (.int .i64 x.prio) ∧ W.cell? ⟨X, 2, none⟩ = some (.slice x.progA x.prog.length x.progC) ∧ W.cell? ⟨X, 3, none⟩ = some (.int .i64 x.state) ∧ W.cell? ⟨X, 4, none⟩ = some (.int .i64 x.pc) ∧ W.cell? ⟨X, 5, none⟩ = some (.int .i64 x.left) ∧ W.cell? ⟨X, 6, none⟩ = some (.int .i64 x.wake) ∧ W.cell? ⟨X, 7, none⟩ = some (.int .i64 x.on) ∧ W.cell? ⟨X, 8, none⟩ = some (.string x.held) ∧ W.cell? ⟨X, 9, none⟩ = some (.string x.got) ∧ W.cell? ⟨X, 10, none⟩ = some (.int .i64 x.code) ∧ W.cell? ⟨X, 11, none⟩ = some (.int .i64 x.since) := by
 unfold procVs at h
 simp [World.cell?, h]

set_option maxHeartbeats 400000 in
theorem numberProc_any (x : ProcD) (w : World) : Calls Tryz.prog 282 #[.agg (procVs x)] w fun e w' => e = .returned (.int .i64 x.id) ∧ Below w.heap.size w w' := by
 unfold procVs
 go_enter Tryz.func282, Tryz.ntmps282
 go_wp2
 go_ret
 exact ⟨rfl, (Below.refl _ _).alloc (Nat.le_refl _) _⟩

theorem meth_numberProc (v : Value) (w : World) : Sem.run Tryz.prog (method 440 43 v "loop.example/g00313/impl.number") w = .ok (282, v) w := by kernel_rfl
theorem meth_rightProc (v : Value) (w : World) : Sem.run Tryz.prog (method 440 43 v "loop.example/g00313/impl.right") w = .ok (283, v) w := by kernel_rfl
theorem zeroPtrProc (w : World) : (zeroValue 102).run Tryz.prog w = .ok (.pointer none) w := by kernel_rfl
set_option maxHeartbeats 1000000 in
theorem hasProc_any (most : Int) (b : Nat) (m : MapL) (id : Int) (w : World) (h : MapIs w b m) (hw : (Lit.int .i64 id).wf = true) :
  Calls Tryz.prog 163 #[.agg #[.int .i64 most, .map (some b)], .int .i64 id] w fun e w' => e = .returned (.bool (lookM m id).isSome) ∧ Below w.heap.size w w' := by
 have hlk := (h.below ((Below.refl _ w).alloc (Nat.le_refl _) (.cells #[.int .i64 most, .map (some b)] 110))).look Tryz.underlying108 (zeroPtrProc _) hw true
 simp only [if_true] at hlk
 clear h hw
 go_enter Tryz.func163, Tryz.ntmps163
 go_wp2
 go_ret
 exact ⟨rfl, (Below.refl _ _).alloc (Nat.le_refl _) _⟩

set_option maxHeartbeats 1000000 in
theorem isWake_any (t : Int) (w : World) : Calls Tryz.prog 289 #[.int .i64 t] w fun e w' => e = .returned (.bool (inB t 1 2000000000)) ∧ w' = w := by
 by_cases h1 : 1 ≤ t
 ·by_cases h2 : t ≤ 2000000000
  ·go_enter Tryz.func289, Tryz.ntmps289
   go_wp2
   go_ret
   exact ⟨ret_bool (inB_true h1 h2).symm, rfl⟩
  ·go_enter Tryz.func289, Tryz.ntmps289
   go_wp2
   go_ret
   exact ⟨ret_bool (inB_high (by omega)).symm, rfl⟩
 ·go_enter Tryz.func289, Tryz.ntmps289
  go_wp2
  go_ret
  exact ⟨ret_bool (inB_low (by omega)).symm, rfl⟩

set_option maxHeartbeats 1000000 in
theorem hasOp_any (x : ProcD) (w : World) (hl : x.prog.length ≤ 1048576) : Calls Tryz.prog 229 #[.agg (procVs x)] w fun e w' => e = .returned (.bool (hasOpB x.toProcP)) ∧ Below w.heap.size w w' := by
 unfold procVs
 have e1 : wrap64 (x.prog.length : Int) = x.prog.length := by unfold wrap64; omega
 by_cases h1 : 0 ≤ x.pc
 ·by_cases h2 : x.pc < (x.prog.length : Int)
  ·have HV : Hid (hasOpB x.toProcP = true) := inB_true h1 (by omega)
   go_enter Tryz.func229, Tryz.ntmps229
   go_wp2
   go_ret
   exact ⟨ret_bool HV.out.symm, (Below.refl _ _).alloc (Nat.le_refl _) _⟩
  ·have HV : Hid (hasOpB x.toProcP = false) := inB_high (by omega)
   go_enter Tryz.func229, Tryz.ntmps229
   go_wp2
   go_ret
   exact ⟨ret_bool HV.out.symm, (Below.refl _ _).alloc (Nat.le_refl _) _⟩
 ·have HV : Hid (hasOpB x.toProcP = false) := inB_low (by omega)
  go_enter Tryz.func229, Tryz.ntmps229
  go_wp2
  go_ret
  exact ⟨ret_bool HV.out.symm, (Below.refl _ _).alloc (Nat.le_refl _) _⟩

theorem hasOp_get {x : ProcP} (h : hasOpB x = true) : ∃ k : Nat, x.pc = k ∧ k < x.prog.length ∧ x.prog[k]? = some (opAt x) := by
 have := inB_iff.1 h
 refine ⟨x.pc.toNat, by omega, by omega, ?_⟩
 unfold opAt
 rw [List.getElem?_eq_getElem (by omega)]
 rfl

set_option maxHeartbeats 2000000 in
theorem leftOk_any (x : ProcD) (w : World) (hf : ProcFit w x) (h : hasOpB x.toProcP = true) : Calls Tryz.prog 288 #[.agg (procVs x)] w fun e w' => e = .returned (.bool (leftB x.toProcP)) ∧ Below w.heap.size w w' := by
 obtain ⟨k, hk, hkl, hop⟩ := hasOp_get h
 have b1 : Below w.heap.size w (w.alloc (.cells (procVs x) 43)) := (Below.refl _ _).alloc (Nat.le_refl _) _
 obtain ⟨g, hg, c0, c1, c2, c3⟩ := op_at (hf.2.below b1) hop
 have HL : Hid (leftB x.toProcP = if (opAt x.toProcP).1 = 1 then decide (0 ≤ x.left) && decide (x.left < (opAt x.toProcP).2.1) else decide (x.left = 0)) := rfl
 have i0 : (0 : Int) ≤ (k : Int) := by omega
 have i1 : (k : Int) < (x.prog.length : Int) := by omega
 clear h hop hf
 generalize opAt x.toProcP = o at *
 obtain ⟨⟨id, prio, prog, state, pc, left, wake, on, held, got, code, since⟩, progA, progC⟩ := x
 simp only at hk hg i1 HL
 subst hk hg
 unfold procVs at *
 simp only at *
 by_cases h1 : o.1 = 1
 ·have HL1 : Hid (leftB ⟨id, prio, prog, state, k, left, wake, on, held, got, code, since⟩ = (decide (0 ≤ left) && decide (left < o.2.1))) := HL.out.trans (if_pos h1)
  have h1' : (o.1 == 1) = true := by simp [h1]
  clear h1 HL
  by_cases h2 : 0 ≤ left
  ·by_cases h3 : left < o.2.1
   all_goals
    go_enter Tryz.func288, Tryz.ntmps288
    go_wp2
    go_ret
    exact ⟨ret_bool (by rw [HL1.out]; simp [h2, h3]), by go_grown⟩
  ·go_enter Tryz.func288, Tryz.ntmps288
   go_wp2
   go_ret
   exact ⟨ret_bool (by rw [HL1.out, decide_eq_false (by omega)]; rfl), by go_grown⟩
 ·have HL1 : Hid (leftB ⟨id, prio, prog, state, k, left, wake, on, held, got, code, since⟩ = decide (left = 0)) := HL.out.trans (if_neg h1)
  have h1' : (o.1 == 1) = false := by simp [h1]
  clear h1 HL
  go_enter Tryz.func288, Tryz.ntmps288
  go_wp2
  go_ret
  exact ⟨ret_bool (by rw [HL1.out]; by_cases h : left = 0 <;> simp [h]), by go_grown⟩


end Go.Proofs.YtkbcplnlehdjfaaGreat

/- An open partition's own block. -/
namespace Go.Proofs.YtkbcplnlehdjfaaGreat
open Go.RowKit

/-- The numbers of an open partition, and the blocks of its maps. -/
structure Opn where
 id : Int
 next : Int
 bp : Nat
 bs : Nat
 be : Nat
 bb : Nat
 bf : Nat
 bq : Nat
def Opn.cells (q : Opn) : Array Value := #[.int .i64 q.id, .int .i64 q.next, .int .i64 6, .map (some q.bp), .int .i64 5, .map (some q.bs), .int .i64 5, .map (some q.be), .int .i64 5, .map (some q.bb), .int .i64 5, .map (some q.bf), .int .i64 5, .map (some q.bq)]
def OpenBox (W : World) (o : Nat) (q : Opn) : Prop := W.heap[o]? = some (.cells q.cells 127 (0, 0))
theorem OpenBox.below {W W' : World} {o : Nat} {q : Opn} (h : OpenBox W o q) (hb : Below W.heap.size W W') : OpenBox W' o q := (hb.block o (Array.getElem?_eq_some_iff.1 h).1).trans h
theorem OpenBox.cell {W : World} {o : Nat} {q : Opn} (h : OpenBox W o q) (i : Nat) : W.cell? ⟨o, i, none⟩ = q.cells[i]? := by
 unfold OpenBox at h
 simp [World.cell?, h]

/-- What is there while it is asked what a process waits for. -/
structure HasIn (w W : World) (o X : Nat) (q : Opn) (x : ProcD) (ms me mb mf : MapL) : Prop where
 opn : OpenBox W o q
 box : W.heap[X]? = some (.cells (procVs x) 43 (0, 0))
 ms : MapIs W q.bs ms
 me : MapIs W q.be me
 mb : MapIs W q.bb mb
 mf : MapIs W q.bf mf
 bel : Below w.heap.size w W
theorem HasIn.below {w W W' : World} {o X : Nat} {q : Opn} {x : ProcD} {ms me mb mf : MapL} (h : HasIn w W o X q x ms me mb mf) (hb : Below W.heap.size W W') : HasIn w W' o X q x ms me mb mf :=
 ⟨h.opn.below hb, (hb.block _ (Array.getElem?_eq_some_iff.1 h.box).1).trans h.box, h.ms.below hb, h.me.below hb, h.mb.below hb, h.mf.below hb, h.bel.trans (hb.mono h.bel.size)⟩
theorem HasIn.drew {w W : World} {o X : Nat} {q : Opn} {x : ProcD} {ms me mb mf : MapL} (h : HasIn w W o X q x ms me mb mf) : HasIn w W.drew o X q x ms me mb mf := h.below (Below.refl _ _).drew
/-- Whether there is what a process waits for, by the keys of the maps. -/
def waitK (ms me mb mf : MapL) (x : ProcD) : Bool :=
 if x.state = 3 then (lookM ms x.on).isSome else if x.state = 4 then (lookM me x.on).isSome else if x.state = 5 ∨ x.state = 6 then (lookM mf x.on).isSome else if x.state = 7 then (lookM mb x.on).isSome else true

end Go.Proofs.YtkbcplnlehdjfaaGreat

/- The things of the kind Buffer, and their shelf: what each method does. (Made by mkshelf.py.) -/
namespace Go.Proofs.YtkbcplnlehdjfaaGreat
open Go.RowKit
attribute [local go_sem ↓] Go.wp_at_zero Go.wp_at_succ

def bufferVs (x : BufferD) : Array Value := #[.int .i64 x.id, .int .i64 x.max, .slice x.itemsA x.items.length x.itemsC]
/-- Its lists lie, and nothing of it is too long for a machine. -/
def BufferFit (w : World) (x : BufferD) : Prop := TextsFit w x.itemsA x.items
theorem BufferFit.below {w w' : World} {x : BufferD} (h : BufferFit w x) (hb : Below w.heap.size w w') : BufferFit w' x := TextsFit.below h hb
theorem buffer_cells {W : World} {X : Nat} {x : BufferD} (h : W.heap[X]? = some (.cells (bufferVs x) 144 (0, 0))) : W.cell? ⟨X, 0, none⟩ = some (.int .i64 x.id) ∧ W.cell? ⟨X, 1, none⟩ = some (.int .i64 x.max) ∧ W.cell? ⟨X, 2, none⟩ = some (.slice x.itemsA x.items.length x.itemsC) := by
 unfold bufferVs at h
 simp [World.cell?, h]

set_option maxHeartbeats 400000 in
theorem numberBuffer_any (x : BufferD) (w : World) : Calls Tryz.prog 313 #[.agg (bufferVs x)] w fun e w' => e = .returned (.int .i64 x.id) ∧ Below w.heap.size w w' := by
 unfold bufferVs
 go_enter Tryz.func313, Tryz.ntmps313
 go_wp2
 go_ret
 exact ⟨rfl, (Below.refl _ _).alloc (Nat.le_refl _) _⟩

theorem meth_numberBuffer (v : Value) (w : World) : Sem.run Tryz.prog (method 440 144 v "loop.example/g00313/impl.number") w = .ok (313, v) w := by kernel_rfl
theorem meth_rightBuffer (v : Value) (w : World) : Sem.run Tryz.prog (method 440 144 v "loop.example/g00313/impl.right") w = .ok (314, v) w := by kernel_rfl
theorem zeroPtrBuffer (w : World) : (zeroValue 224).run Tryz.prog w = .ok (.pointer none) w := by kernel_rfl
set_option maxHeartbeats 1000000 in
theorem hasBuffer_any (most : Int) (b : Nat) (m : MapL) (id : Int) (w : World) (h : MapIs w b m) (hw : (Lit.int .i64 id).wf = true) :
  Calls Tryz.prog 178 #[.agg #[.int .i64 most, .map (some b)], .int .i64 id] w fun e w' => e = .returned (.bool (lookM m id).isSome) ∧ Below w.heap.size w w' := by
 have hlk := (h.below ((Below.refl _ w).alloc (Nat.le_refl _) (.cells #[.int .i64 most, .map (some b)] 122))).look Tryz.underlying120 (zeroPtrBuffer _) hw true
 simp only [if_true] at hlk
 clear h hw
 go_enter Tryz.func178, Tryz.ntmps178
 go_wp2
 go_ret
 exact ⟨rfl, (Below.refl _ _).alloc (Nat.le_refl _) _⟩

set_option maxHeartbeats 1000000 in
theorem rightBuffer_any (x : BufferD) (w : World) (hf : BufferFit w x) : Calls Tryz.prog 314 #[.agg (bufferVs x)] w fun e w' => e = .returned (.bool (bufferB x.toBufferP)) ∧ Below w.heap.size w w' := by
 have HF : Hid (BufferFit w x) := hf
 clear hf
 unfold bufferVs
 go_enter Tryz.func314, Tryz.ntmps314
 go_wp2_with fail
 refine (itemsOk_any x.itemsA x.items x.itemsC x.max _ (TextsFit.below HF.out ((Below.refl _ _).alloc (Nat.le_refl _) _))).mono ?_
 rintro e w1 ⟨rfl, hw1⟩
 subst hw1
 go_wp2
 go_ret
 exact ⟨rfl, (Below.refl _ _).alloc (Nat.le_refl _) _⟩

end Go.Proofs.YtkbcplnlehdjfaaGreat

/- The things of the kind Port, and their shelf: what each method does. (Made by mkshelf.py.) -/
namespace Go.Proofs.YtkbcplnlehdjfaaGreat
open Go.RowKit
attribute [local go_sem ↓] Go.wp_at_zero Go.wp_at_succ

def portVs (x : PortD) : Array Value := #[.int .i64 x.id, .bool x.out, .bool x.queue, .int .i64 x.max, .slice x.itemsA x.items.length x.itemsC]
/-- Its lists lie, and nothing of it is too long for a machine. -/
def PortFit (w : World) (x : PortD) : Prop := TextsFit w x.itemsA x.items
theorem PortFit.below {w w' : World} {x : PortD} (h : PortFit w x) (hb : Below w.heap.size w w') : PortFit w' x := TextsFit.below h hb
theorem port_cells {W : World} {X : Nat} {x : PortD} (h : W.heap[X]? = some (.cells (portVs x) 61 (0, 0))) : W.cell? ⟨X, 0, none⟩ = some (.int .i64 x.id) ∧ W.cell? ⟨X, 1, none⟩ = some (.bool x.out) ∧ W.cell? ⟨X, 2, none⟩ = some (.bool x.queue) ∧ W.cell? ⟨X, 3, none⟩ = some (.int .i64 x.max) ∧ W.cell? ⟨X, 4, none⟩ = some (.slice x.itemsA x.items.length x.itemsC) := by
 unfold portVs at h
 simp [World.cell?, h]

set_option maxHeartbeats 400000 in
theorem numberPort_any (x : PortD) (w : World) : Calls Tryz.prog 297 #[.agg (portVs x)] w fun e w' => e = .returned (.int .i64 x.id) ∧ Below w.heap.size w w' := by
 unfold portVs
 go_enter Tryz.func297, Tryz.ntmps297
 go_wp2
 go_ret
 exact ⟨rfl, (Below.refl _ _).alloc (Nat.le_refl _) _⟩

theorem meth_numberPort (v : Value) (w : World) : Sem.run Tryz.prog (method 440 61 v "loop.example/g00313/impl.number") w = .ok (297, v) w := by kernel_rfl
theorem meth_rightPort (v : Value) (w : World) : Sem.run Tryz.prog (method 440 61 v "loop.example/g00313/impl.right") w = .ok (298, v) w := by kernel_rfl
theorem zeroPtrPort (w : World) : (zeroValue 225).run Tryz.prog w = .ok (.pointer none) w := by kernel_rfl
set_option maxHeartbeats 1000000 in
theorem hasPort_any (most : Int) (b : Nat) (m : MapL) (id : Int) (w : World) (h : MapIs w b m) (hw : (Lit.int .i64 id).wf = true) :
  Calls Tryz.prog 179 #[.agg #[.int .i64 most, .map (some b)], .int .i64 id] w fun e w' => e = .returned (.bool (lookM m id).isSome) ∧ Below w.heap.size w w' := by
 have hlk := (h.below ((Below.refl _ w).alloc (Nat.le_refl _) (.cells #[.int .i64 most, .map (some b)] 125))).look Tryz.underlying123 (zeroPtrPort _) hw true
 simp only [if_true] at hlk
 clear h hw
 go_enter Tryz.func179, Tryz.ntmps179
 go_wp2
 go_ret
 exact ⟨rfl, (Below.refl _ _).alloc (Nat.le_refl _) _⟩

set_option maxHeartbeats 1000000 in
theorem rightPort_any (x : PortD) (w : World) (hf : PortFit w x) : Calls Tryz.prog 298 #[.agg (portVs x)] w fun e w' => e = .returned (.bool (portB x.toPortP)) ∧ Below w.heap.size w w' := by
 have HF : Hid (PortFit w x) := hf
 clear hf
 obtain ⟨⟨id, out, queue, max, items⟩, itemsA, itemsC⟩ := x
 unfold portVs
 cases hp : (inB max 1 5 && textsB items max) with
 | false =>
  have HP : Hid ((inB max 1 5 && textsB items max) = false) := hp
  clear hp
  go_enter Tryz.func298, Tryz.ntmps298
  go_wp2_with fail
  refine (itemsOk_any itemsA items itemsC max _ (TextsFit.below HF.out ((Below.refl _ _).alloc (Nat.le_refl _) _))).mono ?_
  rintro e w1 ⟨rfl, hw1⟩
  rw [HP.out]
  subst hw1
  go_wp2
  go_ret
  exact ⟨ret_bool (portB_false HP.out).symm, (Below.refl _ _).alloc (Nat.le_refl _) _⟩
 | true =>
  have HP : Hid ((inB max 1 5 && textsB items max) = true) := hp
  clear hp
  by_cases h1 : max = 1
  all_goals
   have HM : Hid (decide (max = 1) = (max == 1)) := by show decide (max = 1) = (max == 1); by_cases h : max = 1 <;> simp [h]
   have h1' : (max == 1) = decide (max = 1) := HM.out.symm
   cases queue
  all_goals
   have HV : Hid (∀ q, portB ⟨id, out, q, max, items⟩ = (q || decide (max = 1))) := portB_true HP.out
   simp only [h1, decide_true, decide_false] at h1'
   clear h1
   go_enter Tryz.func298, Tryz.ntmps298
   go_wp2_with fail
   refine (itemsOk_any itemsA items itemsC max _ (TextsFit.below HF.out ((Below.refl _ _).alloc (Nat.le_refl _) _))).mono ?_
   rintro e w1 ⟨rfl, hw1⟩
   rw [HP.out]
   subst hw1
   go_wp2
   go_ret
   exact ⟨ret_bool (by rw [HV.out, HM.out]; simp [h1']), (Below.refl _ _).alloc (Nat.le_refl _) _⟩

end Go.Proofs.YtkbcplnlehdjfaaGreat

/- The things of the kind Sem, and their shelf: what each method does. (Made by mkshelf.py.) -/
namespace Go.Proofs.YtkbcplnlehdjfaaGreat
open Go.RowKit
attribute [local go_sem ↓] Go.wp_at_zero Go.wp_at_succ

def semVs (x : SemD) : Array Value := #[.int .i64 x.id, .int .i64 x.n, .int .i64 x.max]
/-- Its lists lie, and nothing of it is too long for a machine. -/
def SemFit (_ : World) (_ : SemD) : Prop := True
theorem SemFit.below {w w' : World} {x : SemD} (_ : SemFit w x) (_ : Below w.heap.size w w') : SemFit w' x := trivial
theorem sem_cells {W : World} {X : Nat} {x : SemD} (h : W.heap[X]? = some (.cells (semVs x) 49 (0, 0))) : W.cell? ⟨X, 0, none⟩ = some (.int .i64 x.id) ∧ W.cell? ⟨X, 1, none⟩ = some (.int .i64 x.n) ∧ W.cell? ⟨X, 2, none⟩ = some (.int .i64 x.max) := by
 unfold semVs at h
 simp [World.cell?, h]

set_option maxHeartbeats 400000 in
theorem numberSem_any (x : SemD) (w : World) : Calls Tryz.prog 294 #[.agg (semVs x)] w fun e w' => e = .returned (.int .i64 x.id) ∧ Below w.heap.size w w' := by
 unfold semVs
 go_enter Tryz.func294, Tryz.ntmps294
 go_wp2
 go_ret
 exact ⟨rfl, (Below.refl _ _).alloc (Nat.le_refl _) _⟩

theorem meth_numberSem (v : Value) (w : World) : Sem.run Tryz.prog (method 440 49 v "loop.example/g00313/impl.number") w = .ok (294, v) w := by kernel_rfl
theorem meth_rightSem (v : Value) (w : World) : Sem.run Tryz.prog (method 440 49 v "loop.example/g00313/impl.right") w = .ok (295, v) w := by kernel_rfl
theorem zeroPtrSem (w : World) : (zeroValue 221).run Tryz.prog w = .ok (.pointer none) w := by kernel_rfl
set_option maxHeartbeats 1000000 in
theorem hasSem_any (most : Int) (b : Nat) (m : MapL) (id : Int) (w : World) (h : MapIs w b m) (hw : (Lit.int .i64 id).wf = true) :
  Calls Tryz.prog 175 #[.agg #[.int .i64 most, .map (some b)], .int .i64 id] w fun e w' => e = .returned (.bool (lookM m id).isSome) ∧ Below w.heap.size w w' := by
 have hlk := (h.below ((Below.refl _ w).alloc (Nat.le_refl _) (.cells #[.int .i64 most, .map (some b)] 113))).look Tryz.underlying111 (zeroPtrSem _) hw true
 simp only [if_true] at hlk
 clear h hw
 go_enter Tryz.func175, Tryz.ntmps175
 go_wp2
 go_ret
 exact ⟨rfl, (Below.refl _ _).alloc (Nat.le_refl _) _⟩

set_option maxHeartbeats 1000000 in
theorem rightSem_any (x : SemD) (w : World) (_ : SemFit w x) : Calls Tryz.prog 295 #[.agg (semVs x)] w fun e w' => e = .returned (.bool (semB x)) ∧ Below w.heap.size w w' := by
 unfold semVs
 by_cases h1 : 1 ≤ x.max
 ·by_cases h2 : x.max ≤ 1000
  ·by_cases h3 : 0 ≤ x.n
   ·by_cases h4 : x.n ≤ x.max
    all_goals
     go_enter Tryz.func295, Tryz.ntmps295
     go_wp2
     go_ret
     exact ⟨ret_bool (by simp [semB, inB, *] <;> omega), (Below.refl _ _).alloc (Nat.le_refl _) _⟩
   ·go_enter Tryz.func295, Tryz.ntmps295
    go_wp2
    go_ret
    exact ⟨ret_bool (by simp [semB, inB, *] <;> omega), (Below.refl _ _).alloc (Nat.le_refl _) _⟩
  ·go_enter Tryz.func295, Tryz.ntmps295
   go_wp2
   go_ret
   exact ⟨ret_bool (by simp [semB, inB, *] <;> omega), (Below.refl _ _).alloc (Nat.le_refl _) _⟩
 ·go_enter Tryz.func295, Tryz.ntmps295
  go_wp2
  go_ret
  exact ⟨ret_bool (by simp [semB, inB, *] <;> omega), (Below.refl _ _).alloc (Nat.le_refl _) _⟩

end Go.Proofs.YtkbcplnlehdjfaaGreat

/- The things of the kind Event, and their shelf: what each method does. (Made by mkshelf.py.) -/
namespace Go.Proofs.YtkbcplnlehdjfaaGreat
open Go.RowKit
attribute [local go_sem ↓] Go.wp_at_zero Go.wp_at_succ

def eventVs (x : EventD) : Array Value := #[.int .i64 x.id, .bool x.up]
/-- Its lists lie, and nothing of it is too long for a machine. -/
def EventFit (_ : World) (_ : EventD) : Prop := True
theorem EventFit.below {w w' : World} {x : EventD} (_ : EventFit w x) (_ : Below w.heap.size w w') : EventFit w' x := trivial
theorem event_cells {W : World} {X : Nat} {x : EventD} (h : W.heap[X]? = some (.cells (eventVs x) 138 (0, 0))) : W.cell? ⟨X, 0, none⟩ = some (.int .i64 x.id) ∧ W.cell? ⟨X, 1, none⟩ = some (.bool x.up) := by
 unfold eventVs at h
 simp [World.cell?, h]

set_option maxHeartbeats 400000 in
theorem numberEvent_any (x : EventD) (w : World) : Calls Tryz.prog 307 #[.agg (eventVs x)] w fun e w' => e = .returned (.int .i64 x.id) ∧ Below w.heap.size w w' := by
 unfold eventVs
 go_enter Tryz.func307, Tryz.ntmps307
 go_wp2
 go_ret
 exact ⟨rfl, (Below.refl _ _).alloc (Nat.le_refl _) _⟩

theorem meth_numberEvent (v : Value) (w : World) : Sem.run Tryz.prog (method 440 138 v "loop.example/g00313/impl.number") w = .ok (307, v) w := by kernel_rfl
theorem meth_rightEvent (v : Value) (w : World) : Sem.run Tryz.prog (method 440 138 v "loop.example/g00313/impl.right") w = .ok (308, v) w := by kernel_rfl
theorem zeroPtrEvent (w : World) : (zeroValue 222).run Tryz.prog w = .ok (.pointer none) w := by kernel_rfl
set_option maxHeartbeats 1000000 in
theorem hasEvent_any (most : Int) (b : Nat) (m : MapL) (id : Int) (w : World) (h : MapIs w b m) (hw : (Lit.int .i64 id).wf = true) :
  Calls Tryz.prog 176 #[.agg #[.int .i64 most, .map (some b)], .int .i64 id] w fun e w' => e = .returned (.bool (lookM m id).isSome) ∧ Below w.heap.size w w' := by
 have hlk := (h.below ((Below.refl _ w).alloc (Nat.le_refl _) (.cells #[.int .i64 most, .map (some b)] 116))).look Tryz.underlying114 (zeroPtrEvent _) hw true
 simp only [if_true] at hlk
 clear h hw
 go_enter Tryz.func176, Tryz.ntmps176
 go_wp2
 go_ret
 exact ⟨rfl, (Below.refl _ _).alloc (Nat.le_refl _) _⟩

set_option maxHeartbeats 1000000 in
theorem rightEvent_any (x : EventD) (w : World) (_ : EventFit w x) : Calls Tryz.prog 308 #[.agg (eventVs x)] w fun e w' => e = .returned (.bool (eventB x)) ∧ Below w.heap.size w w' := by
 unfold eventVs
 go_enter Tryz.func308, Tryz.ntmps308
 go_wp2
 go_ret
 exact ⟨rfl, (Below.refl _ _).alloc (Nat.le_refl _) _⟩

end Go.Proofs.YtkbcplnlehdjfaaGreat

/- The things of the kind Board, and their shelf: what each method does. (Made by mkshelf.py.) -/
namespace Go.Proofs.YtkbcplnlehdjfaaGreat
open Go.RowKit
attribute [local go_sem ↓] Go.wp_at_zero Go.wp_at_succ

def boardVs (x : BoardD) : Array Value := #[.int .i64 x.id, .bool x.shown, .string x.text]
/-- Its lists lie, and nothing of it is too long for a machine. -/
def BoardFit (_ : World) (x : BoardD) : Prop := x.text.size ≤ 1048576
theorem BoardFit.below {w w' : World} {x : BoardD} (h : BoardFit w x) (_ : Below w.heap.size w w') : BoardFit w' x := h
theorem board_cells {W : World} {X : Nat} {x : BoardD} (h : W.heap[X]? = some (.cells (boardVs x) 141 (0, 0))) : W.cell? ⟨X, 0, none⟩ = some (.int .i64 x.id) ∧ W.cell? ⟨X, 1, none⟩ = some (.bool x.shown) ∧ W.cell? ⟨X, 2, none⟩ = some (.string x.text) := by
 unfold boardVs at h
 simp [World.cell?, h]

set_option maxHeartbeats 400000 in
theorem numberBoard_any (x : BoardD) (w : World) : Calls Tryz.prog 310 #[.agg (boardVs x)] w fun e w' => e = .returned (.int .i64 x.id) ∧ Below w.heap.size w w' := by
 unfold boardVs
 go_enter Tryz.func310, Tryz.ntmps310
 go_wp2
 go_ret
 exact ⟨rfl, (Below.refl _ _).alloc (Nat.le_refl _) _⟩

theorem meth_numberBoard (v : Value) (w : World) : Sem.run Tryz.prog (method 440 141 v "loop.example/g00313/impl.number") w = .ok (310, v) w := by kernel_rfl
theorem meth_rightBoard (v : Value) (w : World) : Sem.run Tryz.prog (method 440 141 v "loop.example/g00313/impl.right") w = .ok (311, v) w := by kernel_rfl
theorem zeroPtrBoard (w : World) : (zeroValue 223).run Tryz.prog w = .ok (.pointer none) w := by kernel_rfl
set_option maxHeartbeats 1000000 in
theorem hasBoard_any (most : Int) (b : Nat) (m : MapL) (id : Int) (w : World) (h : MapIs w b m) (hw : (Lit.int .i64 id).wf = true) :
  Calls Tryz.prog 177 #[.agg #[.int .i64 most, .map (some b)], .int .i64 id] w fun e w' => e = .returned (.bool (lookM m id).isSome) ∧ Below w.heap.size w w' := by
 have hlk := (h.below ((Below.refl _ w).alloc (Nat.le_refl _) (.cells #[.int .i64 most, .map (some b)] 119))).look Tryz.underlying117 (zeroPtrBoard _) hw true
 simp only [if_true] at hlk
 clear h hw
 go_enter Tryz.func177, Tryz.ntmps177
 go_wp2
 go_ret
 exact ⟨rfl, (Below.refl _ _).alloc (Nat.le_refl _) _⟩

set_option maxHeartbeats 1000000 in
theorem rightBoard_any (x : BoardD) (w : World) (hf : BoardFit w x) : Calls Tryz.prog 311 #[.agg (boardVs x)] w fun e w' => e = .returned (.bool (boardB x)) ∧ Below w.heap.size w w' := by
 have HF : Hid (BoardFit w x) := hf
 clear hf
 unfold boardVs
 obtain ⟨id, shown, text⟩ := x
 cases hp : plainB text with
 | false =>
  have HP : Hid (plainB text = false) := hp
  clear hp
  go_enter Tryz.func311, Tryz.ntmps311
  go_wp2_with fail
  refine (isPlain_any text _ HF.out).mono ?_
  rintro e w1 ⟨rfl, hw1⟩
  rw [HP.out]
  subst hw1
  go_wp2
  go_ret
  exact ⟨ret_bool (by simp [boardB, HP.out]), (Below.refl _ _).alloc (Nat.le_refl _) _⟩
 | true =>
  have HP : Hid (plainB text = true) := hp
  clear hp
  by_cases hes : text.toList = []
  all_goals
   have hes' : ([] = text.toList) = (text.toList = []) := propext ⟨fun h => h.symm, fun h => h.symm⟩
   cases shown
  all_goals
   go_enter Tryz.func311, Tryz.ntmps311
   go_wp2_with fail
   refine (isPlain_any text _ HF.out).mono ?_
   rintro e w1 ⟨rfl, hw1⟩
   rw [HP.out]
   subst hw1
   go_wp2
   go_ret
   exact ⟨ret_bool (by simp [boardB, HP.out, emptyB, hes]), (Below.refl _ _).alloc (Nat.le_refl _) _⟩

end Go.Proofs.YtkbcplnlehdjfaaGreat

/- An open partition's lists are made its own. (Made by mkown.py.) -/
namespace Go.Proofs.YtkbcplnlehdjfaaGreat
open Go.RowKit Go.Maps
attribute [local go_sem ↓] Go.wp_at_zero Go.wp_at_succ

def procN : Nest ProcD := ⟨procVs, fun x => x.id, 43, 134, 4, fun x => x.progA, fun x => x.progC, fun x => x.prog.length, fun x => opK.flat x.prog, fun x a c => { x with progA := a, progC := c }, fun _ _ _ => rfl, fun _ _ _ => rfl, fun _ _ _ => rfl, fun _ _ _ => rfl, fun _ _ _ => rfl, fun _ _ _ _ _ => rfl⟩
def bufferN : Nest BufferD := ⟨bufferVs, fun x => x.id, 144, 9, 1, fun x => x.itemsA, fun x => x.itemsC, fun x => x.items.length, fun x => strK.flat x.items, fun x a c => { x with itemsA := a, itemsC := c }, fun _ _ _ => rfl, fun _ _ _ => rfl, fun _ _ _ => rfl, fun _ _ _ => rfl, fun _ _ _ => rfl, fun _ _ _ _ _ => rfl⟩
def portN : Nest PortD := ⟨portVs, fun x => x.id, 61, 9, 1, fun x => x.itemsA, fun x => x.itemsC, fun x => x.items.length, fun x => strK.flat x.items, fun x a c => { x with itemsA := a, itemsC := c }, fun _ _ _ => rfl, fun _ _ _ => rfl, fun _ _ _ => rfl, fun _ _ _ => rfl, fun _ _ _ => rfl, fun _ _ _ _ _ => rfl⟩

/-- The lists of the things lie, below all that was made. -/
def ListsIn {α : Type} (N : Nest α) (w : World) (base : Nat) (l : List (α × Nat)) : Prop := ∀ p ∈ l, Row w (N.ad p.1) (N.flat p.1) ∧ N.len p.1 ≤ 1048576 ∧ ∀ g, N.kid p.1 = some g → g < base
theorem ListsIn.low {α : Type} {N : Nest α} {w w' : World} {base : Nat} {l : List (α × Nat)} (h : ListsIn N w base l) (hb : Below base w w') : ListsIn N w' base l := fun p hp =>
 ⟨(h p hp).1.low (fun q e => (h p hp).2.2 q.block (by simp [Nest.kid, e])) hb, (h p hp).2⟩

theorem opInfoL : (Tryz.prog.info? 134).map (fun i => (i.zero, i.size, i.bytes)) = some (some (.agg #[.int .i64 0, .int .i64 0, .int .i64 0, .string ⟨#[]⟩]), 4, 40) := by kernel_rfl
theorem strInfo : (Tryz.prog.info? 9).map (fun i => (i.zero, i.size, i.bytes)) = some (some (.string ⟨#[]⟩), 1, 16) := by kernel_rfl
theorem one_op {l : List OpD} : ∀ u ∈ opK.flat l, u.oneCell' = true := fun u hu => by
 obtain ⟨x, _, hx⟩ := List.mem_flatMap.1 hu
 simp only [opK, opVals, List.mem_cons, List.not_mem_nil, or_false] at hx
 rcases hx with rfl | rfl | rfl | rfl <;> rfl
theorem one_str {l : List ByteArray} : ∀ u ∈ strK.flat l, u.oneCell' = true := fun u hu => by
 obtain ⟨x, _, hx⟩ := List.mem_flatMap.1 hu
 simp only [strK, List.mem_cons, List.not_mem_nil, or_false] at hx
 subst hx
 rfl
theorem copy_ops (w : World) (a : Option Addr) (l : List OpD) (cap : Nat) (h : Row w a (opK.flat l)) (hl : l.length ≤ 1048576) :
  ∃ a' cap' w', (Builtin.append_ #[37, 37] 37 #[.slice none 0 0, .slice a l.length cap]).run Tryz.prog w = .ok (.slice a' l.length cap') w' ∧ w'.ownsRow w.heap.size 134 4 (.slice a' l.length cap') l.length (opK.flat l) ∧ w.grownBy w' none := by
 obtain ⟨i, hi, e⟩ := Option.map_eq_some_iff.1 opInfoL
 simp only [Prod.mk.injEq] at e
 exact append_copy w _ _ 134 i _ 4 40 Tryz.underlying37 hi e.1 e.2.1 e.2.2 rfl (by decide) a l.length cap _ h (opK.flat_length l) one_op hl (by decide)
theorem copy_strs (w : World) (a : Option Addr) (l : List ByteArray) (cap : Nat) (h : Row w a (strK.flat l)) (hl : l.length ≤ 1048576) :
  ∃ a' cap' w', (Builtin.append_ #[59, 59] 59 #[.slice none 0 0, .slice a l.length cap]).run Tryz.prog w = .ok (.slice a' l.length cap') w' ∧ w'.ownsRow w.heap.size 9 1 (.slice a' l.length cap') l.length (strK.flat l) ∧ w.grownBy w' none := by
 obtain ⟨i, hi, e⟩ := Option.map_eq_some_iff.1 strInfo
 simp only [Prod.mk.injEq] at e
 exact append_copy w _ _ 9 i _ 1 16 Tryz.underlying59 hi e.1 e.2.1 e.2.2 rfl (by decide) a l.length cap _ h (strK.flat_length l) one_str hl (by decide)

/-- What a shelf's lists end in. -/
structure Owned {α : Type} (N : Nest α) (w0 wr : World) (base b : Nat) (l l' : List (α × Nat)) : Prop where
 shelf : Shelf N.vs N.num N.T wr base b l'
 alike : l'.map (fun p => (N.set p.1 none 0, p.2)) = l.map (fun p => (N.set p.1 none 0, p.2))
 mine : ∀ p ∈ l', N.Mine wr w0.heap.size p.1
 nodup : (kids N l').Nodup
 os : wr.os = w0.os
 tape : wr.tape = w0.tape
 output : wr.output = w0.output
 size : w0.heap.size ≤ wr.heap.size
 same : ∀ g, g < w0.heap.size → g ∉ l.map (·.2) → wr.heap[g]? = w0.heap[g]?
theorem OwnIn.owned {α : Type} {N : Nest α} {w0 wr : World} {base b : Nat} {l l' : List (α × Nat)} {left : Lit → Bool} (h : OwnIn N w0 wr base b l l' left) (hd : ∀ kl, left kl = false) : Owned N w0 wr base b l l' :=
 ⟨h.shelf, h.alike, fun p hp => h.own p hp (hd _), h.nodup hd, h.os, h.tape, h.output, h.size, h.same⟩
theorem Owned.below {α : Type} {N : Nest α} {w0 wr : World} {base b : Nat} {l l' : List (α × Nat)} (h : Owned N w0 wr base b l l') (hb : base ≤ w0.heap.size) (hl : ∀ g ∈ l.map (·.2), base ≤ g) : Below base w0 wr :=
 ⟨h.os, h.tape, h.output, h.size, fun g hg => h.same g (by omega) (fun hm => by have := hl g hm; omega)⟩

/-- The three shelves whose things have lists. -/
structure Three (w : World) (base o : Nat) (q : Opn) (lp : List (ProcD × Nat)) (lf : List (BufferD × Nat)) (lq : List (PortD × Nat)) : Prop where
 opn : OpenBox w o q
 procs : Shelf procVs (fun x : ProcD => x.id) 43 w base q.bp lp
 buffers : Shelf bufferVs (fun x : BufferD => x.id) 144 w base q.bf lf
 ports : Shelf portVs (fun x : PortD => x.id) 61 w base q.bq lq
 nodup : (o :: ((q.bp :: lp.map (·.2)) ++ ((q.bf :: lf.map (·.2)) ++ (q.bq :: lq.map (·.2))))).Nodup

theorem Three.ownedProc {w w' : World} {base o : Nat} {q : Opn} {lp l' : List (ProcD × Nat)} {lf : List (BufferD × Nat)} {lq : List (PortD × Nat)} (h : Three w base o q lp lf lq) (ho : Owned procN w w' base q.bp lp l') : Three w' base o q l' lf lq := by
 have hbl : l'.map (·.2) = lp.map (·.2) := by
  have := congrArg (List.map (·.2)) ho.alike
  simp only [List.map_map, Function.comp_def] at this
  exact this
 have hn := h.nodup
 rw [List.nodup_cons, List.nodup_append] at hn
 obtain ⟨h1, h2, h3, h4⟩ := hn
 have hlp : ∀ g, g ∈ (q.bf :: lf.map (·.2)) ++ (q.bq :: lq.map (·.2)) → g ∉ lp.map (·.2) := fun g hg hm => h4 g (List.mem_cons_of_mem _ hm) g hg rfl
 refine ⟨(ho.same o (Array.getElem?_eq_some_iff.1 h.opn).1 (fun hm => h1 (by simp [List.mem_map.1 hm]))).trans h.opn, ho.shelf, h.buffers.same fun g hg => ho.same g (h.buffers.lt g hg) (hlp g (List.mem_append_left _ hg)), h.ports.same fun g hg => ho.same g (h.ports.lt g hg) (hlp g (List.mem_append_right _ hg)), ?_⟩
 rw [hbl]
 exact h.nodup
theorem Three.ownedBuffer {w w' : World} {base o : Nat} {q : Opn} {lp : List (ProcD × Nat)} {lf l' : List (BufferD × Nat)} {lq : List (PortD × Nat)} (h : Three w base o q lp lf lq) (ho : Owned bufferN w w' base q.bf lf l') : Three w' base o q lp l' lq := by
 have hbl : l'.map (·.2) = lf.map (·.2) := by
  have := congrArg (List.map (·.2)) ho.alike
  simp only [List.map_map, Function.comp_def] at this
  exact this
 have hn := h.nodup
 rw [List.nodup_cons, List.nodup_append, List.nodup_append] at hn
 obtain ⟨h1, h2, ⟨h3, h5, h6⟩, h4⟩ := hn
 refine ⟨(ho.same o (Array.getElem?_eq_some_iff.1 h.opn).1 (fun hm => h1 (by simp [List.mem_map.1 hm]))).trans h.opn, h.procs.same fun g hg => ho.same g (h.procs.lt g hg) (fun hm => h4 g hg g (List.mem_append_left _ (List.mem_cons_of_mem _ hm)) rfl), ho.shelf, h.ports.same fun g hg => ho.same g (h.ports.lt g hg) (fun hm => h6 g (List.mem_cons_of_mem _ hm) g hg rfl), ?_⟩
 rw [hbl]
 exact h.nodup

set_option maxRecDepth 100000 in
set_option maxHeartbeats 8000000 in
theorem ownLists_walk (o base : Nat) (q : Opn) (lp : List (ProcD × Nat)) (lf : List (BufferD × Nat)) (lq : List (PortD × Nat)) (w : World) (h : Three w base o q lp lf lq) (hb : base ≤ w.heap.size) (h1 : ListsIn procN w base lp) (h2 : ListsIn bufferN w base lf) (h3 : ListsIn portN w base lq) :
  Calls Tryz.prog 155 #[.pointer (some ⟨o, 0, none⟩)] w fun e w' => e = .returned (.tuple #[]) ∧ ∃ w1 w2 l0 l1 l2, Owned procN w w1 base q.bp lp l0 ∧ Owned bufferN w1 w2 base q.bf lf l1 ∧ Owned portN w2 w' base q.bq lq l2 := by
 have HT : Hid (Three w base o q lp lf lq) := h
 have HB0 : Hid (base ≤ w.heap.size) := hb
 have HBL : Hid (∀ g ∈ lp.map (·.2), base ≤ g) := fun g hg => h.procs.low g (List.mem_cons_of_mem _ hg)
 have HLP : Hid (ListsIn procN w base lp) := h1
 have HLF : Hid (ListsIn bufferN w base lf) := h2
 have HLQ : Hid (ListsIn portN w base lq) := h3
 clear h hb h1 h2 h3
 go_enter Tryz.func155, Tryz.ntmps155
 have c0 : w.cell? ⟨o, 3, none⟩ = some (.map (some q.bp)) := HT.out.opn.cell 3
 have hown := HT.out.procs.map.1
 go_wp2_with (at_range; refine wpList_range_own _ rfl _ 108 rfl 2 102 keyed64 Tryz.underlying108 ptrR q.bp _ _ rfl hown ?_; intro w1 hrg1 hg1 hs1)
 have HS : Hid (OwnIn procN w w1 base q.bp lp lp (Maps.has (mapD (keysOf procN.num lp)))) := OwnIn.start HT.out.procs hg1
 have HL0 : Hid (∀ g ∈ q.bp :: lp.map (·.2), g < w.heap.size) := HT.out.procs.lt
 clear hown c0 hg1
 go_frame
 go_loopw [3] (fun _ wr1 => ∃ (left : Lit → Bool) (cnt : Nat) (l' : List (ProcD × Nat)), wr1.ranges Tryz.prog 2 ptrR q.bp w.heap.size (keysOf (fun x : ProcD => x.id) lp).length (mapD (keysOf (fun x : ProcD => x.id) lp)) left cnt ∧ Hid (OwnIn procN w wr1 base q.bp lp l' left)) (fun _ wr1 => wr1.rangeLeft q.bp w.heap.size)
 case atStart => exact ⟨_, _, lp, hrg1, HS.out⟩
 case round =>
  rename World => wr1
  clear HS hrg1 hs1 w1
  obtain ⟨left, cnt, l0, hrg, HO⟩ := hrel
  go_wp2_with (at_next; refine wpList_next_ranges _ rfl _ rfl 2 keyed64 ptrR (Value.int .i64) ptrV (fun key kl hk => by obtain ⟨x, rfl, _⟩ := keyOf_int_inv Tryz.underlying2 hk; exact ⟨x, rfl⟩) (fun v y hv => by obtain ⟨g, rfl, _⟩ := ptrR_inv hv; exact ⟨g, rfl⟩) q.bp w.heap.size _ _ _ _ rfl hrg ?_ ?_)
  ·intro hc0 hl0
   have HD0 : Hid (Owned procN w wr1 base q.bp lp l0) := HO.out.owned hl0
   clear hrg HO hc0 hl0 HL0 left cnt
   have HTN : Hid (Three wr1 base o q l0 lf lq) := HT.out.ownedProc HD0.out
   clear HT
   have HT : Hid (Three wr1 base o q l0 lf lq) := HTN.out
   have HLI : Hid (ListsIn bufferN wr1 base lf ∧ ListsIn portN wr1 base lq) := ⟨HLF.out.low (HD0.out.below HB0.out HBL.out), HLQ.out.low (HD0.out.below HB0.out HBL.out)⟩
   have HBN : Hid (base ≤ wr1.heap.size) := Nat.le_trans HB0.out HD0.out.size
   clear HTN HB0 HBL HLP
   have HB0 : Hid (base ≤ wr1.heap.size) := HBN.out
   have HBL : Hid (∀ g ∈ lf.map (·.2), base ≤ g) := fun g hg => HT.out.buffers.low g (List.mem_cons_of_mem _ hg)
   clear HLF HLQ
   have HLF : Hid (ListsIn bufferN wr1 base lf) := HLI.out.1
   have HLQ : Hid (ListsIn portN wr1 base lq) := HLI.out.2
   clear HLI HBN
   have c1 : wr1.cell? ⟨o, 11, none⟩ = some (.map (some q.bf)) := HT.out.opn.cell 11
   have hown := HT.out.buffers.map.1
   go_wp2_with (at_range; refine wpList_range_own _ rfl _ 120 rfl 2 224 keyed64 Tryz.underlying120 ptrR q.bf _ _ rfl hown ?_; intro w1 hrg1 hg1 hs1)
   have HS : Hid (OwnIn bufferN wr1 w1 base q.bf lf lf (Maps.has (mapD (keysOf bufferN.num lf)))) := OwnIn.start HT.out.buffers hg1
   have HL1 : Hid (∀ g ∈ q.bf :: lf.map (·.2), g < wr1.heap.size) := HT.out.buffers.lt
   clear hown c1 hg1
   go_frame
   go_loopw [5] (fun _ wr2 => ∃ (left : Lit → Bool) (cnt : Nat) (l' : List (BufferD × Nat)), wr2.ranges Tryz.prog 2 ptrR q.bf wr1.heap.size (keysOf (fun x : BufferD => x.id) lf).length (mapD (keysOf (fun x : BufferD => x.id) lf)) left cnt ∧ Hid (OwnIn bufferN wr1 wr2 base q.bf lf l' left)) (fun _ wr2 => wr2.rangeLeft q.bf wr1.heap.size)
   case atStart => exact ⟨_, _, lf, hrg1, HS.out⟩
   case round =>
    rename World => wr2
    clear HS hrg1 hs1 w1
    obtain ⟨left, cnt, l1, hrg, HO⟩ := hrel
    go_wp2_with (at_next; refine wpList_next_ranges _ rfl _ rfl 2 keyed64 ptrR (Value.int .i64) ptrV (fun key kl hk => by obtain ⟨x, rfl, _⟩ := keyOf_int_inv Tryz.underlying2 hk; exact ⟨x, rfl⟩) (fun v y hv => by obtain ⟨g, rfl, _⟩ := ptrR_inv hv; exact ⟨g, rfl⟩) q.bf wr1.heap.size _ _ _ _ rfl hrg ?_ ?_)
    ·intro hc0 hl0
     have HD1 : Hid (Owned bufferN wr1 wr2 base q.bf lf l1) := HO.out.owned hl0
     clear hrg HO hc0 hl0 HL1 left cnt
     have HTN : Hid (Three wr2 base o q l0 l1 lq) := HT.out.ownedBuffer HD1.out
     clear HT
     have HT : Hid (Three wr2 base o q l0 l1 lq) := HTN.out
     have HLI : Hid (ListsIn portN wr2 base lq) := HLQ.out.low (HD1.out.below HB0.out HBL.out)
     have HBN : Hid (base ≤ wr2.heap.size) := Nat.le_trans HB0.out HD1.out.size
     clear HTN HB0 HBL HLF
     have HB0 : Hid (base ≤ wr2.heap.size) := HBN.out
     have HBL : Hid (∀ g ∈ lq.map (·.2), base ≤ g) := fun g hg => HT.out.ports.low g (List.mem_cons_of_mem _ hg)
     clear HLQ
     have HLQ : Hid (ListsIn portN wr2 base lq) := HLI.out
     clear HLI HBN
     have c2 : wr2.cell? ⟨o, 13, none⟩ = some (.map (some q.bq)) := HT.out.opn.cell 13
     have hown := HT.out.ports.map.1
     go_wp2_with (at_range; refine wpList_range_own _ rfl _ 123 rfl 2 225 keyed64 Tryz.underlying123 ptrR q.bq _ _ rfl hown ?_; intro w1 hrg1 hg1 hs1)
     have HS : Hid (OwnIn portN wr2 w1 base q.bq lq lq (Maps.has (mapD (keysOf portN.num lq)))) := OwnIn.start HT.out.ports hg1
     have HL2 : Hid (∀ g ∈ q.bq :: lq.map (·.2), g < wr2.heap.size) := HT.out.ports.lt
     clear hown c2 hg1
     go_frame
     go_loopw [7] (fun _ wr3 => ∃ (left : Lit → Bool) (cnt : Nat) (l' : List (PortD × Nat)), wr3.ranges Tryz.prog 2 ptrR q.bq wr2.heap.size (keysOf (fun x : PortD => x.id) lq).length (mapD (keysOf (fun x : PortD => x.id) lq)) left cnt ∧ Hid (OwnIn portN wr2 wr3 base q.bq lq l' left)) (fun _ wr3 => wr3.rangeLeft q.bq wr2.heap.size)
     case atStart => exact ⟨_, _, lq, hrg1, HS.out⟩
     case round =>
      rename World => wr3
      clear HS hrg1 hs1 w1
      obtain ⟨left, cnt, l2, hrg, HO⟩ := hrel
      go_wp2_with (at_next; refine wpList_next_ranges _ rfl _ rfl 2 keyed64 ptrR (Value.int .i64) ptrV (fun key kl hk => by obtain ⟨x, rfl, _⟩ := keyOf_int_inv Tryz.underlying2 hk; exact ⟨x, rfl⟩) (fun v y hv => by obtain ⟨g, rfl, _⟩ := ptrR_inv hv; exact ⟨g, rfl⟩) q.bq wr2.heap.size _ _ _ _ rfl hrg ?_ ?_)
      ·intro hc0 hl0
       have HD2 : Hid (Owned portN wr2 wr3 base q.bq lq l2) := HO.out.owned hl0
       clear hrg HO hc0 hl0 HL2 left cnt
       go_wp2
       go_end0
       exact ⟨rfl, wr1, wr2, l0, l1, l2, HD0.out, HD1.out, HD2.out⟩
      ·intro x c kl y1 y2 w2 cnt2 hkey hlk hv hat hrg2 hlt2 hgr2 hsz2 hen
       obtain ⟨p, hp, rfl, rfl, rfl⟩ := HO.out.pick hkey hv hat
       have hpl : p.2 ∈ lq.map (·.2) := by rw [← HO.out.blocks]; exact List.mem_map.2 ⟨p, hp, rfl⟩
       have hpo := HO.out.old p hp hlk
       have hpw := HL2.out p.2 (List.mem_cons_of_mem _ hpl)
       have hbox : w2.heap[p.2]? = some (.cells (portVs p.1) 61 (0, 0)) := (hgr2.block p.2 (Nat.lt_of_lt_of_le hpw HO.out.size) (fun e => by have := Option.some.inj e; omega)).trans (HO.out.shelf.box p hp)
       have hrow : Row w2 p.1.itemsA (strK.flat p.1.items) := (HLQ.out p hpo).1.same fun g e => by
        have hgb : g < base := (HLQ.out p hpo).2.2 g (by show (p.1.itemsA).map (·.block) = some g; rw [show p.1.itemsA = some ⟨g, 0, none⟩ from e]; rfl)
        have hb0 := HB0.out
        refine (hgr2.block g (by have := HO.out.size; omega) (fun e => by have := Option.some.inj e; omega)).trans (HO.out.same g (by omega) (fun hm => by have := HBL.out g hm; omega))
       obtain ⟨a3, cap3, w3, hap, hown3, hg3⟩ := copy_strs w2 p.1.itemsA p.1.items p.1.itemsC hrow (HLQ.out p hpo).2.1
       have cc : w2.cell? ⟨p.2, 4, none⟩ = some (.slice p.1.itemsA p.1.items.length p.1.itemsC) := by simp [World.cell?, hbox, portVs]
       have hbox3 := (hg3.block p.2 (Array.getElem?_eq_some_iff.1 hbox).1 (by simp)).trans hbox
       have cc3 : w3.cell? ⟨p.2, 4, none⟩ = some (.slice p.1.itemsA p.1.items.length p.1.itemsC) := by simp [World.cell?, hbox3, portVs]
       have cf3 : w3.frozen? ⟨p.2, 4, none⟩ = false := by simp [World.frozen?, hbox3]
       have HN := HO.out.turn (i := 4) hrg hgr2 hrg2 HL2.out (Nat.le_refl _) hp hown3 hg3 rfl
       have HNH : Hid (_ ∧ _) := HN
       have HLT : Hid (cnt2 < cnt ∧ wr3.rangeLeft q.bq wr2.heap.size = cnt) := ⟨hlt2, hrg.left_eq⟩
       simp only [ptrV] at hen
       clear HN hrg hrg2 hgr2 hsz2 hkey hlk hv hat hlt2 hpl hpo hpw hbox hbox3 hrow hown3 hg3
       unfold ptrV
       go_wp2_with (at_builtin; refine wpList_append_run _ rfl _ _ 59 rfl _ _ _ _ rfl rfl hap ?_; clear hap)
       go_roundw
       case rel => exact ⟨_, _, _, HNH.out.2, HNH.out.1⟩
       case measure => have h5 := HNH.out.2.left_eq; have h6 := HLT.out; rw [h6.2]; exact Nat.lt_of_le_of_lt (Nat.le_of_eq h5) h6.1
    ·intro x c kl y1 y2 w2 cnt2 hkey hlk hv hat hrg2 hlt2 hgr2 hsz2 hen
     obtain ⟨p, hp, rfl, rfl, rfl⟩ := HO.out.pick hkey hv hat
     have hpl : p.2 ∈ lf.map (·.2) := by rw [← HO.out.blocks]; exact List.mem_map.2 ⟨p, hp, rfl⟩
     have hpo := HO.out.old p hp hlk
     have hpw := HL1.out p.2 (List.mem_cons_of_mem _ hpl)
     have hbox : w2.heap[p.2]? = some (.cells (bufferVs p.1) 144 (0, 0)) := (hgr2.block p.2 (Nat.lt_of_lt_of_le hpw HO.out.size) (fun e => by have := Option.some.inj e; omega)).trans (HO.out.shelf.box p hp)
     have hrow : Row w2 p.1.itemsA (strK.flat p.1.items) := (HLF.out p hpo).1.same fun g e => by
      have hgb : g < base := (HLF.out p hpo).2.2 g (by show (p.1.itemsA).map (·.block) = some g; rw [show p.1.itemsA = some ⟨g, 0, none⟩ from e]; rfl)
      have hb0 := HB0.out
      refine (hgr2.block g (by have := HO.out.size; omega) (fun e => by have := Option.some.inj e; omega)).trans (HO.out.same g (by omega) (fun hm => by have := HBL.out g hm; omega))
     obtain ⟨a3, cap3, w3, hap, hown3, hg3⟩ := copy_strs w2 p.1.itemsA p.1.items p.1.itemsC hrow (HLF.out p hpo).2.1
     have cc : w2.cell? ⟨p.2, 2, none⟩ = some (.slice p.1.itemsA p.1.items.length p.1.itemsC) := by simp [World.cell?, hbox, bufferVs]
     have hbox3 := (hg3.block p.2 (Array.getElem?_eq_some_iff.1 hbox).1 (by simp)).trans hbox
     have cc3 : w3.cell? ⟨p.2, 2, none⟩ = some (.slice p.1.itemsA p.1.items.length p.1.itemsC) := by simp [World.cell?, hbox3, bufferVs]
     have cf3 : w3.frozen? ⟨p.2, 2, none⟩ = false := by simp [World.frozen?, hbox3]
     have HN := HO.out.turn (i := 2) hrg hgr2 hrg2 HL1.out (Nat.le_refl _) hp hown3 hg3 rfl
     have HNH : Hid (_ ∧ _) := HN
     have HLT : Hid (cnt2 < cnt ∧ wr2.rangeLeft q.bf wr1.heap.size = cnt) := ⟨hlt2, hrg.left_eq⟩
     simp only [ptrV] at hen
     clear HN hrg hrg2 hgr2 hsz2 hkey hlk hv hat hlt2 hpl hpo hpw hbox hbox3 hrow hown3 hg3
     unfold ptrV
     go_wp2_with (at_builtin; refine wpList_append_run _ rfl _ _ 59 rfl _ _ _ _ rfl rfl hap ?_; clear hap)
     go_roundw
     case rel => exact ⟨_, _, _, HNH.out.2, HNH.out.1⟩
     case measure => have h5 := HNH.out.2.left_eq; have h6 := HLT.out; rw [h6.2]; exact Nat.lt_of_le_of_lt (Nat.le_of_eq h5) h6.1
  ·intro x c kl y1 y2 w2 cnt2 hkey hlk hv hat hrg2 hlt2 hgr2 hsz2 hen
   obtain ⟨p, hp, rfl, rfl, rfl⟩ := HO.out.pick hkey hv hat
   have hpl : p.2 ∈ lp.map (·.2) := by rw [← HO.out.blocks]; exact List.mem_map.2 ⟨p, hp, rfl⟩
   have hpo := HO.out.old p hp hlk
   have hpw := HL0.out p.2 (List.mem_cons_of_mem _ hpl)
   have hbox : w2.heap[p.2]? = some (.cells (procVs p.1) 43 (0, 0)) := (hgr2.block p.2 (Nat.lt_of_lt_of_le hpw HO.out.size) (fun e => by have := Option.some.inj e; omega)).trans (HO.out.shelf.box p hp)
   have hrow : Row w2 p.1.progA (opK.flat p.1.prog) := (HLP.out p hpo).1.same fun g e => by
    have hgb : g < base := (HLP.out p hpo).2.2 g (by show (p.1.progA).map (·.block) = some g; rw [show p.1.progA = some ⟨g, 0, none⟩ from e]; rfl)
    have hb0 := HB0.out
    refine (hgr2.block g (by have := HO.out.size; omega) (fun e => by have := Option.some.inj e; omega)).trans (HO.out.same g (by omega) (fun hm => by have := HBL.out g hm; omega))
   obtain ⟨a3, cap3, w3, hap, hown3, hg3⟩ := copy_ops w2 p.1.progA p.1.prog p.1.progC hrow (HLP.out p hpo).2.1
   have cc : w2.cell? ⟨p.2, 2, none⟩ = some (.slice p.1.progA p.1.prog.length p.1.progC) := by simp [World.cell?, hbox, procVs]
   have hbox3 := (hg3.block p.2 (Array.getElem?_eq_some_iff.1 hbox).1 (by simp)).trans hbox
   have cc3 : w3.cell? ⟨p.2, 2, none⟩ = some (.slice p.1.progA p.1.prog.length p.1.progC) := by simp [World.cell?, hbox3, procVs]
   have cf3 : w3.frozen? ⟨p.2, 2, none⟩ = false := by simp [World.frozen?, hbox3]
   have HN := HO.out.turn (i := 2) hrg hgr2 hrg2 HL0.out (Nat.le_refl _) hp hown3 hg3 rfl
   have HNH : Hid (_ ∧ _) := HN
   have HLT : Hid (cnt2 < cnt ∧ wr1.rangeLeft q.bp w.heap.size = cnt) := ⟨hlt2, hrg.left_eq⟩
   simp only [ptrV] at hen
   clear HN hrg hrg2 hgr2 hsz2 hkey hlk hv hat hlt2 hpl hpo hpw hbox hbox3 hrow hown3 hg3
   unfold ptrV
   go_wp2_with (at_builtin; refine wpList_append_run _ rfl _ _ 37 rfl _ _ _ _ rfl rfl hap ?_; clear hap)
   go_roundw
   case rel => exact ⟨_, _, _, HNH.out.2, HNH.out.1⟩
   case measure => have h5 := HNH.out.2.left_eq; have h6 := HLT.out; rw [h6.2]; exact Nat.lt_of_le_of_lt (Nat.le_of_eq h5) h6.1

end Go.Proofs.YtkbcplnlehdjfaaGreat

/- The next operation in the order of the text: runs of operations in one row. -/
namespace Go.Proofs.YtkbcplnlehdjfaaGreat
open Go

section
variable {P : Program} {md : Region.Mode} {ops : Array Oper} {Q : Exit → Act → World → Prop} {S : World → Prop}
/-- The next one in the order of the text. -/
theorem ty {oi : Oper} {v : Value} {fuel : Nat} {listed : Array Bool} {a : Act} (d : Option Tmp) (hi : ops[ops.size - (fuel + 1)]? = some oi) (_hd : oi.dst = d) (hc : tmB md ops listed (ops.size - (fuel + 1)) oi d = true)
  (hQ : ∀ c a w, Q (.panic c) (a.put d v) w → Q (.panic c) a w) (hy : Does P ops S oi v a)
  (h : wpAnyD P md ops Q S fuel (listed.setIfInBounds (ops.size - (fuel + 1)) true) (a.put d v)) : wpAnyD P md ops Q S (fuel + 1) listed a := tm (ops.size - (fuel + 1)) d hi hc hQ hy h
theorem ly {L : Nat} (n : Nat) {oi : Oper} {v : Value} {fuel : Nat} {listed : Array Bool} {a : Act} (d : Option Tmp) (hi : ops[ops.size - (fuel + 1)]? = some oi) (_hd : oi.dst = d) (hc : lsB md ops listed (ops.size - (fuel + 1)) L n oi d = true)
  (hQ : ∀ c a w, Q (.panic c) (a.put d v) w → Q (.panic c) a w) (hy : Does P ops S oi v a)
  (h : wpAnyL P md ops Q S L fuel (listed.setIfInBounds (ops.size - (fuel + 1)) true) (a.put d v)) : wpAnyL P md ops Q S L (fuel + 1) listed a := ls (ops.size - (fuel + 1)) n d hi hc hQ hy h
/-- The same, its checks left to the kernel: an operation that yields, one that is passed over, a call. -/
theorem yl {oi : Oper} {v : Value} {fuel : Nat} {listed : Array Bool} {a : Act} {d : Tmp} (hy : ∀ w, S w → (execOp a.eval oi).run P w = .ok (.value v) w)
  (h : wpAnyD P md ops Q S fuel (listed.setIfInBounds (ops.size - (fuel + 1)) true) (a.put (some d) v)) (hi : ops[ops.size - (fuel + 1)]? = some oi := by rfl) (_hd : oi.dst = some d := by rfl) (hc : tmB md ops listed (ops.size - (fuel + 1)) oi (some d) = true := by kernel_rfl)
  (hQ : ∀ c a w, Q (.panic c) (a.put (some d) v) w → Q (.panic c) a w := by exact fun _ _ _ h => h) (hw : Region.wanted oi (yielded ops a.tmps) = true := by kernel_rfl) : wpAnyD P md ops Q S (fuel + 1) listed a := tm (ops.size - (fuel + 1)) (some d) hi hc hQ (does_yield hw hy) h
theorem nl {oi : Oper} {fuel : Nat} {listed : Array Bool} {a : Act} {d : Tmp}
  (h : wpAnyD P md ops Q S fuel (listed.setIfInBounds (ops.size - (fuel + 1)) true) (a.put (some d) undef)) (hi : ops[ops.size - (fuel + 1)]? = some oi := by rfl) (_hd : oi.dst = some d := by rfl) (hc : tmB md ops listed (ops.size - (fuel + 1)) oi (some d) = true := by kernel_rfl)
  (hQ : ∀ c a w, Q (.panic c) (a.put (some d) undef) w → Q (.panic c) a w := by exact fun _ _ _ h => h) (hw : Region.wanted oi (yielded ops a.tmps) = false := by kernel_rfl) : wpAnyD P md ops Q S (fuel + 1) listed a := tm (ops.size - (fuel + 1)) (some d) hi hc hQ (does_skip hw) h
theorem cl (v : Value) (f : FuncId) (args : Array Value) {oi : Oper} {fuel : Nat} {listed : Array Bool} {a : Act} {d : Tmp} (hy : ∀ w, S w → (execOp a.eval oi).run P w = .ok (.enter f args) w) (hf : ∀ w, S w → Calls P f args w (fun e w' => e = .returned v ∧ S w'))
  (h : wpAnyD P md ops Q S fuel (listed.setIfInBounds (ops.size - (fuel + 1)) true) (a.put (some d) v)) (hi : ops[ops.size - (fuel + 1)]? = some oi := by rfl) (_hd : oi.dst = some d := by rfl) (hc : tmB md ops listed (ops.size - (fuel + 1)) oi (some d) = true := by kernel_rfl)
  (hQ : ∀ c a w, Q (.panic c) (a.put (some d) v) w → Q (.panic c) a w := by exact fun _ _ _ h => h) (hw : Region.wanted oi (yielded ops a.tmps) = true := by kernel_rfl) : wpAnyD P md ops Q S (fuel + 1) listed a := tm (ops.size - (fuel + 1)) (some d) hi hc hQ (does_call hw hy hf) h
end

end Go.Proofs.YtkbcplnlehdjfaaGreat

/- Whether there is what a process waits for: what the programme answers. (Made by mkhas.py.) -/
namespace Go.Proofs.YtkbcplnlehdjfaaGreat
open Go.RowKit
attribute [local go_sem ↓] Go.wp_at_zero Go.wp_at_succ

theorem hasS3_of {w w' : World} {o X : Nat} {q : Opn} {x : ProcD} {ms me mb mf : MapL} (h : HasIn w w' o X q x ms me mb mf) : (w'.cell? ⟨o, 4, none⟩ = some (.int .i64 5) ∧ w'.cell? ⟨o, 5, none⟩ = some (.map (some q.bs)) ∧ w'.cell? ⟨X, 7, none⟩ = some (.int .i64 x.on)) ∧ Hid (HasIn w w' o X q x ms me mb mf) :=
 ⟨⟨h.opn.cell 4, h.opn.cell 5, (proc_cells h.box).2.2.2.2.2.2.2.1⟩, h⟩
set_option maxRecDepth 100000 in
set_option maxHeartbeats 2000000 in
theorem hasWait_3 (o X : Nat) (q : Opn) (x : ProcD) (ms me mb mf : MapL) (w : World) (h : HasIn w w o X q x ms me mb mf) (hw : (Lit.int .i64 x.on).wf = true) (hs : x.state = 3) :
  Calls Tryz.prog 203 #[.pointer (some ⟨o, 0, none⟩), .pointer (some ⟨X, 0, none⟩)] w fun e w' => e = .returned (.bool (waitK ms me mb mf x)) ∧ Below w.heap.size w w' := by
 have H : Hid (HasIn w w o X q x ms me mb mf) := h
 have HW : Hid ((Lit.int .i64 x.on).wf = true) := hw
 have HV : Hid (waitK ms me mb mf x = (lookM ms x.on).isSome) := by show waitK ms me mb mf x = _; simp [waitK, hs]
 have k3 : w.cell? ⟨X, 3, none⟩ = some (.int .i64 3) := by rw [(proc_cells h.box).2.2.2.1, hs]
 clear h hw hs
 go_enter Tryz.func203, Tryz.ntmps203
 go_wp2_with fail
 clear k3
 refine tame_region (fun w' => (w'.cell? ⟨o, 4, none⟩ = some (.int .i64 5) ∧ w'.cell? ⟨o, 5, none⟩ = some (.map (some q.bs)) ∧ w'.cell? ⟨X, 7, none⟩ = some (.int .i64 x.on)) ∧ Hid (HasIn w w' o X q x ms me mb mf)) (by kernel_rfl) (hasS3_of H.out.drew) ?_
 iterate 8 (refine yl (v := ?_) ?_ ?_; rotate_left; (intro w0 hS0; obtain ⟨⟨q0, q1, q2⟩, hH⟩ := hS0; go_simp; try with_reducible rfl); simp only [pt, sb, s0, s1])
 refine cl (.bool (lookM ms x.on).isSome) 175 #[.agg #[.int .i64 5, .map (some q.bs)], .int .i64 x.on] ?_ ?_ ?_
 ·intro w0 hS0
  obtain ⟨⟨q0, q1, q2⟩, hH⟩ := hS0
  go_simp
  try with_reducible rfl
 ·intro w0 hS0
  refine (hasSem_any 5 q.bs ms x.on w0 hS0.2.out.ms HW.out).mono ?_
  rintro e w2 ⟨rfl, hb2⟩
  exact ⟨rfl, hasS3_of (hS0.2.out.below hb2)⟩
 simp only [pt, sb, s0, s1]
 (refine yl (v := ?_) ?_ ?_; rotate_left; (intro w0 hS0; obtain ⟨⟨q0, q1, q2⟩, hH⟩ := hS0; go_simp; try with_reducible rfl); simp only [pt, sb, s0, s1])
 refine tame_done (by kernel_rfl) ?_ _
 intro w1 hS1
 go_wp2
 go_ret
 exact ⟨ret_bool HV.out.symm, hS1.2.out.bel⟩
theorem hasS4_of {w w' : World} {o X : Nat} {q : Opn} {x : ProcD} {ms me mb mf : MapL} (h : HasIn w w' o X q x ms me mb mf) : (w'.cell? ⟨o, 6, none⟩ = some (.int .i64 5) ∧ w'.cell? ⟨o, 7, none⟩ = some (.map (some q.be)) ∧ w'.cell? ⟨X, 7, none⟩ = some (.int .i64 x.on)) ∧ Hid (HasIn w w' o X q x ms me mb mf) :=
 ⟨⟨h.opn.cell 6, h.opn.cell 7, (proc_cells h.box).2.2.2.2.2.2.2.1⟩, h⟩
set_option maxRecDepth 100000 in
set_option maxHeartbeats 2000000 in
theorem hasWait_4 (o X : Nat) (q : Opn) (x : ProcD) (ms me mb mf : MapL) (w : World) (h : HasIn w w o X q x ms me mb mf) (hw : (Lit.int .i64 x.on).wf = true) (hs : x.state = 4) :
  Calls Tryz.prog 203 #[.pointer (some ⟨o, 0, none⟩), .pointer (some ⟨X, 0, none⟩)] w fun e w' => e = .returned (.bool (waitK ms me mb mf x)) ∧ Below w.heap.size w w' := by
 have H : Hid (HasIn w w o X q x ms me mb mf) := h
 have HW : Hid ((Lit.int .i64 x.on).wf = true) := hw
 have HV : Hid (waitK ms me mb mf x = (lookM me x.on).isSome) := by show waitK ms me mb mf x = _; simp [waitK, hs]
 have k3 : w.cell? ⟨X, 3, none⟩ = some (.int .i64 4) := by rw [(proc_cells h.box).2.2.2.1, hs]
 clear h hw hs
 go_enter Tryz.func203, Tryz.ntmps203
 go_wp2_with fail
 clear k3
 refine tame_region (fun w' => (w'.cell? ⟨o, 6, none⟩ = some (.int .i64 5) ∧ w'.cell? ⟨o, 7, none⟩ = some (.map (some q.be)) ∧ w'.cell? ⟨X, 7, none⟩ = some (.int .i64 x.on)) ∧ Hid (HasIn w w' o X q x ms me mb mf)) (by kernel_rfl) (hasS4_of H.out.drew) ?_
 iterate 8 (refine yl (v := ?_) ?_ ?_; rotate_left; (intro w0 hS0; obtain ⟨⟨q0, q1, q2⟩, hH⟩ := hS0; go_simp; try with_reducible rfl); simp only [pt, sb, s0, s1])
 refine cl (.bool (lookM me x.on).isSome) 176 #[.agg #[.int .i64 5, .map (some q.be)], .int .i64 x.on] ?_ ?_ ?_
 ·intro w0 hS0
  obtain ⟨⟨q0, q1, q2⟩, hH⟩ := hS0
  go_simp
  try with_reducible rfl
 ·intro w0 hS0
  refine (hasEvent_any 5 q.be me x.on w0 hS0.2.out.me HW.out).mono ?_
  rintro e w2 ⟨rfl, hb2⟩
  exact ⟨rfl, hasS4_of (hS0.2.out.below hb2)⟩
 simp only [pt, sb, s0, s1]
 (refine yl (v := ?_) ?_ ?_; rotate_left; (intro w0 hS0; obtain ⟨⟨q0, q1, q2⟩, hH⟩ := hS0; go_simp; try with_reducible rfl); simp only [pt, sb, s0, s1])
 refine tame_done (by kernel_rfl) ?_ _
 intro w1 hS1
 go_wp2
 go_ret
 exact ⟨ret_bool HV.out.symm, hS1.2.out.bel⟩
theorem hasS5_of {w w' : World} {o X : Nat} {q : Opn} {x : ProcD} {ms me mb mf : MapL} (h : HasIn w w' o X q x ms me mb mf) : (w'.cell? ⟨o, 10, none⟩ = some (.int .i64 5) ∧ w'.cell? ⟨o, 11, none⟩ = some (.map (some q.bf)) ∧ w'.cell? ⟨X, 7, none⟩ = some (.int .i64 x.on)) ∧ Hid (HasIn w w' o X q x ms me mb mf) :=
 ⟨⟨h.opn.cell 10, h.opn.cell 11, (proc_cells h.box).2.2.2.2.2.2.2.1⟩, h⟩
set_option maxRecDepth 100000 in
set_option maxHeartbeats 2000000 in
theorem hasWait_5 (o X : Nat) (q : Opn) (x : ProcD) (ms me mb mf : MapL) (w : World) (h : HasIn w w o X q x ms me mb mf) (hw : (Lit.int .i64 x.on).wf = true) (hs : x.state = 5) :
  Calls Tryz.prog 203 #[.pointer (some ⟨o, 0, none⟩), .pointer (some ⟨X, 0, none⟩)] w fun e w' => e = .returned (.bool (waitK ms me mb mf x)) ∧ Below w.heap.size w w' := by
 have H : Hid (HasIn w w o X q x ms me mb mf) := h
 have HW : Hid ((Lit.int .i64 x.on).wf = true) := hw
 have HV : Hid (waitK ms me mb mf x = (lookM mf x.on).isSome) := by show waitK ms me mb mf x = _; simp [waitK, hs]
 have k3 : w.cell? ⟨X, 3, none⟩ = some (.int .i64 5) := by rw [(proc_cells h.box).2.2.2.1, hs]
 clear h hw hs
 go_enter Tryz.func203, Tryz.ntmps203
 go_wp2_with fail
 clear k3
 refine tame_region (fun w' => (w'.cell? ⟨o, 10, none⟩ = some (.int .i64 5) ∧ w'.cell? ⟨o, 11, none⟩ = some (.map (some q.bf)) ∧ w'.cell? ⟨X, 7, none⟩ = some (.int .i64 x.on)) ∧ Hid (HasIn w w' o X q x ms me mb mf)) (by kernel_rfl) (hasS5_of H.out.drew) ?_
 iterate 8 (refine yl (v := ?_) ?_ ?_; rotate_left; (intro w0 hS0; obtain ⟨⟨q0, q1, q2⟩, hH⟩ := hS0; go_simp; try with_reducible rfl); simp only [pt, sb, s0, s1])
 refine cl (.bool (lookM mf x.on).isSome) 178 #[.agg #[.int .i64 5, .map (some q.bf)], .int .i64 x.on] ?_ ?_ ?_
 ·intro w0 hS0
  obtain ⟨⟨q0, q1, q2⟩, hH⟩ := hS0
  go_simp
  try with_reducible rfl
 ·intro w0 hS0
  refine (hasBuffer_any 5 q.bf mf x.on w0 hS0.2.out.mf HW.out).mono ?_
  rintro e w2 ⟨rfl, hb2⟩
  exact ⟨rfl, hasS5_of (hS0.2.out.below hb2)⟩
 simp only [pt, sb, s0, s1]
 (refine yl (v := ?_) ?_ ?_; rotate_left; (intro w0 hS0; obtain ⟨⟨q0, q1, q2⟩, hH⟩ := hS0; go_simp; try with_reducible rfl); simp only [pt, sb, s0, s1])
 refine tame_done (by kernel_rfl) ?_ _
 intro w1 hS1
 go_wp2
 go_ret
 exact ⟨ret_bool HV.out.symm, hS1.2.out.bel⟩
theorem hasS6_of {w w' : World} {o X : Nat} {q : Opn} {x : ProcD} {ms me mb mf : MapL} (h : HasIn w w' o X q x ms me mb mf) : (w'.cell? ⟨o, 10, none⟩ = some (.int .i64 5) ∧ w'.cell? ⟨o, 11, none⟩ = some (.map (some q.bf)) ∧ w'.cell? ⟨X, 7, none⟩ = some (.int .i64 x.on)) ∧ Hid (HasIn w w' o X q x ms me mb mf) :=
 ⟨⟨h.opn.cell 10, h.opn.cell 11, (proc_cells h.box).2.2.2.2.2.2.2.1⟩, h⟩
set_option maxRecDepth 100000 in
set_option maxHeartbeats 2000000 in
theorem hasWait_6 (o X : Nat) (q : Opn) (x : ProcD) (ms me mb mf : MapL) (w : World) (h : HasIn w w o X q x ms me mb mf) (hw : (Lit.int .i64 x.on).wf = true) (hs : x.state = 6) :
  Calls Tryz.prog 203 #[.pointer (some ⟨o, 0, none⟩), .pointer (some ⟨X, 0, none⟩)] w fun e w' => e = .returned (.bool (waitK ms me mb mf x)) ∧ Below w.heap.size w w' := by
 have H : Hid (HasIn w w o X q x ms me mb mf) := h
 have HW : Hid ((Lit.int .i64 x.on).wf = true) := hw
 have HV : Hid (waitK ms me mb mf x = (lookM mf x.on).isSome) := by show waitK ms me mb mf x = _; simp [waitK, hs]
 have k3 : w.cell? ⟨X, 3, none⟩ = some (.int .i64 6) := by rw [(proc_cells h.box).2.2.2.1, hs]
 clear h hw hs
 go_enter Tryz.func203, Tryz.ntmps203
 go_wp2_with fail
 clear k3
 refine tame_region (fun w' => (w'.cell? ⟨o, 10, none⟩ = some (.int .i64 5) ∧ w'.cell? ⟨o, 11, none⟩ = some (.map (some q.bf)) ∧ w'.cell? ⟨X, 7, none⟩ = some (.int .i64 x.on)) ∧ Hid (HasIn w w' o X q x ms me mb mf)) (by kernel_rfl) (hasS6_of H.out.drew) ?_
 iterate 8 (refine yl (v := ?_) ?_ ?_; rotate_left; (intro w0 hS0; obtain ⟨⟨q0, q1, q2⟩, hH⟩ := hS0; go_simp; try with_reducible rfl); simp only [pt, sb, s0, s1])
 refine cl (.bool (lookM mf x.on).isSome) 178 #[.agg #[.int .i64 5, .map (some q.bf)], .int .i64 x.on] ?_ ?_ ?_
 ·intro w0 hS0
  obtain ⟨⟨q0, q1, q2⟩, hH⟩ := hS0
  go_simp
  try with_reducible rfl
 ·intro w0 hS0
  refine (hasBuffer_any 5 q.bf mf x.on w0 hS0.2.out.mf HW.out).mono ?_
  rintro e w2 ⟨rfl, hb2⟩
  exact ⟨rfl, hasS6_of (hS0.2.out.below hb2)⟩
 simp only [pt, sb, s0, s1]
 (refine yl (v := ?_) ?_ ?_; rotate_left; (intro w0 hS0; obtain ⟨⟨q0, q1, q2⟩, hH⟩ := hS0; go_simp; try with_reducible rfl); simp only [pt, sb, s0, s1])
 refine tame_done (by kernel_rfl) ?_ _
 intro w1 hS1
 go_wp2
 go_ret
 exact ⟨ret_bool HV.out.symm, hS1.2.out.bel⟩
theorem hasS7_of {w w' : World} {o X : Nat} {q : Opn} {x : ProcD} {ms me mb mf : MapL} (h : HasIn w w' o X q x ms me mb mf) : (w'.cell? ⟨o, 8, none⟩ = some (.int .i64 5) ∧ w'.cell? ⟨o, 9, none⟩ = some (.map (some q.bb)) ∧ w'.cell? ⟨X, 7, none⟩ = some (.int .i64 x.on)) ∧ Hid (HasIn w w' o X q x ms me mb mf) :=
 ⟨⟨h.opn.cell 8, h.opn.cell 9, (proc_cells h.box).2.2.2.2.2.2.2.1⟩, h⟩
set_option maxRecDepth 100000 in
set_option maxHeartbeats 2000000 in
theorem hasWait_7 (o X : Nat) (q : Opn) (x : ProcD) (ms me mb mf : MapL) (w : World) (h : HasIn w w o X q x ms me mb mf) (hw : (Lit.int .i64 x.on).wf = true) (hs : x.state = 7) :
  Calls Tryz.prog 203 #[.pointer (some ⟨o, 0, none⟩), .pointer (some ⟨X, 0, none⟩)] w fun e w' => e = .returned (.bool (waitK ms me mb mf x)) ∧ Below w.heap.size w w' := by
 have H : Hid (HasIn w w o X q x ms me mb mf) := h
 have HW : Hid ((Lit.int .i64 x.on).wf = true) := hw
 have HV : Hid (waitK ms me mb mf x = (lookM mb x.on).isSome) := by show waitK ms me mb mf x = _; simp [waitK, hs]
 have k3 : w.cell? ⟨X, 3, none⟩ = some (.int .i64 7) := by rw [(proc_cells h.box).2.2.2.1, hs]
 clear h hw hs
 go_enter Tryz.func203, Tryz.ntmps203
 go_wp2_with fail
 clear k3
 refine tame_region (fun w' => (w'.cell? ⟨o, 8, none⟩ = some (.int .i64 5) ∧ w'.cell? ⟨o, 9, none⟩ = some (.map (some q.bb)) ∧ w'.cell? ⟨X, 7, none⟩ = some (.int .i64 x.on)) ∧ Hid (HasIn w w' o X q x ms me mb mf)) (by kernel_rfl) (hasS7_of H.out.drew) ?_
 iterate 8 (refine yl (v := ?_) ?_ ?_; rotate_left; (intro w0 hS0; obtain ⟨⟨q0, q1, q2⟩, hH⟩ := hS0; go_simp; try with_reducible rfl); simp only [pt, sb, s0, s1])
 refine cl (.bool (lookM mb x.on).isSome) 177 #[.agg #[.int .i64 5, .map (some q.bb)], .int .i64 x.on] ?_ ?_ ?_
 ·intro w0 hS0
  obtain ⟨⟨q0, q1, q2⟩, hH⟩ := hS0
  go_simp
  try with_reducible rfl
 ·intro w0 hS0
  refine (hasBoard_any 5 q.bb mb x.on w0 hS0.2.out.mb HW.out).mono ?_
  rintro e w2 ⟨rfl, hb2⟩
  exact ⟨rfl, hasS7_of (hS0.2.out.below hb2)⟩
 simp only [pt, sb, s0, s1]
 (refine yl (v := ?_) ?_ ?_; rotate_left; (intro w0 hS0; obtain ⟨⟨q0, q1, q2⟩, hH⟩ := hS0; go_simp; try with_reducible rfl); simp only [pt, sb, s0, s1])
 refine tame_done (by kernel_rfl) ?_ _
 intro w1 hS1
 go_wp2
 go_ret
 exact ⟨ret_bool HV.out.symm, hS1.2.out.bel⟩

set_option maxHeartbeats 2000000 in
theorem hasWait_none (o X : Nat) (q : Opn) (x : ProcD) (ms me mb mf : MapL) (w : World) (h : HasIn w w o X q x ms me mb mf) (h3 : ¬ x.state = 3) (h4 : ¬ x.state = 4) (h5 : ¬ x.state = 5) (h6 : ¬ x.state = 6) (h7 : ¬ x.state = 7) :
  Calls Tryz.prog 203 #[.pointer (some ⟨o, 0, none⟩), .pointer (some ⟨X, 0, none⟩)] w fun e w' => e = .returned (.bool (waitK ms me mb mf x)) ∧ Below w.heap.size w w' := by
 have HV : Hid (waitK ms me mb mf x = true) := by show waitK ms me mb mf x = true; simp [waitK, h3, h4, h5, h6, h7]
 have k3 := (proc_cells h.box).2.2.2.1
 have s3 : (x.state == 3) = false := by simp [h3]
 have s4 : (x.state == 4) = false := by simp [h4]
 have s5 : (x.state == 5) = false := by simp [h5]
 have s6 : (x.state == 6) = false := by simp [h6]
 have s7 : (x.state == 7) = false := by simp [h7]
 clear h h3 h4 h5 h6 h7
 go_enter Tryz.func203, Tryz.ntmps203
 go_wp2
 go_ret
 exact ⟨ret_bool HV.out.symm, Below.refl _ _⟩
theorem hasWait_any (o X : Nat) (q : Opn) (x : ProcD) (ms me mb mf : MapL) (w : World) (h : HasIn w w o X q x ms me mb mf) (hw : (Lit.int .i64 x.on).wf = true) :
  Calls Tryz.prog 203 #[.pointer (some ⟨o, 0, none⟩), .pointer (some ⟨X, 0, none⟩)] w fun e w' => e = .returned (.bool (waitK ms me mb mf x)) ∧ Below w.heap.size w w' := by
 by_cases h3 : x.state = 3
 ·exact hasWait_3 o X q x ms me mb mf w h hw h3
 by_cases h4 : x.state = 4
 ·exact hasWait_4 o X q x ms me mb mf w h hw h4
 by_cases h5 : x.state = 5
 ·exact hasWait_5 o X q x ms me mb mf w h hw h5
 by_cases h6 : x.state = 6
 ·exact hasWait_6 o X q x ms me mb mf w h hw h6
 by_cases h7 : x.state = 7
 ·exact hasWait_7 o X q x ms me mb mf w h hw h7
 exact hasWait_none o X q x ms me mb mf w h h3 h4 h5 h6 h7

end Go.Proofs.YtkbcplnlehdjfaaGreat

/- The state of a process: what stateOk answers. (Made by mkstate.py.) -/
namespace Go.Proofs.YtkbcplnlehdjfaaGreat
open Go.RowKit

/-- What stateOk walks through: the process in its box. -/
structure StIn (w W : World) (x : ProcD) : Prop where
  box : W.heap[w.heap.size]? = some (.cells (procVs x) 43 (0, 0))
  fit : ProcFit W x
  bel : Below w.heap.size w W
theorem StIn.below {w W W' : World} {x : ProcD} (h : StIn w W x) (hb : Below W.heap.size W W') : StIn w W' x :=
  ⟨(hb.block _ (Array.getElem?_eq_some_iff.1 h.box).1).trans h.box, h.fit.below hb, h.bel.trans (hb.mono h.bel.size)⟩
theorem StIn.start {w : World} {x : ProcD} (h : ProcFit w x) : StIn w (w.alloc (.cells (procVs x) 43)) x := by
  have b1 : Below w.heap.size w (w.alloc (.cells (procVs x) 43)) := (Below.refl _ _).alloc (Nat.le_refl _) _
  exact ⟨heap_alloc_new _ _, h.below b1, b1⟩
theorem emptyB_yes {s : ByteArray} (h : s.toList = []) : emptyB s = true := by simp [emptyB, h]
theorem emptyB_no {s : ByteArray} (h : ¬ s.toList = []) : emptyB s = false := by simp [emptyB, h]

set_option maxRecDepth 100000 in
set_option maxHeartbeats 4000000 in
theorem stateOk_s0 (x : ProcD) (w : World) (hf : ProcFit w x) (hs : x.state = 0) : Calls Tryz.prog 286 #[.agg (procVs x)] w fun e w' => e = .returned (.bool (stateB x.toProcP)) ∧ Below w.heap.size w w' := by
  obtain ⟨⟨id, prio, prog, state, pc, left, wake, on, held, got, code, since⟩, progA, progC⟩ := x
  simp only at hs
  subst hs
  have HI : Hid (StIn w (w.alloc (.cells (procVs (⟨⟨id, prio, prog, 0, pc, left, wake, on, held, got, code, since⟩, progA, progC⟩ : ProcD)) 43)) (⟨⟨id, prio, prog, 0, pc, left, wake, on, held, got, code, since⟩, progA, progC⟩ : ProcD)) := StIn.start hf
  have HE : Hid (stateB (⟨id, prio, prog, 0, pc, left, wake, on, held, got, code, since⟩ : ProcP) = (decide (pc = 0) && decide (left = 0) && decide (wake = 0) && decide (on = 0) && decide (since = 0) && emptyB held)) := by show stateB _ = _; simp [stateB]
  clear hf
  unfold procVs at *
  by_cases h0 : pc = 0
  rotate_left
  · have HV : Hid (stateB (⟨id, prio, prog, 0, pc, left, wake, on, held, got, code, since⟩ : ProcP) = false) := by show stateB _ = false; rw [HE.out]; simp [h0]
    have h0' : (pc == 0) = false := by simp [h0]
    clear h0 HE
    obtain ⟨c0, c1, c2, c3, c4, c5, c6, c7, c8, c9, c10, c11⟩ := proc_cells HI.out.box
    unfold procVs at *
    go_enter Tryz.func286, Tryz.ntmps286
    go_wp2
    go_ret
    exact ⟨ret_bool (by rw [HV.out]), HI.out.bel⟩
  subst h0
  by_cases h1 : left = 0
  rotate_left
  · have HV : Hid (stateB (⟨id, prio, prog, 0, 0, left, wake, on, held, got, code, since⟩ : ProcP) = false) := by show stateB _ = false; rw [HE.out]; simp [h1]
    have h1' : (left == 0) = false := by simp [h1]
    clear h1 HE
    obtain ⟨c0, c1, c2, c3, c4, c5, c6, c7, c8, c9, c10, c11⟩ := proc_cells HI.out.box
    unfold procVs at *
    go_enter Tryz.func286, Tryz.ntmps286
    go_wp2
    go_ret
    exact ⟨ret_bool (by rw [HV.out]), HI.out.bel⟩
  subst h1
  by_cases h2 : wake = 0
  rotate_left
  · have HV : Hid (stateB (⟨id, prio, prog, 0, 0, 0, wake, on, held, got, code, since⟩ : ProcP) = false) := by show stateB _ = false; rw [HE.out]; simp [h2]
    have h2' : (wake == 0) = false := by simp [h2]
    clear h2 HE
    obtain ⟨c0, c1, c2, c3, c4, c5, c6, c7, c8, c9, c10, c11⟩ := proc_cells HI.out.box
    unfold procVs at *
    go_enter Tryz.func286, Tryz.ntmps286
    go_wp2
    go_ret
    exact ⟨ret_bool (by rw [HV.out]), HI.out.bel⟩
  subst h2
  by_cases h3 : on = 0
  rotate_left
  · have HV : Hid (stateB (⟨id, prio, prog, 0, 0, 0, 0, on, held, got, code, since⟩ : ProcP) = false) := by show stateB _ = false; rw [HE.out]; simp [h3]
    have h3' : (on == 0) = false := by simp [h3]
    clear h3 HE
    obtain ⟨c0, c1, c2, c3, c4, c5, c6, c7, c8, c9, c10, c11⟩ := proc_cells HI.out.box
    unfold procVs at *
    go_enter Tryz.func286, Tryz.ntmps286
    go_wp2
    go_ret
    exact ⟨ret_bool (by rw [HV.out]), HI.out.bel⟩
  subst h3
  by_cases h4 : since = 0
  rotate_left
  · have HV : Hid (stateB (⟨id, prio, prog, 0, 0, 0, 0, 0, held, got, code, since⟩ : ProcP) = false) := by show stateB _ = false; rw [HE.out]; simp [h4]
    have h4' : (since == 0) = false := by simp [h4]
    clear h4 HE
    obtain ⟨c0, c1, c2, c3, c4, c5, c6, c7, c8, c9, c10, c11⟩ := proc_cells HI.out.box
    unfold procVs at *
    go_enter Tryz.func286, Tryz.ntmps286
    go_wp2
    go_ret
    exact ⟨ret_bool (by rw [HV.out]), HI.out.bel⟩
  subst h4
  by_cases h5 : held.toList = []
  rotate_left
  · have HV : Hid (stateB (⟨id, prio, prog, 0, 0, 0, 0, 0, held, got, code, 0⟩ : ProcP) = false) := by show stateB _ = false; rw [HE.out]; simp [emptyB_no h5]
    have h5' : ¬ [] = held.toList := fun h => h5 h.symm
    clear HE
    obtain ⟨c0, c1, c2, c3, c4, c5, c6, c7, c8, c9, c10, c11⟩ := proc_cells HI.out.box
    unfold procVs at *
    go_enter Tryz.func286, Tryz.ntmps286
    go_wp2
    go_ret
    exact ⟨ret_bool (by rw [HV.out]; simp [h5]), HI.out.bel⟩
  have HV : Hid (stateB (⟨id, prio, prog, 0, 0, 0, 0, 0, held, got, code, 0⟩ : ProcP) = true) := by show stateB _ = true; rw [HE.out]; simp [emptyB_yes h5]
  obtain ⟨c0, c1, c2, c3, c4, c5, c6, c7, c8, c9, c10, c11⟩ := proc_cells HI.out.box
  unfold procVs at *
  clear HE
  go_enter Tryz.func286, Tryz.ntmps286
  go_wp2
  go_ret
  exact ⟨ret_bool (by rw [HV.out]), HI.out.bel⟩

set_option maxRecDepth 100000 in
set_option maxHeartbeats 4000000 in
theorem stateOk_s1 (x : ProcD) (w : World) (hf : ProcFit w x) (hs : x.state = 1) : Calls Tryz.prog 286 #[.agg (procVs x)] w fun e w' => e = .returned (.bool (stateB x.toProcP)) ∧ Below w.heap.size w w' := by
  obtain ⟨⟨id, prio, prog, state, pc, left, wake, on, held, got, code, since⟩, progA, progC⟩ := x
  simp only at hs
  subst hs
  have HI : Hid (StIn w (w.alloc (.cells (procVs (⟨⟨id, prio, prog, 1, pc, left, wake, on, held, got, code, since⟩, progA, progC⟩ : ProcD)) 43)) (⟨⟨id, prio, prog, 1, pc, left, wake, on, held, got, code, since⟩, progA, progC⟩ : ProcD)) := StIn.start hf
  have HE : Hid (stateB (⟨id, prio, prog, 1, pc, left, wake, on, held, got, code, since⟩ : ProcP) = (hasOpB (⟨id, prio, prog, 1, pc, left, wake, on, held, got, code, since⟩ : ProcP) && leftB (⟨id, prio, prog, 1, pc, left, wake, on, held, got, code, since⟩ : ProcP) && decide (wake = 0) && decide (on = 0) && emptyB held)) := by show stateB _ = _; simp [stateB]
  clear hf
  unfold procVs at *
  cases h0 : hasOpB (⟨id, prio, prog, 1, pc, left, wake, on, held, got, code, since⟩ : ProcP)
  · have HV : Hid (stateB (⟨id, prio, prog, 1, pc, left, wake, on, held, got, code, since⟩ : ProcP) = false) := by show stateB _ = false; rw [HE.out]; simp [h0]
    have HOP : Hid (hasOpB (⟨id, prio, prog, 1, pc, left, wake, on, held, got, code, since⟩ : ProcP) = false) := h0
    clear h0 HE
    obtain ⟨c0, c1, c2, c3, c4, c5, c6, c7, c8, c9, c10, c11⟩ := proc_cells HI.out.box
    unfold procVs at *
    go_enter Tryz.func286, Tryz.ntmps286
    go_wp2_with (first
          | (go_at_call 229
             refine (hasOp_any (⟨⟨id, prio, prog, 1, pc, left, wake, on, held, got, code, since⟩, progA, progC⟩ : ProcD) _ HI.out.fit.1.prog).mono ?_
             rintro e w1 ⟨rfl, hb1⟩
             have HI : Hid (StIn w w1 (⟨⟨id, prio, prog, 1, pc, left, wake, on, held, got, code, since⟩, progA, progC⟩ : ProcD)) := HI.out.below hb1
             obtain ⟨c0, c1, c2, c3, c4, c5, c6, c7, c8, c9, c10, c11⟩ := proc_cells HI.out.box
             clear hb1
             rw [HOP.out]))
    go_ret
    exact ⟨ret_bool (by rw [HV.out]), HI.out.bel⟩
  have HOP : Hid (hasOpB (⟨id, prio, prog, 1, pc, left, wake, on, held, got, code, since⟩ : ProcP) = true) := h0
  clear h0
  cases h1 : leftB (⟨id, prio, prog, 1, pc, left, wake, on, held, got, code, since⟩ : ProcP)
  · have HV : Hid (stateB (⟨id, prio, prog, 1, pc, left, wake, on, held, got, code, since⟩ : ProcP) = false) := by show stateB _ = false; rw [HE.out]; simp [h1]
    have HLF : Hid (leftB (⟨id, prio, prog, 1, pc, left, wake, on, held, got, code, since⟩ : ProcP) = false) := h1
    clear h1 HE
    obtain ⟨c0, c1, c2, c3, c4, c5, c6, c7, c8, c9, c10, c11⟩ := proc_cells HI.out.box
    unfold procVs at *
    go_enter Tryz.func286, Tryz.ntmps286
    go_wp2_with (first
          | (go_at_call 229
             refine (hasOp_any (⟨⟨id, prio, prog, 1, pc, left, wake, on, held, got, code, since⟩, progA, progC⟩ : ProcD) _ HI.out.fit.1.prog).mono ?_
             rintro e w1 ⟨rfl, hb1⟩
             have HI : Hid (StIn w w1 (⟨⟨id, prio, prog, 1, pc, left, wake, on, held, got, code, since⟩, progA, progC⟩ : ProcD)) := HI.out.below hb1
             obtain ⟨c0, c1, c2, c3, c4, c5, c6, c7, c8, c9, c10, c11⟩ := proc_cells HI.out.box
             clear hb1
             rw [HOP.out])
          | (go_at_call 288
             refine (leftOk_any (⟨⟨id, prio, prog, 1, pc, left, wake, on, held, got, code, since⟩, progA, progC⟩ : ProcD) _ HI.out.fit HOP.out).mono ?_
             rintro e w1 ⟨rfl, hb1⟩
             have HI : Hid (StIn w w1 (⟨⟨id, prio, prog, 1, pc, left, wake, on, held, got, code, since⟩, progA, progC⟩ : ProcD)) := HI.out.below hb1
             obtain ⟨c0, c1, c2, c3, c4, c5, c6, c7, c8, c9, c10, c11⟩ := proc_cells HI.out.box
             clear hb1
             rw [HLF.out]))
    go_ret
    exact ⟨ret_bool (by rw [HV.out]), HI.out.bel⟩
  have HLF : Hid (leftB (⟨id, prio, prog, 1, pc, left, wake, on, held, got, code, since⟩ : ProcP) = true) := h1
  clear h1
  by_cases h2 : wake = 0
  rotate_left
  · have HV : Hid (stateB (⟨id, prio, prog, 1, pc, left, wake, on, held, got, code, since⟩ : ProcP) = false) := by show stateB _ = false; rw [HE.out]; simp [h2]
    have h2' : (wake == 0) = false := by simp [h2]
    clear h2 HE
    obtain ⟨c0, c1, c2, c3, c4, c5, c6, c7, c8, c9, c10, c11⟩ := proc_cells HI.out.box
    unfold procVs at *
    go_enter Tryz.func286, Tryz.ntmps286
    go_wp2_with (first
          | (go_at_call 229
             refine (hasOp_any (⟨⟨id, prio, prog, 1, pc, left, wake, on, held, got, code, since⟩, progA, progC⟩ : ProcD) _ HI.out.fit.1.prog).mono ?_
             rintro e w1 ⟨rfl, hb1⟩
             have HI : Hid (StIn w w1 (⟨⟨id, prio, prog, 1, pc, left, wake, on, held, got, code, since⟩, progA, progC⟩ : ProcD)) := HI.out.below hb1
             obtain ⟨c0, c1, c2, c3, c4, c5, c6, c7, c8, c9, c10, c11⟩ := proc_cells HI.out.box
             clear hb1
             rw [HOP.out])
          | (go_at_call 288
             refine (leftOk_any (⟨⟨id, prio, prog, 1, pc, left, wake, on, held, got, code, since⟩, progA, progC⟩ : ProcD) _ HI.out.fit HOP.out).mono ?_
             rintro e w1 ⟨rfl, hb1⟩
             have HI : Hid (StIn w w1 (⟨⟨id, prio, prog, 1, pc, left, wake, on, held, got, code, since⟩, progA, progC⟩ : ProcD)) := HI.out.below hb1
             obtain ⟨c0, c1, c2, c3, c4, c5, c6, c7, c8, c9, c10, c11⟩ := proc_cells HI.out.box
             clear hb1
             rw [HLF.out]))
    go_ret
    exact ⟨ret_bool (by rw [HV.out]), HI.out.bel⟩
  subst h2
  by_cases h3 : on = 0
  rotate_left
  · have HV : Hid (stateB (⟨id, prio, prog, 1, pc, left, 0, on, held, got, code, since⟩ : ProcP) = false) := by show stateB _ = false; rw [HE.out]; simp [h3]
    have h3' : (on == 0) = false := by simp [h3]
    clear h3 HE
    obtain ⟨c0, c1, c2, c3, c4, c5, c6, c7, c8, c9, c10, c11⟩ := proc_cells HI.out.box
    unfold procVs at *
    go_enter Tryz.func286, Tryz.ntmps286
    go_wp2_with (first
          | (go_at_call 229
             refine (hasOp_any (⟨⟨id, prio, prog, 1, pc, left, 0, on, held, got, code, since⟩, progA, progC⟩ : ProcD) _ HI.out.fit.1.prog).mono ?_
             rintro e w1 ⟨rfl, hb1⟩
             have HI : Hid (StIn w w1 (⟨⟨id, prio, prog, 1, pc, left, 0, on, held, got, code, since⟩, progA, progC⟩ : ProcD)) := HI.out.below hb1
             obtain ⟨c0, c1, c2, c3, c4, c5, c6, c7, c8, c9, c10, c11⟩ := proc_cells HI.out.box
             clear hb1
             rw [HOP.out])
          | (go_at_call 288
             refine (leftOk_any (⟨⟨id, prio, prog, 1, pc, left, 0, on, held, got, code, since⟩, progA, progC⟩ : ProcD) _ HI.out.fit HOP.out).mono ?_
             rintro e w1 ⟨rfl, hb1⟩
             have HI : Hid (StIn w w1 (⟨⟨id, prio, prog, 1, pc, left, 0, on, held, got, code, since⟩, progA, progC⟩ : ProcD)) := HI.out.below hb1
             obtain ⟨c0, c1, c2, c3, c4, c5, c6, c7, c8, c9, c10, c11⟩ := proc_cells HI.out.box
             clear hb1
             rw [HLF.out]))
    go_ret
    exact ⟨ret_bool (by rw [HV.out]), HI.out.bel⟩
  subst h3
  by_cases h4 : held.toList = []
  rotate_left
  · have HV : Hid (stateB (⟨id, prio, prog, 1, pc, left, 0, 0, held, got, code, since⟩ : ProcP) = false) := by show stateB _ = false; rw [HE.out]; simp [emptyB_no h4]
    have h4' : ¬ [] = held.toList := fun h => h4 h.symm
    clear HE
    obtain ⟨c0, c1, c2, c3, c4, c5, c6, c7, c8, c9, c10, c11⟩ := proc_cells HI.out.box
    unfold procVs at *
    go_enter Tryz.func286, Tryz.ntmps286
    go_wp2_with (first
          | (go_at_call 229
             refine (hasOp_any (⟨⟨id, prio, prog, 1, pc, left, 0, 0, held, got, code, since⟩, progA, progC⟩ : ProcD) _ HI.out.fit.1.prog).mono ?_
             rintro e w1 ⟨rfl, hb1⟩
             have HI : Hid (StIn w w1 (⟨⟨id, prio, prog, 1, pc, left, 0, 0, held, got, code, since⟩, progA, progC⟩ : ProcD)) := HI.out.below hb1
             obtain ⟨c0, c1, c2, c3, c4, c5, c6, c7, c8, c9, c10, c11⟩ := proc_cells HI.out.box
             clear hb1
             rw [HOP.out])
          | (go_at_call 288
             refine (leftOk_any (⟨⟨id, prio, prog, 1, pc, left, 0, 0, held, got, code, since⟩, progA, progC⟩ : ProcD) _ HI.out.fit HOP.out).mono ?_
             rintro e w1 ⟨rfl, hb1⟩
             have HI : Hid (StIn w w1 (⟨⟨id, prio, prog, 1, pc, left, 0, 0, held, got, code, since⟩, progA, progC⟩ : ProcD)) := HI.out.below hb1
             obtain ⟨c0, c1, c2, c3, c4, c5, c6, c7, c8, c9, c10, c11⟩ := proc_cells HI.out.box
             clear hb1
             rw [HLF.out]))
    go_ret
    exact ⟨ret_bool (by rw [HV.out]; simp [h4]), HI.out.bel⟩
  have HV : Hid (stateB (⟨id, prio, prog, 1, pc, left, 0, 0, held, got, code, since⟩ : ProcP) = true) := by show stateB _ = true; rw [HE.out]; simp [HOP.out, HLF.out, emptyB_yes h4]
  obtain ⟨c0, c1, c2, c3, c4, c5, c6, c7, c8, c9, c10, c11⟩ := proc_cells HI.out.box
  unfold procVs at *
  clear HE
  go_enter Tryz.func286, Tryz.ntmps286
  go_wp2_with (first
        | (go_at_call 229
           refine (hasOp_any (⟨⟨id, prio, prog, 1, pc, left, 0, 0, held, got, code, since⟩, progA, progC⟩ : ProcD) _ HI.out.fit.1.prog).mono ?_
           rintro e w1 ⟨rfl, hb1⟩
           have HI : Hid (StIn w w1 (⟨⟨id, prio, prog, 1, pc, left, 0, 0, held, got, code, since⟩, progA, progC⟩ : ProcD)) := HI.out.below hb1
           obtain ⟨c0, c1, c2, c3, c4, c5, c6, c7, c8, c9, c10, c11⟩ := proc_cells HI.out.box
           clear hb1
           rw [HOP.out])
        | (go_at_call 288
           refine (leftOk_any (⟨⟨id, prio, prog, 1, pc, left, 0, 0, held, got, code, since⟩, progA, progC⟩ : ProcD) _ HI.out.fit HOP.out).mono ?_
           rintro e w1 ⟨rfl, hb1⟩
           have HI : Hid (StIn w w1 (⟨⟨id, prio, prog, 1, pc, left, 0, 0, held, got, code, since⟩, progA, progC⟩ : ProcD)) := HI.out.below hb1
           obtain ⟨c0, c1, c2, c3, c4, c5, c6, c7, c8, c9, c10, c11⟩ := proc_cells HI.out.box
           clear hb1
           rw [HLF.out]))
  go_ret
  exact ⟨ret_bool (by rw [HV.out]), HI.out.bel⟩

set_option maxRecDepth 100000 in
set_option maxHeartbeats 4000000 in
theorem stateOk_s2 (x : ProcD) (w : World) (hf : ProcFit w x) (hs : x.state = 2) : Calls Tryz.prog 286 #[.agg (procVs x)] w fun e w' => e = .returned (.bool (stateB x.toProcP)) ∧ Below w.heap.size w w' := by
  obtain ⟨⟨id, prio, prog, state, pc, left, wake, on, held, got, code, since⟩, progA, progC⟩ := x
  simp only at hs
  subst hs
  have HI : Hid (StIn w (w.alloc (.cells (procVs (⟨⟨id, prio, prog, 2, pc, left, wake, on, held, got, code, since⟩, progA, progC⟩ : ProcD)) 43)) (⟨⟨id, prio, prog, 2, pc, left, wake, on, held, got, code, since⟩, progA, progC⟩ : ProcD)) := StIn.start hf
  have HE : Hid (stateB (⟨id, prio, prog, 2, pc, left, wake, on, held, got, code, since⟩ : ProcP) = (hasOpB (⟨id, prio, prog, 2, pc, left, wake, on, held, got, code, since⟩ : ProcP) && decide (left = 0) && inB wake 1 2000000000 && decide (on = 0) && emptyB held)) := by show stateB _ = _; simp [stateB]
  clear hf
  unfold procVs at *
  cases h0 : hasOpB (⟨id, prio, prog, 2, pc, left, wake, on, held, got, code, since⟩ : ProcP)
  · have HV : Hid (stateB (⟨id, prio, prog, 2, pc, left, wake, on, held, got, code, since⟩ : ProcP) = false) := by show stateB _ = false; rw [HE.out]; simp [h0]
    have HOP : Hid (hasOpB (⟨id, prio, prog, 2, pc, left, wake, on, held, got, code, since⟩ : ProcP) = false) := h0
    clear h0 HE
    obtain ⟨c0, c1, c2, c3, c4, c5, c6, c7, c8, c9, c10, c11⟩ := proc_cells HI.out.box
    unfold procVs at *
    go_enter Tryz.func286, Tryz.ntmps286
    go_wp2_with (first
          | (go_at_call 229
             refine (hasOp_any (⟨⟨id, prio, prog, 2, pc, left, wake, on, held, got, code, since⟩, progA, progC⟩ : ProcD) _ HI.out.fit.1.prog).mono ?_
             rintro e w1 ⟨rfl, hb1⟩
             have HI : Hid (StIn w w1 (⟨⟨id, prio, prog, 2, pc, left, wake, on, held, got, code, since⟩, progA, progC⟩ : ProcD)) := HI.out.below hb1
             obtain ⟨c0, c1, c2, c3, c4, c5, c6, c7, c8, c9, c10, c11⟩ := proc_cells HI.out.box
             clear hb1
             rw [HOP.out]))
    go_ret
    exact ⟨ret_bool (by rw [HV.out]), HI.out.bel⟩
  have HOP : Hid (hasOpB (⟨id, prio, prog, 2, pc, left, wake, on, held, got, code, since⟩ : ProcP) = true) := h0
  clear h0
  by_cases h1 : left = 0
  rotate_left
  · have HV : Hid (stateB (⟨id, prio, prog, 2, pc, left, wake, on, held, got, code, since⟩ : ProcP) = false) := by show stateB _ = false; rw [HE.out]; simp [h1]
    have h1' : (left == 0) = false := by simp [h1]
    clear h1 HE
    obtain ⟨c0, c1, c2, c3, c4, c5, c6, c7, c8, c9, c10, c11⟩ := proc_cells HI.out.box
    unfold procVs at *
    go_enter Tryz.func286, Tryz.ntmps286
    go_wp2_with (first
          | (go_at_call 229
             refine (hasOp_any (⟨⟨id, prio, prog, 2, pc, left, wake, on, held, got, code, since⟩, progA, progC⟩ : ProcD) _ HI.out.fit.1.prog).mono ?_
             rintro e w1 ⟨rfl, hb1⟩
             have HI : Hid (StIn w w1 (⟨⟨id, prio, prog, 2, pc, left, wake, on, held, got, code, since⟩, progA, progC⟩ : ProcD)) := HI.out.below hb1
             obtain ⟨c0, c1, c2, c3, c4, c5, c6, c7, c8, c9, c10, c11⟩ := proc_cells HI.out.box
             clear hb1
             rw [HOP.out]))
    go_ret
    exact ⟨ret_bool (by rw [HV.out]), HI.out.bel⟩
  subst h1
  cases h2 : inB wake 1 2000000000
  · have HV : Hid (stateB (⟨id, prio, prog, 2, pc, 0, wake, on, held, got, code, since⟩ : ProcP) = false) := by show stateB _ = false; rw [HE.out]; simp [h2]
    have HWK : Hid (inB wake 1 2000000000 = false) := h2
    clear h2 HE
    obtain ⟨c0, c1, c2, c3, c4, c5, c6, c7, c8, c9, c10, c11⟩ := proc_cells HI.out.box
    unfold procVs at *
    go_enter Tryz.func286, Tryz.ntmps286
    go_wp2_with (first
          | (go_at_call 229
             refine (hasOp_any (⟨⟨id, prio, prog, 2, pc, 0, wake, on, held, got, code, since⟩, progA, progC⟩ : ProcD) _ HI.out.fit.1.prog).mono ?_
             rintro e w1 ⟨rfl, hb1⟩
             have HI : Hid (StIn w w1 (⟨⟨id, prio, prog, 2, pc, 0, wake, on, held, got, code, since⟩, progA, progC⟩ : ProcD)) := HI.out.below hb1
             obtain ⟨c0, c1, c2, c3, c4, c5, c6, c7, c8, c9, c10, c11⟩ := proc_cells HI.out.box
             clear hb1
             rw [HOP.out])
          | (go_at_call 289
             refine (isWake_any wake _).mono ?_
             rintro e w1 ⟨rfl, hw1⟩
             rw [HWK.out, hw1]
             clear hw1 w1))
    go_ret
    exact ⟨ret_bool (by rw [HV.out]), HI.out.bel⟩
  have HWK : Hid (inB wake 1 2000000000 = true) := h2
  clear h2
  by_cases h3 : on = 0
  rotate_left
  · have HV : Hid (stateB (⟨id, prio, prog, 2, pc, 0, wake, on, held, got, code, since⟩ : ProcP) = false) := by show stateB _ = false; rw [HE.out]; simp [h3]
    have h3' : (on == 0) = false := by simp [h3]
    clear h3 HE
    obtain ⟨c0, c1, c2, c3, c4, c5, c6, c7, c8, c9, c10, c11⟩ := proc_cells HI.out.box
    unfold procVs at *
    go_enter Tryz.func286, Tryz.ntmps286
    go_wp2_with (first
          | (go_at_call 229
             refine (hasOp_any (⟨⟨id, prio, prog, 2, pc, 0, wake, on, held, got, code, since⟩, progA, progC⟩ : ProcD) _ HI.out.fit.1.prog).mono ?_
             rintro e w1 ⟨rfl, hb1⟩
             have HI : Hid (StIn w w1 (⟨⟨id, prio, prog, 2, pc, 0, wake, on, held, got, code, since⟩, progA, progC⟩ : ProcD)) := HI.out.below hb1
             obtain ⟨c0, c1, c2, c3, c4, c5, c6, c7, c8, c9, c10, c11⟩ := proc_cells HI.out.box
             clear hb1
             rw [HOP.out])
          | (go_at_call 289
             refine (isWake_any wake _).mono ?_
             rintro e w1 ⟨rfl, hw1⟩
             rw [HWK.out, hw1]
             clear hw1 w1))
    go_ret
    exact ⟨ret_bool (by rw [HV.out]), HI.out.bel⟩
  subst h3
  by_cases h4 : held.toList = []
  rotate_left
  · have HV : Hid (stateB (⟨id, prio, prog, 2, pc, 0, wake, 0, held, got, code, since⟩ : ProcP) = false) := by show stateB _ = false; rw [HE.out]; simp [emptyB_no h4]
    have h4' : ¬ [] = held.toList := fun h => h4 h.symm
    clear HE
    obtain ⟨c0, c1, c2, c3, c4, c5, c6, c7, c8, c9, c10, c11⟩ := proc_cells HI.out.box
    unfold procVs at *
    go_enter Tryz.func286, Tryz.ntmps286
    go_wp2_with (first
          | (go_at_call 229
             refine (hasOp_any (⟨⟨id, prio, prog, 2, pc, 0, wake, 0, held, got, code, since⟩, progA, progC⟩ : ProcD) _ HI.out.fit.1.prog).mono ?_
             rintro e w1 ⟨rfl, hb1⟩
             have HI : Hid (StIn w w1 (⟨⟨id, prio, prog, 2, pc, 0, wake, 0, held, got, code, since⟩, progA, progC⟩ : ProcD)) := HI.out.below hb1
             obtain ⟨c0, c1, c2, c3, c4, c5, c6, c7, c8, c9, c10, c11⟩ := proc_cells HI.out.box
             clear hb1
             rw [HOP.out])
          | (go_at_call 289
             refine (isWake_any wake _).mono ?_
             rintro e w1 ⟨rfl, hw1⟩
             rw [HWK.out, hw1]
             clear hw1 w1))
    go_ret
    exact ⟨ret_bool (by rw [HV.out]; simp [h4]), HI.out.bel⟩
  have HV : Hid (stateB (⟨id, prio, prog, 2, pc, 0, wake, 0, held, got, code, since⟩ : ProcP) = true) := by show stateB _ = true; rw [HE.out]; simp [HOP.out, HWK.out, emptyB_yes h4]
  obtain ⟨c0, c1, c2, c3, c4, c5, c6, c7, c8, c9, c10, c11⟩ := proc_cells HI.out.box
  unfold procVs at *
  clear HE
  go_enter Tryz.func286, Tryz.ntmps286
  go_wp2_with (first
        | (go_at_call 229
           refine (hasOp_any (⟨⟨id, prio, prog, 2, pc, 0, wake, 0, held, got, code, since⟩, progA, progC⟩ : ProcD) _ HI.out.fit.1.prog).mono ?_
           rintro e w1 ⟨rfl, hb1⟩
           have HI : Hid (StIn w w1 (⟨⟨id, prio, prog, 2, pc, 0, wake, 0, held, got, code, since⟩, progA, progC⟩ : ProcD)) := HI.out.below hb1
           obtain ⟨c0, c1, c2, c3, c4, c5, c6, c7, c8, c9, c10, c11⟩ := proc_cells HI.out.box
           clear hb1
           rw [HOP.out])
        | (go_at_call 289
           refine (isWake_any wake _).mono ?_
           rintro e w1 ⟨rfl, hw1⟩
           rw [HWK.out, hw1]
           clear hw1 w1))
  go_ret
  exact ⟨ret_bool (by rw [HV.out]), HI.out.bel⟩

set_option maxRecDepth 100000 in
set_option maxHeartbeats 4000000 in
theorem stateOk_s5T (x : ProcD) (w : World) (hf : ProcFit w x) (hs : x.state = 5) (hw : inB x.wake 1 2000000000 = true) : Calls Tryz.prog 286 #[.agg (procVs x)] w fun e w' => e = .returned (.bool (stateB x.toProcP)) ∧ Below w.heap.size w w' := by
  obtain ⟨⟨id, prio, prog, state, pc, left, wake, on, held, got, code, since⟩, progA, progC⟩ := x
  simp only at hs hw
  subst hs
  have HI : Hid (StIn w (w.alloc (.cells (procVs (⟨⟨id, prio, prog, 5, pc, left, wake, on, held, got, code, since⟩, progA, progC⟩ : ProcD)) 43)) (⟨⟨id, prio, prog, 5, pc, left, wake, on, held, got, code, since⟩, progA, progC⟩ : ProcD)) := StIn.start hf
  have HE : Hid (stateB (⟨id, prio, prog, 5, pc, left, wake, on, held, got, code, since⟩ : ProcP) = (hasOpB (⟨id, prio, prog, 5, pc, left, wake, on, held, got, code, since⟩ : ProcP) && decide (left = 0) && wakeB wake)) := by show stateB _ = _; simp [stateB]
  clear hf
  unfold procVs at *
  have HW0 : Hid (inB wake 1 2000000000 = true) := hw
  clear hw
  cases h0 : hasOpB (⟨id, prio, prog, 5, pc, left, wake, on, held, got, code, since⟩ : ProcP)
  · have HV : Hid (stateB (⟨id, prio, prog, 5, pc, left, wake, on, held, got, code, since⟩ : ProcP) = false) := by show stateB _ = false; rw [HE.out]; simp [h0]
    have HOP : Hid (hasOpB (⟨id, prio, prog, 5, pc, left, wake, on, held, got, code, since⟩ : ProcP) = false) := h0
    clear h0 HE
    obtain ⟨c0, c1, c2, c3, c4, c5, c6, c7, c8, c9, c10, c11⟩ := proc_cells HI.out.box
    unfold procVs at *
    go_enter Tryz.func286, Tryz.ntmps286
    go_wp2_with (first
          | (go_at_call 229
             refine (hasOp_any (⟨⟨id, prio, prog, 5, pc, left, wake, on, held, got, code, since⟩, progA, progC⟩ : ProcD) _ HI.out.fit.1.prog).mono ?_
             rintro e w1 ⟨rfl, hb1⟩
             have HI : Hid (StIn w w1 (⟨⟨id, prio, prog, 5, pc, left, wake, on, held, got, code, since⟩, progA, progC⟩ : ProcD)) := HI.out.below hb1
             obtain ⟨c0, c1, c2, c3, c4, c5, c6, c7, c8, c9, c10, c11⟩ := proc_cells HI.out.box
             clear hb1
             rw [HOP.out]))
    go_ret
    exact ⟨ret_bool (by rw [HV.out]), HI.out.bel⟩
  have HOP : Hid (hasOpB (⟨id, prio, prog, 5, pc, left, wake, on, held, got, code, since⟩ : ProcP) = true) := h0
  clear h0
  by_cases h1 : left = 0
  rotate_left
  · have HV : Hid (stateB (⟨id, prio, prog, 5, pc, left, wake, on, held, got, code, since⟩ : ProcP) = false) := by show stateB _ = false; rw [HE.out]; simp [h1]
    have h1' : (left == 0) = false := by simp [h1]
    clear h1 HE
    obtain ⟨c0, c1, c2, c3, c4, c5, c6, c7, c8, c9, c10, c11⟩ := proc_cells HI.out.box
    unfold procVs at *
    go_enter Tryz.func286, Tryz.ntmps286
    go_wp2_with (first
          | (go_at_call 229
             refine (hasOp_any (⟨⟨id, prio, prog, 5, pc, left, wake, on, held, got, code, since⟩, progA, progC⟩ : ProcD) _ HI.out.fit.1.prog).mono ?_
             rintro e w1 ⟨rfl, hb1⟩
             have HI : Hid (StIn w w1 (⟨⟨id, prio, prog, 5, pc, left, wake, on, held, got, code, since⟩, progA, progC⟩ : ProcD)) := HI.out.below hb1
             obtain ⟨c0, c1, c2, c3, c4, c5, c6, c7, c8, c9, c10, c11⟩ := proc_cells HI.out.box
             clear hb1
             rw [HOP.out]))
    go_ret
    exact ⟨ret_bool (by rw [HV.out]), HI.out.bel⟩
  subst h1
  have HWK : Hid (inB wake 1 2000000000 = true) := HW0.out
  have HWB : Hid (wakeB wake = true) := by show wakeB wake = true; simp [wakeB, HW0.out]
  have HV : Hid (stateB (⟨id, prio, prog, 5, pc, 0, wake, on, held, got, code, since⟩ : ProcP) = true) := by show stateB _ = true; rw [HE.out]; simp [HOP.out, HWB.out]
  obtain ⟨c0, c1, c2, c3, c4, c5, c6, c7, c8, c9, c10, c11⟩ := proc_cells HI.out.box
  unfold procVs at *
  clear HE
  go_enter Tryz.func286, Tryz.ntmps286
  go_wp2_with (first
        | (go_at_call 229
           refine (hasOp_any (⟨⟨id, prio, prog, 5, pc, 0, wake, on, held, got, code, since⟩, progA, progC⟩ : ProcD) _ HI.out.fit.1.prog).mono ?_
           rintro e w1 ⟨rfl, hb1⟩
           have HI : Hid (StIn w w1 (⟨⟨id, prio, prog, 5, pc, 0, wake, on, held, got, code, since⟩, progA, progC⟩ : ProcD)) := HI.out.below hb1
           obtain ⟨c0, c1, c2, c3, c4, c5, c6, c7, c8, c9, c10, c11⟩ := proc_cells HI.out.box
           clear hb1
           rw [HOP.out])
        | (go_at_call 289
           refine (isWake_any wake _).mono ?_
           rintro e w1 ⟨rfl, hw1⟩
           rw [HWK.out, hw1]
           clear hw1 w1))
  go_ret
  exact ⟨ret_bool (by rw [HV.out]), HI.out.bel⟩

set_option maxRecDepth 100000 in
set_option maxHeartbeats 4000000 in
theorem stateOk_s5M (x : ProcD) (w : World) (hf : ProcFit w x) (hs : x.state = 5) (hw : inB x.wake 1 2000000000 = false) (hm : x.wake = -1) : Calls Tryz.prog 286 #[.agg (procVs x)] w fun e w' => e = .returned (.bool (stateB x.toProcP)) ∧ Below w.heap.size w w' := by
  obtain ⟨⟨id, prio, prog, state, pc, left, wake, on, held, got, code, since⟩, progA, progC⟩ := x
  simp only at hs hw hm
  subst hs
  have HI : Hid (StIn w (w.alloc (.cells (procVs (⟨⟨id, prio, prog, 5, pc, left, wake, on, held, got, code, since⟩, progA, progC⟩ : ProcD)) 43)) (⟨⟨id, prio, prog, 5, pc, left, wake, on, held, got, code, since⟩, progA, progC⟩ : ProcD)) := StIn.start hf
  have HE : Hid (stateB (⟨id, prio, prog, 5, pc, left, wake, on, held, got, code, since⟩ : ProcP) = (hasOpB (⟨id, prio, prog, 5, pc, left, wake, on, held, got, code, since⟩ : ProcP) && decide (left = 0) && wakeB wake)) := by show stateB _ = _; simp [stateB]
  clear hf
  unfold procVs at *
  have HW0 : Hid (inB wake 1 2000000000 = false) := hw
  have HM0 : Hid (wake = -1) := hm
  clear hw hm
  cases h0 : hasOpB (⟨id, prio, prog, 5, pc, left, wake, on, held, got, code, since⟩ : ProcP)
  · have HV : Hid (stateB (⟨id, prio, prog, 5, pc, left, wake, on, held, got, code, since⟩ : ProcP) = false) := by show stateB _ = false; rw [HE.out]; simp [h0]
    have HOP : Hid (hasOpB (⟨id, prio, prog, 5, pc, left, wake, on, held, got, code, since⟩ : ProcP) = false) := h0
    clear h0 HE
    obtain ⟨c0, c1, c2, c3, c4, c5, c6, c7, c8, c9, c10, c11⟩ := proc_cells HI.out.box
    unfold procVs at *
    go_enter Tryz.func286, Tryz.ntmps286
    go_wp2_with (first
          | (go_at_call 229
             refine (hasOp_any (⟨⟨id, prio, prog, 5, pc, left, wake, on, held, got, code, since⟩, progA, progC⟩ : ProcD) _ HI.out.fit.1.prog).mono ?_
             rintro e w1 ⟨rfl, hb1⟩
             have HI : Hid (StIn w w1 (⟨⟨id, prio, prog, 5, pc, left, wake, on, held, got, code, since⟩, progA, progC⟩ : ProcD)) := HI.out.below hb1
             obtain ⟨c0, c1, c2, c3, c4, c5, c6, c7, c8, c9, c10, c11⟩ := proc_cells HI.out.box
             clear hb1
             rw [HOP.out]))
    go_ret
    exact ⟨ret_bool (by rw [HV.out]), HI.out.bel⟩
  have HOP : Hid (hasOpB (⟨id, prio, prog, 5, pc, left, wake, on, held, got, code, since⟩ : ProcP) = true) := h0
  clear h0
  by_cases h1 : left = 0
  rotate_left
  · have HV : Hid (stateB (⟨id, prio, prog, 5, pc, left, wake, on, held, got, code, since⟩ : ProcP) = false) := by show stateB _ = false; rw [HE.out]; simp [h1]
    have h1' : (left == 0) = false := by simp [h1]
    clear h1 HE
    obtain ⟨c0, c1, c2, c3, c4, c5, c6, c7, c8, c9, c10, c11⟩ := proc_cells HI.out.box
    unfold procVs at *
    go_enter Tryz.func286, Tryz.ntmps286
    go_wp2_with (first
          | (go_at_call 229
             refine (hasOp_any (⟨⟨id, prio, prog, 5, pc, left, wake, on, held, got, code, since⟩, progA, progC⟩ : ProcD) _ HI.out.fit.1.prog).mono ?_
             rintro e w1 ⟨rfl, hb1⟩
             have HI : Hid (StIn w w1 (⟨⟨id, prio, prog, 5, pc, left, wake, on, held, got, code, since⟩, progA, progC⟩ : ProcD)) := HI.out.below hb1
             obtain ⟨c0, c1, c2, c3, c4, c5, c6, c7, c8, c9, c10, c11⟩ := proc_cells HI.out.box
             clear hb1
             rw [HOP.out]))
    go_ret
    exact ⟨ret_bool (by rw [HV.out]), HI.out.bel⟩
  subst h1
  have HWK : Hid (inB wake 1 2000000000 = false) := HW0.out
  have HM : Hid ((wake == -1) = true) := by show (wake == -1) = true; simp [HM0.out]
  have HWB : Hid (wakeB wake = true) := by show wakeB wake = true; simp [wakeB, HM0.out]
  have HV : Hid (stateB (⟨id, prio, prog, 5, pc, 0, wake, on, held, got, code, since⟩ : ProcP) = true) := by show stateB _ = true; rw [HE.out]; simp [HOP.out, HWB.out]
  obtain ⟨c0, c1, c2, c3, c4, c5, c6, c7, c8, c9, c10, c11⟩ := proc_cells HI.out.box
  unfold procVs at *
  clear HE
  go_enter Tryz.func286, Tryz.ntmps286
  go_wp2_with (first
        | (go_at_call 229
           refine (hasOp_any (⟨⟨id, prio, prog, 5, pc, 0, wake, on, held, got, code, since⟩, progA, progC⟩ : ProcD) _ HI.out.fit.1.prog).mono ?_
           rintro e w1 ⟨rfl, hb1⟩
           have HI : Hid (StIn w w1 (⟨⟨id, prio, prog, 5, pc, 0, wake, on, held, got, code, since⟩, progA, progC⟩ : ProcD)) := HI.out.below hb1
           obtain ⟨c0, c1, c2, c3, c4, c5, c6, c7, c8, c9, c10, c11⟩ := proc_cells HI.out.box
           clear hb1
           rw [HOP.out])
        | (go_at_call 289
           refine (isWake_any wake _).mono ?_
           rintro e w1 ⟨rfl, hw1⟩
           rw [HWK.out, hw1]
           have hm2 : (wake == -1) = true := HM.out
           clear hw1 w1))
  go_ret
  exact ⟨ret_bool (by rw [HV.out]), HI.out.bel⟩

set_option maxRecDepth 100000 in
set_option maxHeartbeats 4000000 in
theorem stateOk_s5F (x : ProcD) (w : World) (hf : ProcFit w x) (hs : x.state = 5) (hw : inB x.wake 1 2000000000 = false) (hm : ¬ x.wake = -1) : Calls Tryz.prog 286 #[.agg (procVs x)] w fun e w' => e = .returned (.bool (stateB x.toProcP)) ∧ Below w.heap.size w w' := by
  obtain ⟨⟨id, prio, prog, state, pc, left, wake, on, held, got, code, since⟩, progA, progC⟩ := x
  simp only at hs hw hm
  subst hs
  have HI : Hid (StIn w (w.alloc (.cells (procVs (⟨⟨id, prio, prog, 5, pc, left, wake, on, held, got, code, since⟩, progA, progC⟩ : ProcD)) 43)) (⟨⟨id, prio, prog, 5, pc, left, wake, on, held, got, code, since⟩, progA, progC⟩ : ProcD)) := StIn.start hf
  have HE : Hid (stateB (⟨id, prio, prog, 5, pc, left, wake, on, held, got, code, since⟩ : ProcP) = (hasOpB (⟨id, prio, prog, 5, pc, left, wake, on, held, got, code, since⟩ : ProcP) && decide (left = 0) && wakeB wake)) := by show stateB _ = _; simp [stateB]
  clear hf
  unfold procVs at *
  have HW0 : Hid (inB wake 1 2000000000 = false) := hw
  have HM0 : Hid (¬ wake = -1) := hm
  clear hw hm
  cases h0 : hasOpB (⟨id, prio, prog, 5, pc, left, wake, on, held, got, code, since⟩ : ProcP)
  · have HV : Hid (stateB (⟨id, prio, prog, 5, pc, left, wake, on, held, got, code, since⟩ : ProcP) = false) := by show stateB _ = false; rw [HE.out]; simp [h0]
    have HOP : Hid (hasOpB (⟨id, prio, prog, 5, pc, left, wake, on, held, got, code, since⟩ : ProcP) = false) := h0
    clear h0 HE
    obtain ⟨c0, c1, c2, c3, c4, c5, c6, c7, c8, c9, c10, c11⟩ := proc_cells HI.out.box
    unfold procVs at *
    go_enter Tryz.func286, Tryz.ntmps286
    go_wp2_with (first
          | (go_at_call 229
             refine (hasOp_any (⟨⟨id, prio, prog, 5, pc, left, wake, on, held, got, code, since⟩, progA, progC⟩ : ProcD) _ HI.out.fit.1.prog).mono ?_
             rintro e w1 ⟨rfl, hb1⟩
             have HI : Hid (StIn w w1 (⟨⟨id, prio, prog, 5, pc, left, wake, on, held, got, code, since⟩, progA, progC⟩ : ProcD)) := HI.out.below hb1
             obtain ⟨c0, c1, c2, c3, c4, c5, c6, c7, c8, c9, c10, c11⟩ := proc_cells HI.out.box
             clear hb1
             rw [HOP.out]))
    go_ret
    exact ⟨ret_bool (by rw [HV.out]), HI.out.bel⟩
  have HOP : Hid (hasOpB (⟨id, prio, prog, 5, pc, left, wake, on, held, got, code, since⟩ : ProcP) = true) := h0
  clear h0
  by_cases h1 : left = 0
  rotate_left
  · have HV : Hid (stateB (⟨id, prio, prog, 5, pc, left, wake, on, held, got, code, since⟩ : ProcP) = false) := by show stateB _ = false; rw [HE.out]; simp [h1]
    have h1' : (left == 0) = false := by simp [h1]
    clear h1 HE
    obtain ⟨c0, c1, c2, c3, c4, c5, c6, c7, c8, c9, c10, c11⟩ := proc_cells HI.out.box
    unfold procVs at *
    go_enter Tryz.func286, Tryz.ntmps286
    go_wp2_with (first
          | (go_at_call 229
             refine (hasOp_any (⟨⟨id, prio, prog, 5, pc, left, wake, on, held, got, code, since⟩, progA, progC⟩ : ProcD) _ HI.out.fit.1.prog).mono ?_
             rintro e w1 ⟨rfl, hb1⟩
             have HI : Hid (StIn w w1 (⟨⟨id, prio, prog, 5, pc, left, wake, on, held, got, code, since⟩, progA, progC⟩ : ProcD)) := HI.out.below hb1
             obtain ⟨c0, c1, c2, c3, c4, c5, c6, c7, c8, c9, c10, c11⟩ := proc_cells HI.out.box
             clear hb1
             rw [HOP.out]))
    go_ret
    exact ⟨ret_bool (by rw [HV.out]), HI.out.bel⟩
  subst h1
  have HWK : Hid (inB wake 1 2000000000 = false) := HW0.out
  have hm' : (wake == -1) = false := by simp [HM0.out]
  have HWB : Hid (wakeB wake = false) := by show wakeB wake = false; simp [wakeB, HW0.out, HM0.out]
  have HV : Hid (stateB (⟨id, prio, prog, 5, pc, 0, wake, on, held, got, code, since⟩ : ProcP) = false) := by show stateB _ = false; rw [HE.out]; simp [HWB.out]
  obtain ⟨c0, c1, c2, c3, c4, c5, c6, c7, c8, c9, c10, c11⟩ := proc_cells HI.out.box
  unfold procVs at *
  clear HE
  go_enter Tryz.func286, Tryz.ntmps286
  go_wp2_with (first
        | (go_at_call 229
           refine (hasOp_any (⟨⟨id, prio, prog, 5, pc, 0, wake, on, held, got, code, since⟩, progA, progC⟩ : ProcD) _ HI.out.fit.1.prog).mono ?_
           rintro e w1 ⟨rfl, hb1⟩
           have HI : Hid (StIn w w1 (⟨⟨id, prio, prog, 5, pc, 0, wake, on, held, got, code, since⟩, progA, progC⟩ : ProcD)) := HI.out.below hb1
           obtain ⟨c0, c1, c2, c3, c4, c5, c6, c7, c8, c9, c10, c11⟩ := proc_cells HI.out.box
           clear hb1
           rw [HOP.out])
        | (go_at_call 289
           refine (isWake_any wake _).mono ?_
           rintro e w1 ⟨rfl, hw1⟩
           rw [HWK.out, hw1]
           clear hw1 w1))
  go_ret
  exact ⟨ret_bool (by rw [HV.out]), HI.out.bel⟩

set_option maxRecDepth 100000 in
set_option maxHeartbeats 4000000 in
theorem stateOk_s3T (x : ProcD) (w : World) (hf : ProcFit w x) (hs : x.state = 3) (hw : inB x.wake 1 2000000000 = true) : Calls Tryz.prog 286 #[.agg (procVs x)] w fun e w' => e = .returned (.bool (stateB x.toProcP)) ∧ Below w.heap.size w w' := by
  obtain ⟨⟨id, prio, prog, state, pc, left, wake, on, held, got, code, since⟩, progA, progC⟩ := x
  simp only at hs hw
  subst hs
  have HI : Hid (StIn w (w.alloc (.cells (procVs (⟨⟨id, prio, prog, 3, pc, left, wake, on, held, got, code, since⟩, progA, progC⟩ : ProcD)) 43)) (⟨⟨id, prio, prog, 3, pc, left, wake, on, held, got, code, since⟩, progA, progC⟩ : ProcD)) := StIn.start hf
  have HE : Hid (stateB (⟨id, prio, prog, 3, pc, left, wake, on, held, got, code, since⟩ : ProcP) = (hasOpB (⟨id, prio, prog, 3, pc, left, wake, on, held, got, code, since⟩ : ProcP) && decide (left = 0) && wakeB wake && emptyB held)) := by show stateB _ = _; simp [stateB]
  clear hf
  unfold procVs at *
  have HW0 : Hid (inB wake 1 2000000000 = true) := hw
  clear hw
  cases h0 : hasOpB (⟨id, prio, prog, 3, pc, left, wake, on, held, got, code, since⟩ : ProcP)
  · have HV : Hid (stateB (⟨id, prio, prog, 3, pc, left, wake, on, held, got, code, since⟩ : ProcP) = false) := by show stateB _ = false; rw [HE.out]; simp [h0]
    have HOP : Hid (hasOpB (⟨id, prio, prog, 3, pc, left, wake, on, held, got, code, since⟩ : ProcP) = false) := h0
    clear h0 HE
    obtain ⟨c0, c1, c2, c3, c4, c5, c6, c7, c8, c9, c10, c11⟩ := proc_cells HI.out.box
    unfold procVs at *
    go_enter Tryz.func286, Tryz.ntmps286
    go_wp2_with (first
          | (go_at_call 229
             refine (hasOp_any (⟨⟨id, prio, prog, 3, pc, left, wake, on, held, got, code, since⟩, progA, progC⟩ : ProcD) _ HI.out.fit.1.prog).mono ?_
             rintro e w1 ⟨rfl, hb1⟩
             have HI : Hid (StIn w w1 (⟨⟨id, prio, prog, 3, pc, left, wake, on, held, got, code, since⟩, progA, progC⟩ : ProcD)) := HI.out.below hb1
             obtain ⟨c0, c1, c2, c3, c4, c5, c6, c7, c8, c9, c10, c11⟩ := proc_cells HI.out.box
             clear hb1
             rw [HOP.out]))
    go_ret
    exact ⟨ret_bool (by rw [HV.out]), HI.out.bel⟩
  have HOP : Hid (hasOpB (⟨id, prio, prog, 3, pc, left, wake, on, held, got, code, since⟩ : ProcP) = true) := h0
  clear h0
  by_cases h1 : left = 0
  rotate_left
  · have HV : Hid (stateB (⟨id, prio, prog, 3, pc, left, wake, on, held, got, code, since⟩ : ProcP) = false) := by show stateB _ = false; rw [HE.out]; simp [h1]
    have h1' : (left == 0) = false := by simp [h1]
    clear h1 HE
    obtain ⟨c0, c1, c2, c3, c4, c5, c6, c7, c8, c9, c10, c11⟩ := proc_cells HI.out.box
    unfold procVs at *
    go_enter Tryz.func286, Tryz.ntmps286
    go_wp2_with (first
          | (go_at_call 229
             refine (hasOp_any (⟨⟨id, prio, prog, 3, pc, left, wake, on, held, got, code, since⟩, progA, progC⟩ : ProcD) _ HI.out.fit.1.prog).mono ?_
             rintro e w1 ⟨rfl, hb1⟩
             have HI : Hid (StIn w w1 (⟨⟨id, prio, prog, 3, pc, left, wake, on, held, got, code, since⟩, progA, progC⟩ : ProcD)) := HI.out.below hb1
             obtain ⟨c0, c1, c2, c3, c4, c5, c6, c7, c8, c9, c10, c11⟩ := proc_cells HI.out.box
             clear hb1
             rw [HOP.out]))
    go_ret
    exact ⟨ret_bool (by rw [HV.out]), HI.out.bel⟩
  subst h1
  have HWK : Hid (inB wake 1 2000000000 = true) := HW0.out
  have HWB : Hid (wakeB wake = true) := by show wakeB wake = true; simp [wakeB, HW0.out]
  by_cases h3 : held.toList = []
  rotate_left
  · have HV : Hid (stateB (⟨id, prio, prog, 3, pc, 0, wake, on, held, got, code, since⟩ : ProcP) = false) := by show stateB _ = false; rw [HE.out]; simp [emptyB_no h3]
    have h3' : ¬ [] = held.toList := fun h => h3 h.symm
    clear HE
    obtain ⟨c0, c1, c2, c3, c4, c5, c6, c7, c8, c9, c10, c11⟩ := proc_cells HI.out.box
    unfold procVs at *
    go_enter Tryz.func286, Tryz.ntmps286
    go_wp2_with (first
          | (go_at_call 229
             refine (hasOp_any (⟨⟨id, prio, prog, 3, pc, 0, wake, on, held, got, code, since⟩, progA, progC⟩ : ProcD) _ HI.out.fit.1.prog).mono ?_
             rintro e w1 ⟨rfl, hb1⟩
             have HI : Hid (StIn w w1 (⟨⟨id, prio, prog, 3, pc, 0, wake, on, held, got, code, since⟩, progA, progC⟩ : ProcD)) := HI.out.below hb1
             obtain ⟨c0, c1, c2, c3, c4, c5, c6, c7, c8, c9, c10, c11⟩ := proc_cells HI.out.box
             clear hb1
             rw [HOP.out])
          | (go_at_call 289
             refine (isWake_any wake _).mono ?_
             rintro e w1 ⟨rfl, hw1⟩
             rw [HWK.out, hw1]
             clear hw1 w1))
    go_ret
    exact ⟨ret_bool (by rw [HV.out]; simp [h3]), HI.out.bel⟩
  have HV : Hid (stateB (⟨id, prio, prog, 3, pc, 0, wake, on, held, got, code, since⟩ : ProcP) = true) := by show stateB _ = true; rw [HE.out]; simp [HOP.out, HWB.out, emptyB_yes h3]
  obtain ⟨c0, c1, c2, c3, c4, c5, c6, c7, c8, c9, c10, c11⟩ := proc_cells HI.out.box
  unfold procVs at *
  clear HE
  go_enter Tryz.func286, Tryz.ntmps286
  go_wp2_with (first
        | (go_at_call 229
           refine (hasOp_any (⟨⟨id, prio, prog, 3, pc, 0, wake, on, held, got, code, since⟩, progA, progC⟩ : ProcD) _ HI.out.fit.1.prog).mono ?_
           rintro e w1 ⟨rfl, hb1⟩
           have HI : Hid (StIn w w1 (⟨⟨id, prio, prog, 3, pc, 0, wake, on, held, got, code, since⟩, progA, progC⟩ : ProcD)) := HI.out.below hb1
           obtain ⟨c0, c1, c2, c3, c4, c5, c6, c7, c8, c9, c10, c11⟩ := proc_cells HI.out.box
           clear hb1
           rw [HOP.out])
        | (go_at_call 289
           refine (isWake_any wake _).mono ?_
           rintro e w1 ⟨rfl, hw1⟩
           rw [HWK.out, hw1]
           clear hw1 w1))
  go_ret
  exact ⟨ret_bool (by rw [HV.out]), HI.out.bel⟩

set_option maxRecDepth 100000 in
set_option maxHeartbeats 4000000 in
theorem stateOk_s3M (x : ProcD) (w : World) (hf : ProcFit w x) (hs : x.state = 3) (hw : inB x.wake 1 2000000000 = false) (hm : x.wake = -1) : Calls Tryz.prog 286 #[.agg (procVs x)] w fun e w' => e = .returned (.bool (stateB x.toProcP)) ∧ Below w.heap.size w w' := by
  obtain ⟨⟨id, prio, prog, state, pc, left, wake, on, held, got, code, since⟩, progA, progC⟩ := x
  simp only at hs hw hm
  subst hs
  have HI : Hid (StIn w (w.alloc (.cells (procVs (⟨⟨id, prio, prog, 3, pc, left, wake, on, held, got, code, since⟩, progA, progC⟩ : ProcD)) 43)) (⟨⟨id, prio, prog, 3, pc, left, wake, on, held, got, code, since⟩, progA, progC⟩ : ProcD)) := StIn.start hf
  have HE : Hid (stateB (⟨id, prio, prog, 3, pc, left, wake, on, held, got, code, since⟩ : ProcP) = (hasOpB (⟨id, prio, prog, 3, pc, left, wake, on, held, got, code, since⟩ : ProcP) && decide (left = 0) && wakeB wake && emptyB held)) := by show stateB _ = _; simp [stateB]
  clear hf
  unfold procVs at *
  have HW0 : Hid (inB wake 1 2000000000 = false) := hw
  have HM0 : Hid (wake = -1) := hm
  clear hw hm
  cases h0 : hasOpB (⟨id, prio, prog, 3, pc, left, wake, on, held, got, code, since⟩ : ProcP)
  · have HV : Hid (stateB (⟨id, prio, prog, 3, pc, left, wake, on, held, got, code, since⟩ : ProcP) = false) := by show stateB _ = false; rw [HE.out]; simp [h0]
    have HOP : Hid (hasOpB (⟨id, prio, prog, 3, pc, left, wake, on, held, got, code, since⟩ : ProcP) = false) := h0
    clear h0 HE
    obtain ⟨c0, c1, c2, c3, c4, c5, c6, c7, c8, c9, c10, c11⟩ := proc_cells HI.out.box
    unfold procVs at *
    go_enter Tryz.func286, Tryz.ntmps286
    go_wp2_with (first
          | (go_at_call 229
             refine (hasOp_any (⟨⟨id, prio, prog, 3, pc, left, wake, on, held, got, code, since⟩, progA, progC⟩ : ProcD) _ HI.out.fit.1.prog).mono ?_
             rintro e w1 ⟨rfl, hb1⟩
             have HI : Hid (StIn w w1 (⟨⟨id, prio, prog, 3, pc, left, wake, on, held, got, code, since⟩, progA, progC⟩ : ProcD)) := HI.out.below hb1
             obtain ⟨c0, c1, c2, c3, c4, c5, c6, c7, c8, c9, c10, c11⟩ := proc_cells HI.out.box
             clear hb1
             rw [HOP.out]))
    go_ret
    exact ⟨ret_bool (by rw [HV.out]), HI.out.bel⟩
  have HOP : Hid (hasOpB (⟨id, prio, prog, 3, pc, left, wake, on, held, got, code, since⟩ : ProcP) = true) := h0
  clear h0
  by_cases h1 : left = 0
  rotate_left
  · have HV : Hid (stateB (⟨id, prio, prog, 3, pc, left, wake, on, held, got, code, since⟩ : ProcP) = false) := by show stateB _ = false; rw [HE.out]; simp [h1]
    have h1' : (left == 0) = false := by simp [h1]
    clear h1 HE
    obtain ⟨c0, c1, c2, c3, c4, c5, c6, c7, c8, c9, c10, c11⟩ := proc_cells HI.out.box
    unfold procVs at *
    go_enter Tryz.func286, Tryz.ntmps286
    go_wp2_with (first
          | (go_at_call 229
             refine (hasOp_any (⟨⟨id, prio, prog, 3, pc, left, wake, on, held, got, code, since⟩, progA, progC⟩ : ProcD) _ HI.out.fit.1.prog).mono ?_
             rintro e w1 ⟨rfl, hb1⟩
             have HI : Hid (StIn w w1 (⟨⟨id, prio, prog, 3, pc, left, wake, on, held, got, code, since⟩, progA, progC⟩ : ProcD)) := HI.out.below hb1
             obtain ⟨c0, c1, c2, c3, c4, c5, c6, c7, c8, c9, c10, c11⟩ := proc_cells HI.out.box
             clear hb1
             rw [HOP.out]))
    go_ret
    exact ⟨ret_bool (by rw [HV.out]), HI.out.bel⟩
  subst h1
  have HWK : Hid (inB wake 1 2000000000 = false) := HW0.out
  have HM : Hid ((wake == -1) = true) := by show (wake == -1) = true; simp [HM0.out]
  have HWB : Hid (wakeB wake = true) := by show wakeB wake = true; simp [wakeB, HM0.out]
  by_cases h3 : held.toList = []
  rotate_left
  · have HV : Hid (stateB (⟨id, prio, prog, 3, pc, 0, wake, on, held, got, code, since⟩ : ProcP) = false) := by show stateB _ = false; rw [HE.out]; simp [emptyB_no h3]
    have h3' : ¬ [] = held.toList := fun h => h3 h.symm
    clear HE
    obtain ⟨c0, c1, c2, c3, c4, c5, c6, c7, c8, c9, c10, c11⟩ := proc_cells HI.out.box
    unfold procVs at *
    go_enter Tryz.func286, Tryz.ntmps286
    go_wp2_with (first
          | (go_at_call 229
             refine (hasOp_any (⟨⟨id, prio, prog, 3, pc, 0, wake, on, held, got, code, since⟩, progA, progC⟩ : ProcD) _ HI.out.fit.1.prog).mono ?_
             rintro e w1 ⟨rfl, hb1⟩
             have HI : Hid (StIn w w1 (⟨⟨id, prio, prog, 3, pc, 0, wake, on, held, got, code, since⟩, progA, progC⟩ : ProcD)) := HI.out.below hb1
             obtain ⟨c0, c1, c2, c3, c4, c5, c6, c7, c8, c9, c10, c11⟩ := proc_cells HI.out.box
             clear hb1
             rw [HOP.out])
          | (go_at_call 289
             refine (isWake_any wake _).mono ?_
             rintro e w1 ⟨rfl, hw1⟩
             rw [HWK.out, hw1]
             have hm2 : (wake == -1) = true := HM.out
             clear hw1 w1))
    go_ret
    exact ⟨ret_bool (by rw [HV.out]; simp [h3]), HI.out.bel⟩
  have HV : Hid (stateB (⟨id, prio, prog, 3, pc, 0, wake, on, held, got, code, since⟩ : ProcP) = true) := by show stateB _ = true; rw [HE.out]; simp [HOP.out, HWB.out, emptyB_yes h3]
  obtain ⟨c0, c1, c2, c3, c4, c5, c6, c7, c8, c9, c10, c11⟩ := proc_cells HI.out.box
  unfold procVs at *
  clear HE
  go_enter Tryz.func286, Tryz.ntmps286
  go_wp2_with (first
        | (go_at_call 229
           refine (hasOp_any (⟨⟨id, prio, prog, 3, pc, 0, wake, on, held, got, code, since⟩, progA, progC⟩ : ProcD) _ HI.out.fit.1.prog).mono ?_
           rintro e w1 ⟨rfl, hb1⟩
           have HI : Hid (StIn w w1 (⟨⟨id, prio, prog, 3, pc, 0, wake, on, held, got, code, since⟩, progA, progC⟩ : ProcD)) := HI.out.below hb1
           obtain ⟨c0, c1, c2, c3, c4, c5, c6, c7, c8, c9, c10, c11⟩ := proc_cells HI.out.box
           clear hb1
           rw [HOP.out])
        | (go_at_call 289
           refine (isWake_any wake _).mono ?_
           rintro e w1 ⟨rfl, hw1⟩
           rw [HWK.out, hw1]
           have hm2 : (wake == -1) = true := HM.out
           clear hw1 w1))
  go_ret
  exact ⟨ret_bool (by rw [HV.out]), HI.out.bel⟩

set_option maxRecDepth 100000 in
set_option maxHeartbeats 4000000 in
theorem stateOk_s3F (x : ProcD) (w : World) (hf : ProcFit w x) (hs : x.state = 3) (hw : inB x.wake 1 2000000000 = false) (hm : ¬ x.wake = -1) : Calls Tryz.prog 286 #[.agg (procVs x)] w fun e w' => e = .returned (.bool (stateB x.toProcP)) ∧ Below w.heap.size w w' := by
  obtain ⟨⟨id, prio, prog, state, pc, left, wake, on, held, got, code, since⟩, progA, progC⟩ := x
  simp only at hs hw hm
  subst hs
  have HI : Hid (StIn w (w.alloc (.cells (procVs (⟨⟨id, prio, prog, 3, pc, left, wake, on, held, got, code, since⟩, progA, progC⟩ : ProcD)) 43)) (⟨⟨id, prio, prog, 3, pc, left, wake, on, held, got, code, since⟩, progA, progC⟩ : ProcD)) := StIn.start hf
  have HE : Hid (stateB (⟨id, prio, prog, 3, pc, left, wake, on, held, got, code, since⟩ : ProcP) = (hasOpB (⟨id, prio, prog, 3, pc, left, wake, on, held, got, code, since⟩ : ProcP) && decide (left = 0) && wakeB wake && emptyB held)) := by show stateB _ = _; simp [stateB]
  clear hf
  unfold procVs at *
  have HW0 : Hid (inB wake 1 2000000000 = false) := hw
  have HM0 : Hid (¬ wake = -1) := hm
  clear hw hm
  cases h0 : hasOpB (⟨id, prio, prog, 3, pc, left, wake, on, held, got, code, since⟩ : ProcP)
  · have HV : Hid (stateB (⟨id, prio, prog, 3, pc, left, wake, on, held, got, code, since⟩ : ProcP) = false) := by show stateB _ = false; rw [HE.out]; simp [h0]
    have HOP : Hid (hasOpB (⟨id, prio, prog, 3, pc, left, wake, on, held, got, code, since⟩ : ProcP) = false) := h0
    clear h0 HE
    obtain ⟨c0, c1, c2, c3, c4, c5, c6, c7, c8, c9, c10, c11⟩ := proc_cells HI.out.box
    unfold procVs at *
    go_enter Tryz.func286, Tryz.ntmps286
    go_wp2_with (first
          | (go_at_call 229
             refine (hasOp_any (⟨⟨id, prio, prog, 3, pc, left, wake, on, held, got, code, since⟩, progA, progC⟩ : ProcD) _ HI.out.fit.1.prog).mono ?_
             rintro e w1 ⟨rfl, hb1⟩
             have HI : Hid (StIn w w1 (⟨⟨id, prio, prog, 3, pc, left, wake, on, held, got, code, since⟩, progA, progC⟩ : ProcD)) := HI.out.below hb1
             obtain ⟨c0, c1, c2, c3, c4, c5, c6, c7, c8, c9, c10, c11⟩ := proc_cells HI.out.box
             clear hb1
             rw [HOP.out]))
    go_ret
    exact ⟨ret_bool (by rw [HV.out]), HI.out.bel⟩
  have HOP : Hid (hasOpB (⟨id, prio, prog, 3, pc, left, wake, on, held, got, code, since⟩ : ProcP) = true) := h0
  clear h0
  by_cases h1 : left = 0
  rotate_left
  · have HV : Hid (stateB (⟨id, prio, prog, 3, pc, left, wake, on, held, got, code, since⟩ : ProcP) = false) := by show stateB _ = false; rw [HE.out]; simp [h1]
    have h1' : (left == 0) = false := by simp [h1]
    clear h1 HE
    obtain ⟨c0, c1, c2, c3, c4, c5, c6, c7, c8, c9, c10, c11⟩ := proc_cells HI.out.box
    unfold procVs at *
    go_enter Tryz.func286, Tryz.ntmps286
    go_wp2_with (first
          | (go_at_call 229
             refine (hasOp_any (⟨⟨id, prio, prog, 3, pc, left, wake, on, held, got, code, since⟩, progA, progC⟩ : ProcD) _ HI.out.fit.1.prog).mono ?_
             rintro e w1 ⟨rfl, hb1⟩
             have HI : Hid (StIn w w1 (⟨⟨id, prio, prog, 3, pc, left, wake, on, held, got, code, since⟩, progA, progC⟩ : ProcD)) := HI.out.below hb1
             obtain ⟨c0, c1, c2, c3, c4, c5, c6, c7, c8, c9, c10, c11⟩ := proc_cells HI.out.box
             clear hb1
             rw [HOP.out]))
    go_ret
    exact ⟨ret_bool (by rw [HV.out]), HI.out.bel⟩
  subst h1
  have HWK : Hid (inB wake 1 2000000000 = false) := HW0.out
  have hm' : (wake == -1) = false := by simp [HM0.out]
  have HWB : Hid (wakeB wake = false) := by show wakeB wake = false; simp [wakeB, HW0.out, HM0.out]
  have HV : Hid (stateB (⟨id, prio, prog, 3, pc, 0, wake, on, held, got, code, since⟩ : ProcP) = false) := by show stateB _ = false; rw [HE.out]; simp [HWB.out]
  obtain ⟨c0, c1, c2, c3, c4, c5, c6, c7, c8, c9, c10, c11⟩ := proc_cells HI.out.box
  unfold procVs at *
  clear HE
  go_enter Tryz.func286, Tryz.ntmps286
  go_wp2_with (first
        | (go_at_call 229
           refine (hasOp_any (⟨⟨id, prio, prog, 3, pc, 0, wake, on, held, got, code, since⟩, progA, progC⟩ : ProcD) _ HI.out.fit.1.prog).mono ?_
           rintro e w1 ⟨rfl, hb1⟩
           have HI : Hid (StIn w w1 (⟨⟨id, prio, prog, 3, pc, 0, wake, on, held, got, code, since⟩, progA, progC⟩ : ProcD)) := HI.out.below hb1
           obtain ⟨c0, c1, c2, c3, c4, c5, c6, c7, c8, c9, c10, c11⟩ := proc_cells HI.out.box
           clear hb1
           rw [HOP.out])
        | (go_at_call 289
           refine (isWake_any wake _).mono ?_
           rintro e w1 ⟨rfl, hw1⟩
           rw [HWK.out, hw1]
           clear hw1 w1))
  go_ret
  exact ⟨ret_bool (by rw [HV.out]), HI.out.bel⟩

set_option maxRecDepth 100000 in
set_option maxHeartbeats 4000000 in
theorem stateOk_s4T (x : ProcD) (w : World) (hf : ProcFit w x) (hs : x.state = 4) (hw : inB x.wake 1 2000000000 = true) : Calls Tryz.prog 286 #[.agg (procVs x)] w fun e w' => e = .returned (.bool (stateB x.toProcP)) ∧ Below w.heap.size w w' := by
  obtain ⟨⟨id, prio, prog, state, pc, left, wake, on, held, got, code, since⟩, progA, progC⟩ := x
  simp only at hs hw
  subst hs
  have HI : Hid (StIn w (w.alloc (.cells (procVs (⟨⟨id, prio, prog, 4, pc, left, wake, on, held, got, code, since⟩, progA, progC⟩ : ProcD)) 43)) (⟨⟨id, prio, prog, 4, pc, left, wake, on, held, got, code, since⟩, progA, progC⟩ : ProcD)) := StIn.start hf
  have HE : Hid (stateB (⟨id, prio, prog, 4, pc, left, wake, on, held, got, code, since⟩ : ProcP) = (hasOpB (⟨id, prio, prog, 4, pc, left, wake, on, held, got, code, since⟩ : ProcP) && decide (left = 0) && wakeB wake && emptyB held)) := by show stateB _ = _; simp [stateB]
  clear hf
  unfold procVs at *
  have HW0 : Hid (inB wake 1 2000000000 = true) := hw
  clear hw
  cases h0 : hasOpB (⟨id, prio, prog, 4, pc, left, wake, on, held, got, code, since⟩ : ProcP)
  · have HV : Hid (stateB (⟨id, prio, prog, 4, pc, left, wake, on, held, got, code, since⟩ : ProcP) = false) := by show stateB _ = false; rw [HE.out]; simp [h0]
    have HOP : Hid (hasOpB (⟨id, prio, prog, 4, pc, left, wake, on, held, got, code, since⟩ : ProcP) = false) := h0
    clear h0 HE
    obtain ⟨c0, c1, c2, c3, c4, c5, c6, c7, c8, c9, c10, c11⟩ := proc_cells HI.out.box
    unfold procVs at *
    go_enter Tryz.func286, Tryz.ntmps286
    go_wp2_with (first
          | (go_at_call 229
             refine (hasOp_any (⟨⟨id, prio, prog, 4, pc, left, wake, on, held, got, code, since⟩, progA, progC⟩ : ProcD) _ HI.out.fit.1.prog).mono ?_
             rintro e w1 ⟨rfl, hb1⟩
             have HI : Hid (StIn w w1 (⟨⟨id, prio, prog, 4, pc, left, wake, on, held, got, code, since⟩, progA, progC⟩ : ProcD)) := HI.out.below hb1
             obtain ⟨c0, c1, c2, c3, c4, c5, c6, c7, c8, c9, c10, c11⟩ := proc_cells HI.out.box
             clear hb1
             rw [HOP.out]))
    go_ret
    exact ⟨ret_bool (by rw [HV.out]), HI.out.bel⟩
  have HOP : Hid (hasOpB (⟨id, prio, prog, 4, pc, left, wake, on, held, got, code, since⟩ : ProcP) = true) := h0
  clear h0
  by_cases h1 : left = 0
  rotate_left
  · have HV : Hid (stateB (⟨id, prio, prog, 4, pc, left, wake, on, held, got, code, since⟩ : ProcP) = false) := by show stateB _ = false; rw [HE.out]; simp [h1]
    have h1' : (left == 0) = false := by simp [h1]
    clear h1 HE
    obtain ⟨c0, c1, c2, c3, c4, c5, c6, c7, c8, c9, c10, c11⟩ := proc_cells HI.out.box
    unfold procVs at *
    go_enter Tryz.func286, Tryz.ntmps286
    go_wp2_with (first
          | (go_at_call 229
             refine (hasOp_any (⟨⟨id, prio, prog, 4, pc, left, wake, on, held, got, code, since⟩, progA, progC⟩ : ProcD) _ HI.out.fit.1.prog).mono ?_
             rintro e w1 ⟨rfl, hb1⟩
             have HI : Hid (StIn w w1 (⟨⟨id, prio, prog, 4, pc, left, wake, on, held, got, code, since⟩, progA, progC⟩ : ProcD)) := HI.out.below hb1
             obtain ⟨c0, c1, c2, c3, c4, c5, c6, c7, c8, c9, c10, c11⟩ := proc_cells HI.out.box
             clear hb1
             rw [HOP.out]))
    go_ret
    exact ⟨ret_bool (by rw [HV.out]), HI.out.bel⟩
  subst h1
  have HWK : Hid (inB wake 1 2000000000 = true) := HW0.out
  have HWB : Hid (wakeB wake = true) := by show wakeB wake = true; simp [wakeB, HW0.out]
  by_cases h3 : held.toList = []
  rotate_left
  · have HV : Hid (stateB (⟨id, prio, prog, 4, pc, 0, wake, on, held, got, code, since⟩ : ProcP) = false) := by show stateB _ = false; rw [HE.out]; simp [emptyB_no h3]
    have h3' : ¬ [] = held.toList := fun h => h3 h.symm
    clear HE
    obtain ⟨c0, c1, c2, c3, c4, c5, c6, c7, c8, c9, c10, c11⟩ := proc_cells HI.out.box
    unfold procVs at *
    go_enter Tryz.func286, Tryz.ntmps286
    go_wp2_with (first
          | (go_at_call 229
             refine (hasOp_any (⟨⟨id, prio, prog, 4, pc, 0, wake, on, held, got, code, since⟩, progA, progC⟩ : ProcD) _ HI.out.fit.1.prog).mono ?_
             rintro e w1 ⟨rfl, hb1⟩
             have HI : Hid (StIn w w1 (⟨⟨id, prio, prog, 4, pc, 0, wake, on, held, got, code, since⟩, progA, progC⟩ : ProcD)) := HI.out.below hb1
             obtain ⟨c0, c1, c2, c3, c4, c5, c6, c7, c8, c9, c10, c11⟩ := proc_cells HI.out.box
             clear hb1
             rw [HOP.out])
          | (go_at_call 289
             refine (isWake_any wake _).mono ?_
             rintro e w1 ⟨rfl, hw1⟩
             rw [HWK.out, hw1]
             clear hw1 w1))
    go_ret
    exact ⟨ret_bool (by rw [HV.out]; simp [h3]), HI.out.bel⟩
  have HV : Hid (stateB (⟨id, prio, prog, 4, pc, 0, wake, on, held, got, code, since⟩ : ProcP) = true) := by show stateB _ = true; rw [HE.out]; simp [HOP.out, HWB.out, emptyB_yes h3]
  obtain ⟨c0, c1, c2, c3, c4, c5, c6, c7, c8, c9, c10, c11⟩ := proc_cells HI.out.box
  unfold procVs at *
  clear HE
  go_enter Tryz.func286, Tryz.ntmps286
  go_wp2_with (first
        | (go_at_call 229
           refine (hasOp_any (⟨⟨id, prio, prog, 4, pc, 0, wake, on, held, got, code, since⟩, progA, progC⟩ : ProcD) _ HI.out.fit.1.prog).mono ?_
           rintro e w1 ⟨rfl, hb1⟩
           have HI : Hid (StIn w w1 (⟨⟨id, prio, prog, 4, pc, 0, wake, on, held, got, code, since⟩, progA, progC⟩ : ProcD)) := HI.out.below hb1
           obtain ⟨c0, c1, c2, c3, c4, c5, c6, c7, c8, c9, c10, c11⟩ := proc_cells HI.out.box
           clear hb1
           rw [HOP.out])
        | (go_at_call 289
           refine (isWake_any wake _).mono ?_
           rintro e w1 ⟨rfl, hw1⟩
           rw [HWK.out, hw1]
           clear hw1 w1))
  go_ret
  exact ⟨ret_bool (by rw [HV.out]), HI.out.bel⟩

set_option maxRecDepth 100000 in
set_option maxHeartbeats 4000000 in
theorem stateOk_s4M (x : ProcD) (w : World) (hf : ProcFit w x) (hs : x.state = 4) (hw : inB x.wake 1 2000000000 = false) (hm : x.wake = -1) : Calls Tryz.prog 286 #[.agg (procVs x)] w fun e w' => e = .returned (.bool (stateB x.toProcP)) ∧ Below w.heap.size w w' := by
  obtain ⟨⟨id, prio, prog, state, pc, left, wake, on, held, got, code, since⟩, progA, progC⟩ := x
  simp only at hs hw hm
  subst hs
  have HI : Hid (StIn w (w.alloc (.cells (procVs (⟨⟨id, prio, prog, 4, pc, left, wake, on, held, got, code, since⟩, progA, progC⟩ : ProcD)) 43)) (⟨⟨id, prio, prog, 4, pc, left, wake, on, held, got, code, since⟩, progA, progC⟩ : ProcD)) := StIn.start hf
  have HE : Hid (stateB (⟨id, prio, prog, 4, pc, left, wake, on, held, got, code, since⟩ : ProcP) = (hasOpB (⟨id, prio, prog, 4, pc, left, wake, on, held, got, code, since⟩ : ProcP) && decide (left = 0) && wakeB wake && emptyB held)) := by show stateB _ = _; simp [stateB]
  clear hf
  unfold procVs at *
  have HW0 : Hid (inB wake 1 2000000000 = false) := hw
  have HM0 : Hid (wake = -1) := hm
  clear hw hm
  cases h0 : hasOpB (⟨id, prio, prog, 4, pc, left, wake, on, held, got, code, since⟩ : ProcP)
  · have HV : Hid (stateB (⟨id, prio, prog, 4, pc, left, wake, on, held, got, code, since⟩ : ProcP) = false) := by show stateB _ = false; rw [HE.out]; simp [h0]
    have HOP : Hid (hasOpB (⟨id, prio, prog, 4, pc, left, wake, on, held, got, code, since⟩ : ProcP) = false) := h0
    clear h0 HE
    obtain ⟨c0, c1, c2, c3, c4, c5, c6, c7, c8, c9, c10, c11⟩ := proc_cells HI.out.box
    unfold procVs at *
    go_enter Tryz.func286, Tryz.ntmps286
    go_wp2_with (first
          | (go_at_call 229
             refine (hasOp_any (⟨⟨id, prio, prog, 4, pc, left, wake, on, held, got, code, since⟩, progA, progC⟩ : ProcD) _ HI.out.fit.1.prog).mono ?_
             rintro e w1 ⟨rfl, hb1⟩
             have HI : Hid (StIn w w1 (⟨⟨id, prio, prog, 4, pc, left, wake, on, held, got, code, since⟩, progA, progC⟩ : ProcD)) := HI.out.below hb1
             obtain ⟨c0, c1, c2, c3, c4, c5, c6, c7, c8, c9, c10, c11⟩ := proc_cells HI.out.box
             clear hb1
             rw [HOP.out]))
    go_ret
    exact ⟨ret_bool (by rw [HV.out]), HI.out.bel⟩
  have HOP : Hid (hasOpB (⟨id, prio, prog, 4, pc, left, wake, on, held, got, code, since⟩ : ProcP) = true) := h0
  clear h0
  by_cases h1 : left = 0
  rotate_left
  · have HV : Hid (stateB (⟨id, prio, prog, 4, pc, left, wake, on, held, got, code, since⟩ : ProcP) = false) := by show stateB _ = false; rw [HE.out]; simp [h1]
    have h1' : (left == 0) = false := by simp [h1]
    clear h1 HE
    obtain ⟨c0, c1, c2, c3, c4, c5, c6, c7, c8, c9, c10, c11⟩ := proc_cells HI.out.box
    unfold procVs at *
    go_enter Tryz.func286, Tryz.ntmps286
    go_wp2_with (first
          | (go_at_call 229
             refine (hasOp_any (⟨⟨id, prio, prog, 4, pc, left, wake, on, held, got, code, since⟩, progA, progC⟩ : ProcD) _ HI.out.fit.1.prog).mono ?_
             rintro e w1 ⟨rfl, hb1⟩
             have HI : Hid (StIn w w1 (⟨⟨id, prio, prog, 4, pc, left, wake, on, held, got, code, since⟩, progA, progC⟩ : ProcD)) := HI.out.below hb1
             obtain ⟨c0, c1, c2, c3, c4, c5, c6, c7, c8, c9, c10, c11⟩ := proc_cells HI.out.box
             clear hb1
             rw [HOP.out]))
    go_ret
    exact ⟨ret_bool (by rw [HV.out]), HI.out.bel⟩
  subst h1
  have HWK : Hid (inB wake 1 2000000000 = false) := HW0.out
  have HM : Hid ((wake == -1) = true) := by show (wake == -1) = true; simp [HM0.out]
  have HWB : Hid (wakeB wake = true) := by show wakeB wake = true; simp [wakeB, HM0.out]
  by_cases h3 : held.toList = []
  rotate_left
  · have HV : Hid (stateB (⟨id, prio, prog, 4, pc, 0, wake, on, held, got, code, since⟩ : ProcP) = false) := by show stateB _ = false; rw [HE.out]; simp [emptyB_no h3]
    have h3' : ¬ [] = held.toList := fun h => h3 h.symm
    clear HE
    obtain ⟨c0, c1, c2, c3, c4, c5, c6, c7, c8, c9, c10, c11⟩ := proc_cells HI.out.box
    unfold procVs at *
    go_enter Tryz.func286, Tryz.ntmps286
    go_wp2_with (first
          | (go_at_call 229
             refine (hasOp_any (⟨⟨id, prio, prog, 4, pc, 0, wake, on, held, got, code, since⟩, progA, progC⟩ : ProcD) _ HI.out.fit.1.prog).mono ?_
             rintro e w1 ⟨rfl, hb1⟩
             have HI : Hid (StIn w w1 (⟨⟨id, prio, prog, 4, pc, 0, wake, on, held, got, code, since⟩, progA, progC⟩ : ProcD)) := HI.out.below hb1
             obtain ⟨c0, c1, c2, c3, c4, c5, c6, c7, c8, c9, c10, c11⟩ := proc_cells HI.out.box
             clear hb1
             rw [HOP.out])
          | (go_at_call 289
             refine (isWake_any wake _).mono ?_
             rintro e w1 ⟨rfl, hw1⟩
             rw [HWK.out, hw1]
             have hm2 : (wake == -1) = true := HM.out
             clear hw1 w1))
    go_ret
    exact ⟨ret_bool (by rw [HV.out]; simp [h3]), HI.out.bel⟩
  have HV : Hid (stateB (⟨id, prio, prog, 4, pc, 0, wake, on, held, got, code, since⟩ : ProcP) = true) := by show stateB _ = true; rw [HE.out]; simp [HOP.out, HWB.out, emptyB_yes h3]
  obtain ⟨c0, c1, c2, c3, c4, c5, c6, c7, c8, c9, c10, c11⟩ := proc_cells HI.out.box
  unfold procVs at *
  clear HE
  go_enter Tryz.func286, Tryz.ntmps286
  go_wp2_with (first
        | (go_at_call 229
           refine (hasOp_any (⟨⟨id, prio, prog, 4, pc, 0, wake, on, held, got, code, since⟩, progA, progC⟩ : ProcD) _ HI.out.fit.1.prog).mono ?_
           rintro e w1 ⟨rfl, hb1⟩
           have HI : Hid (StIn w w1 (⟨⟨id, prio, prog, 4, pc, 0, wake, on, held, got, code, since⟩, progA, progC⟩ : ProcD)) := HI.out.below hb1
           obtain ⟨c0, c1, c2, c3, c4, c5, c6, c7, c8, c9, c10, c11⟩ := proc_cells HI.out.box
           clear hb1
           rw [HOP.out])
        | (go_at_call 289
           refine (isWake_any wake _).mono ?_
           rintro e w1 ⟨rfl, hw1⟩
           rw [HWK.out, hw1]
           have hm2 : (wake == -1) = true := HM.out
           clear hw1 w1))
  go_ret
  exact ⟨ret_bool (by rw [HV.out]), HI.out.bel⟩

set_option maxRecDepth 100000 in
set_option maxHeartbeats 4000000 in
theorem stateOk_s4F (x : ProcD) (w : World) (hf : ProcFit w x) (hs : x.state = 4) (hw : inB x.wake 1 2000000000 = false) (hm : ¬ x.wake = -1) : Calls Tryz.prog 286 #[.agg (procVs x)] w fun e w' => e = .returned (.bool (stateB x.toProcP)) ∧ Below w.heap.size w w' := by
  obtain ⟨⟨id, prio, prog, state, pc, left, wake, on, held, got, code, since⟩, progA, progC⟩ := x
  simp only at hs hw hm
  subst hs
  have HI : Hid (StIn w (w.alloc (.cells (procVs (⟨⟨id, prio, prog, 4, pc, left, wake, on, held, got, code, since⟩, progA, progC⟩ : ProcD)) 43)) (⟨⟨id, prio, prog, 4, pc, left, wake, on, held, got, code, since⟩, progA, progC⟩ : ProcD)) := StIn.start hf
  have HE : Hid (stateB (⟨id, prio, prog, 4, pc, left, wake, on, held, got, code, since⟩ : ProcP) = (hasOpB (⟨id, prio, prog, 4, pc, left, wake, on, held, got, code, since⟩ : ProcP) && decide (left = 0) && wakeB wake && emptyB held)) := by show stateB _ = _; simp [stateB]
  clear hf
  unfold procVs at *
  have HW0 : Hid (inB wake 1 2000000000 = false) := hw
  have HM0 : Hid (¬ wake = -1) := hm
  clear hw hm
  cases h0 : hasOpB (⟨id, prio, prog, 4, pc, left, wake, on, held, got, code, since⟩ : ProcP)
  · have HV : Hid (stateB (⟨id, prio, prog, 4, pc, left, wake, on, held, got, code, since⟩ : ProcP) = false) := by show stateB _ = false; rw [HE.out]; simp [h0]
    have HOP : Hid (hasOpB (⟨id, prio, prog, 4, pc, left, wake, on, held, got, code, since⟩ : ProcP) = false) := h0
    clear h0 HE
    obtain ⟨c0, c1, c2, c3, c4, c5, c6, c7, c8, c9, c10, c11⟩ := proc_cells HI.out.box
    unfold procVs at *
    go_enter Tryz.func286, Tryz.ntmps286
    go_wp2_with (first
          | (go_at_call 229
             refine (hasOp_any (⟨⟨id, prio, prog, 4, pc, left, wake, on, held, got, code, since⟩, progA, progC⟩ : ProcD) _ HI.out.fit.1.prog).mono ?_
             rintro e w1 ⟨rfl, hb1⟩
             have HI : Hid (StIn w w1 (⟨⟨id, prio, prog, 4, pc, left, wake, on, held, got, code, since⟩, progA, progC⟩ : ProcD)) := HI.out.below hb1
             obtain ⟨c0, c1, c2, c3, c4, c5, c6, c7, c8, c9, c10, c11⟩ := proc_cells HI.out.box
             clear hb1
             rw [HOP.out]))
    go_ret
    exact ⟨ret_bool (by rw [HV.out]), HI.out.bel⟩
  have HOP : Hid (hasOpB (⟨id, prio, prog, 4, pc, left, wake, on, held, got, code, since⟩ : ProcP) = true) := h0
  clear h0
  by_cases h1 : left = 0
  rotate_left
  · have HV : Hid (stateB (⟨id, prio, prog, 4, pc, left, wake, on, held, got, code, since⟩ : ProcP) = false) := by show stateB _ = false; rw [HE.out]; simp [h1]
    have h1' : (left == 0) = false := by simp [h1]
    clear h1 HE
    obtain ⟨c0, c1, c2, c3, c4, c5, c6, c7, c8, c9, c10, c11⟩ := proc_cells HI.out.box
    unfold procVs at *
    go_enter Tryz.func286, Tryz.ntmps286
    go_wp2_with (first
          | (go_at_call 229
             refine (hasOp_any (⟨⟨id, prio, prog, 4, pc, left, wake, on, held, got, code, since⟩, progA, progC⟩ : ProcD) _ HI.out.fit.1.prog).mono ?_
             rintro e w1 ⟨rfl, hb1⟩
             have HI : Hid (StIn w w1 (⟨⟨id, prio, prog, 4, pc, left, wake, on, held, got, code, since⟩, progA, progC⟩ : ProcD)) := HI.out.below hb1
             obtain ⟨c0, c1, c2, c3, c4, c5, c6, c7, c8, c9, c10, c11⟩ := proc_cells HI.out.box
             clear hb1
             rw [HOP.out]))
    go_ret
    exact ⟨ret_bool (by rw [HV.out]), HI.out.bel⟩
  subst h1
  have HWK : Hid (inB wake 1 2000000000 = false) := HW0.out
  have hm' : (wake == -1) = false := by simp [HM0.out]
  have HWB : Hid (wakeB wake = false) := by show wakeB wake = false; simp [wakeB, HW0.out, HM0.out]
  have HV : Hid (stateB (⟨id, prio, prog, 4, pc, 0, wake, on, held, got, code, since⟩ : ProcP) = false) := by show stateB _ = false; rw [HE.out]; simp [HWB.out]
  obtain ⟨c0, c1, c2, c3, c4, c5, c6, c7, c8, c9, c10, c11⟩ := proc_cells HI.out.box
  unfold procVs at *
  clear HE
  go_enter Tryz.func286, Tryz.ntmps286
  go_wp2_with (first
        | (go_at_call 229
           refine (hasOp_any (⟨⟨id, prio, prog, 4, pc, 0, wake, on, held, got, code, since⟩, progA, progC⟩ : ProcD) _ HI.out.fit.1.prog).mono ?_
           rintro e w1 ⟨rfl, hb1⟩
           have HI : Hid (StIn w w1 (⟨⟨id, prio, prog, 4, pc, 0, wake, on, held, got, code, since⟩, progA, progC⟩ : ProcD)) := HI.out.below hb1
           obtain ⟨c0, c1, c2, c3, c4, c5, c6, c7, c8, c9, c10, c11⟩ := proc_cells HI.out.box
           clear hb1
           rw [HOP.out])
        | (go_at_call 289
           refine (isWake_any wake _).mono ?_
           rintro e w1 ⟨rfl, hw1⟩
           rw [HWK.out, hw1]
           clear hw1 w1))
  go_ret
  exact ⟨ret_bool (by rw [HV.out]), HI.out.bel⟩

set_option maxRecDepth 100000 in
set_option maxHeartbeats 4000000 in
theorem stateOk_s6T (x : ProcD) (w : World) (hf : ProcFit w x) (hs : x.state = 6) (hw : inB x.wake 1 2000000000 = true) : Calls Tryz.prog 286 #[.agg (procVs x)] w fun e w' => e = .returned (.bool (stateB x.toProcP)) ∧ Below w.heap.size w w' := by
  obtain ⟨⟨id, prio, prog, state, pc, left, wake, on, held, got, code, since⟩, progA, progC⟩ := x
  simp only at hs hw
  subst hs
  have HI : Hid (StIn w (w.alloc (.cells (procVs (⟨⟨id, prio, prog, 6, pc, left, wake, on, held, got, code, since⟩, progA, progC⟩ : ProcD)) 43)) (⟨⟨id, prio, prog, 6, pc, left, wake, on, held, got, code, since⟩, progA, progC⟩ : ProcD)) := StIn.start hf
  have HE : Hid (stateB (⟨id, prio, prog, 6, pc, left, wake, on, held, got, code, since⟩ : ProcP) = (hasOpB (⟨id, prio, prog, 6, pc, left, wake, on, held, got, code, since⟩ : ProcP) && decide (left = 0) && wakeB wake && emptyB held)) := by show stateB _ = _; simp [stateB]
  clear hf
  unfold procVs at *
  have HW0 : Hid (inB wake 1 2000000000 = true) := hw
  clear hw
  cases h0 : hasOpB (⟨id, prio, prog, 6, pc, left, wake, on, held, got, code, since⟩ : ProcP)
  · have HV : Hid (stateB (⟨id, prio, prog, 6, pc, left, wake, on, held, got, code, since⟩ : ProcP) = false) := by show stateB _ = false; rw [HE.out]; simp [h0]
    have HOP : Hid (hasOpB (⟨id, prio, prog, 6, pc, left, wake, on, held, got, code, since⟩ : ProcP) = false) := h0
    clear h0 HE
    obtain ⟨c0, c1, c2, c3, c4, c5, c6, c7, c8, c9, c10, c11⟩ := proc_cells HI.out.box
    unfold procVs at *
    go_enter Tryz.func286, Tryz.ntmps286
    go_wp2_with (first
          | (go_at_call 229
             refine (hasOp_any (⟨⟨id, prio, prog, 6, pc, left, wake, on, held, got, code, since⟩, progA, progC⟩ : ProcD) _ HI.out.fit.1.prog).mono ?_
             rintro e w1 ⟨rfl, hb1⟩
             have HI : Hid (StIn w w1 (⟨⟨id, prio, prog, 6, pc, left, wake, on, held, got, code, since⟩, progA, progC⟩ : ProcD)) := HI.out.below hb1
             obtain ⟨c0, c1, c2, c3, c4, c5, c6, c7, c8, c9, c10, c11⟩ := proc_cells HI.out.box
             clear hb1
             rw [HOP.out]))
    go_ret
    exact ⟨ret_bool (by rw [HV.out]), HI.out.bel⟩
  have HOP : Hid (hasOpB (⟨id, prio, prog, 6, pc, left, wake, on, held, got, code, since⟩ : ProcP) = true) := h0
  clear h0
  by_cases h1 : left = 0
  rotate_left
  · have HV : Hid (stateB (⟨id, prio, prog, 6, pc, left, wake, on, held, got, code, since⟩ : ProcP) = false) := by show stateB _ = false; rw [HE.out]; simp [h1]
    have h1' : (left == 0) = false := by simp [h1]
    clear h1 HE
    obtain ⟨c0, c1, c2, c3, c4, c5, c6, c7, c8, c9, c10, c11⟩ := proc_cells HI.out.box
    unfold procVs at *
    go_enter Tryz.func286, Tryz.ntmps286
    go_wp2_with (first
          | (go_at_call 229
             refine (hasOp_any (⟨⟨id, prio, prog, 6, pc, left, wake, on, held, got, code, since⟩, progA, progC⟩ : ProcD) _ HI.out.fit.1.prog).mono ?_
             rintro e w1 ⟨rfl, hb1⟩
             have HI : Hid (StIn w w1 (⟨⟨id, prio, prog, 6, pc, left, wake, on, held, got, code, since⟩, progA, progC⟩ : ProcD)) := HI.out.below hb1
             obtain ⟨c0, c1, c2, c3, c4, c5, c6, c7, c8, c9, c10, c11⟩ := proc_cells HI.out.box
             clear hb1
             rw [HOP.out]))
    go_ret
    exact ⟨ret_bool (by rw [HV.out]), HI.out.bel⟩
  subst h1
  have HWK : Hid (inB wake 1 2000000000 = true) := HW0.out
  have HWB : Hid (wakeB wake = true) := by show wakeB wake = true; simp [wakeB, HW0.out]
  by_cases h3 : held.toList = []
  rotate_left
  · have HV : Hid (stateB (⟨id, prio, prog, 6, pc, 0, wake, on, held, got, code, since⟩ : ProcP) = false) := by show stateB _ = false; rw [HE.out]; simp [emptyB_no h3]
    have h3' : ¬ [] = held.toList := fun h => h3 h.symm
    clear HE
    obtain ⟨c0, c1, c2, c3, c4, c5, c6, c7, c8, c9, c10, c11⟩ := proc_cells HI.out.box
    unfold procVs at *
    go_enter Tryz.func286, Tryz.ntmps286
    go_wp2_with (first
          | (go_at_call 229
             refine (hasOp_any (⟨⟨id, prio, prog, 6, pc, 0, wake, on, held, got, code, since⟩, progA, progC⟩ : ProcD) _ HI.out.fit.1.prog).mono ?_
             rintro e w1 ⟨rfl, hb1⟩
             have HI : Hid (StIn w w1 (⟨⟨id, prio, prog, 6, pc, 0, wake, on, held, got, code, since⟩, progA, progC⟩ : ProcD)) := HI.out.below hb1
             obtain ⟨c0, c1, c2, c3, c4, c5, c6, c7, c8, c9, c10, c11⟩ := proc_cells HI.out.box
             clear hb1
             rw [HOP.out])
          | (go_at_call 289
             refine (isWake_any wake _).mono ?_
             rintro e w1 ⟨rfl, hw1⟩
             rw [HWK.out, hw1]
             clear hw1 w1))
    go_ret
    exact ⟨ret_bool (by rw [HV.out]; simp [h3]), HI.out.bel⟩
  have HV : Hid (stateB (⟨id, prio, prog, 6, pc, 0, wake, on, held, got, code, since⟩ : ProcP) = true) := by show stateB _ = true; rw [HE.out]; simp [HOP.out, HWB.out, emptyB_yes h3]
  obtain ⟨c0, c1, c2, c3, c4, c5, c6, c7, c8, c9, c10, c11⟩ := proc_cells HI.out.box
  unfold procVs at *
  clear HE
  go_enter Tryz.func286, Tryz.ntmps286
  go_wp2_with (first
        | (go_at_call 229
           refine (hasOp_any (⟨⟨id, prio, prog, 6, pc, 0, wake, on, held, got, code, since⟩, progA, progC⟩ : ProcD) _ HI.out.fit.1.prog).mono ?_
           rintro e w1 ⟨rfl, hb1⟩
           have HI : Hid (StIn w w1 (⟨⟨id, prio, prog, 6, pc, 0, wake, on, held, got, code, since⟩, progA, progC⟩ : ProcD)) := HI.out.below hb1
           obtain ⟨c0, c1, c2, c3, c4, c5, c6, c7, c8, c9, c10, c11⟩ := proc_cells HI.out.box
           clear hb1
           rw [HOP.out])
        | (go_at_call 289
           refine (isWake_any wake _).mono ?_
           rintro e w1 ⟨rfl, hw1⟩
           rw [HWK.out, hw1]
           clear hw1 w1))
  go_ret
  exact ⟨ret_bool (by rw [HV.out]), HI.out.bel⟩

set_option maxRecDepth 100000 in
set_option maxHeartbeats 4000000 in
theorem stateOk_s6M (x : ProcD) (w : World) (hf : ProcFit w x) (hs : x.state = 6) (hw : inB x.wake 1 2000000000 = false) (hm : x.wake = -1) : Calls Tryz.prog 286 #[.agg (procVs x)] w fun e w' => e = .returned (.bool (stateB x.toProcP)) ∧ Below w.heap.size w w' := by
  obtain ⟨⟨id, prio, prog, state, pc, left, wake, on, held, got, code, since⟩, progA, progC⟩ := x
  simp only at hs hw hm
  subst hs
  have HI : Hid (StIn w (w.alloc (.cells (procVs (⟨⟨id, prio, prog, 6, pc, left, wake, on, held, got, code, since⟩, progA, progC⟩ : ProcD)) 43)) (⟨⟨id, prio, prog, 6, pc, left, wake, on, held, got, code, since⟩, progA, progC⟩ : ProcD)) := StIn.start hf
  have HE : Hid (stateB (⟨id, prio, prog, 6, pc, left, wake, on, held, got, code, since⟩ : ProcP) = (hasOpB (⟨id, prio, prog, 6, pc, left, wake, on, held, got, code, since⟩ : ProcP) && decide (left = 0) && wakeB wake && emptyB held)) := by show stateB _ = _; simp [stateB]
  clear hf
  unfold procVs at *
  have HW0 : Hid (inB wake 1 2000000000 = false) := hw
  have HM0 : Hid (wake = -1) := hm
  clear hw hm
  cases h0 : hasOpB (⟨id, prio, prog, 6, pc, left, wake, on, held, got, code, since⟩ : ProcP)
  · have HV : Hid (stateB (⟨id, prio, prog, 6, pc, left, wake, on, held, got, code, since⟩ : ProcP) = false) := by show stateB _ = false; rw [HE.out]; simp [h0]
    have HOP : Hid (hasOpB (⟨id, prio, prog, 6, pc, left, wake, on, held, got, code, since⟩ : ProcP) = false) := h0
    clear h0 HE
    obtain ⟨c0, c1, c2, c3, c4, c5, c6, c7, c8, c9, c10, c11⟩ := proc_cells HI.out.box
    unfold procVs at *
    go_enter Tryz.func286, Tryz.ntmps286
    go_wp2_with (first
          | (go_at_call 229
             refine (hasOp_any (⟨⟨id, prio, prog, 6, pc, left, wake, on, held, got, code, since⟩, progA, progC⟩ : ProcD) _ HI.out.fit.1.prog).mono ?_
             rintro e w1 ⟨rfl, hb1⟩
             have HI : Hid (StIn w w1 (⟨⟨id, prio, prog, 6, pc, left, wake, on, held, got, code, since⟩, progA, progC⟩ : ProcD)) := HI.out.below hb1
             obtain ⟨c0, c1, c2, c3, c4, c5, c6, c7, c8, c9, c10, c11⟩ := proc_cells HI.out.box
             clear hb1
             rw [HOP.out]))
    go_ret
    exact ⟨ret_bool (by rw [HV.out]), HI.out.bel⟩
  have HOP : Hid (hasOpB (⟨id, prio, prog, 6, pc, left, wake, on, held, got, code, since⟩ : ProcP) = true) := h0
  clear h0
  by_cases h1 : left = 0
  rotate_left
  · have HV : Hid (stateB (⟨id, prio, prog, 6, pc, left, wake, on, held, got, code, since⟩ : ProcP) = false) := by show stateB _ = false; rw [HE.out]; simp [h1]
    have h1' : (left == 0) = false := by simp [h1]
    clear h1 HE
    obtain ⟨c0, c1, c2, c3, c4, c5, c6, c7, c8, c9, c10, c11⟩ := proc_cells HI.out.box
    unfold procVs at *
    go_enter Tryz.func286, Tryz.ntmps286
    go_wp2_with (first
          | (go_at_call 229
             refine (hasOp_any (⟨⟨id, prio, prog, 6, pc, left, wake, on, held, got, code, since⟩, progA, progC⟩ : ProcD) _ HI.out.fit.1.prog).mono ?_
             rintro e w1 ⟨rfl, hb1⟩
             have HI : Hid (StIn w w1 (⟨⟨id, prio, prog, 6, pc, left, wake, on, held, got, code, since⟩, progA, progC⟩ : ProcD)) := HI.out.below hb1
             obtain ⟨c0, c1, c2, c3, c4, c5, c6, c7, c8, c9, c10, c11⟩ := proc_cells HI.out.box
             clear hb1
             rw [HOP.out]))
    go_ret
    exact ⟨ret_bool (by rw [HV.out]), HI.out.bel⟩
  subst h1
  have HWK : Hid (inB wake 1 2000000000 = false) := HW0.out
  have HM : Hid ((wake == -1) = true) := by show (wake == -1) = true; simp [HM0.out]
  have HWB : Hid (wakeB wake = true) := by show wakeB wake = true; simp [wakeB, HM0.out]
  by_cases h3 : held.toList = []
  rotate_left
  · have HV : Hid (stateB (⟨id, prio, prog, 6, pc, 0, wake, on, held, got, code, since⟩ : ProcP) = false) := by show stateB _ = false; rw [HE.out]; simp [emptyB_no h3]
    have h3' : ¬ [] = held.toList := fun h => h3 h.symm
    clear HE
    obtain ⟨c0, c1, c2, c3, c4, c5, c6, c7, c8, c9, c10, c11⟩ := proc_cells HI.out.box
    unfold procVs at *
    go_enter Tryz.func286, Tryz.ntmps286
    go_wp2_with (first
          | (go_at_call 229
             refine (hasOp_any (⟨⟨id, prio, prog, 6, pc, 0, wake, on, held, got, code, since⟩, progA, progC⟩ : ProcD) _ HI.out.fit.1.prog).mono ?_
             rintro e w1 ⟨rfl, hb1⟩
             have HI : Hid (StIn w w1 (⟨⟨id, prio, prog, 6, pc, 0, wake, on, held, got, code, since⟩, progA, progC⟩ : ProcD)) := HI.out.below hb1
             obtain ⟨c0, c1, c2, c3, c4, c5, c6, c7, c8, c9, c10, c11⟩ := proc_cells HI.out.box
             clear hb1
             rw [HOP.out])
          | (go_at_call 289
             refine (isWake_any wake _).mono ?_
             rintro e w1 ⟨rfl, hw1⟩
             rw [HWK.out, hw1]
             have hm2 : (wake == -1) = true := HM.out
             clear hw1 w1))
    go_ret
    exact ⟨ret_bool (by rw [HV.out]; simp [h3]), HI.out.bel⟩
  have HV : Hid (stateB (⟨id, prio, prog, 6, pc, 0, wake, on, held, got, code, since⟩ : ProcP) = true) := by show stateB _ = true; rw [HE.out]; simp [HOP.out, HWB.out, emptyB_yes h3]
  obtain ⟨c0, c1, c2, c3, c4, c5, c6, c7, c8, c9, c10, c11⟩ := proc_cells HI.out.box
  unfold procVs at *
  clear HE
  go_enter Tryz.func286, Tryz.ntmps286
  go_wp2_with (first
        | (go_at_call 229
           refine (hasOp_any (⟨⟨id, prio, prog, 6, pc, 0, wake, on, held, got, code, since⟩, progA, progC⟩ : ProcD) _ HI.out.fit.1.prog).mono ?_
           rintro e w1 ⟨rfl, hb1⟩
           have HI : Hid (StIn w w1 (⟨⟨id, prio, prog, 6, pc, 0, wake, on, held, got, code, since⟩, progA, progC⟩ : ProcD)) := HI.out.below hb1
           obtain ⟨c0, c1, c2, c3, c4, c5, c6, c7, c8, c9, c10, c11⟩ := proc_cells HI.out.box
           clear hb1
           rw [HOP.out])
        | (go_at_call 289
           refine (isWake_any wake _).mono ?_
           rintro e w1 ⟨rfl, hw1⟩
           rw [HWK.out, hw1]
           have hm2 : (wake == -1) = true := HM.out
           clear hw1 w1))
  go_ret
  exact ⟨ret_bool (by rw [HV.out]), HI.out.bel⟩

set_option maxRecDepth 100000 in
set_option maxHeartbeats 4000000 in
theorem stateOk_s6F (x : ProcD) (w : World) (hf : ProcFit w x) (hs : x.state = 6) (hw : inB x.wake 1 2000000000 = false) (hm : ¬ x.wake = -1) : Calls Tryz.prog 286 #[.agg (procVs x)] w fun e w' => e = .returned (.bool (stateB x.toProcP)) ∧ Below w.heap.size w w' := by
  obtain ⟨⟨id, prio, prog, state, pc, left, wake, on, held, got, code, since⟩, progA, progC⟩ := x
  simp only at hs hw hm
  subst hs
  have HI : Hid (StIn w (w.alloc (.cells (procVs (⟨⟨id, prio, prog, 6, pc, left, wake, on, held, got, code, since⟩, progA, progC⟩ : ProcD)) 43)) (⟨⟨id, prio, prog, 6, pc, left, wake, on, held, got, code, since⟩, progA, progC⟩ : ProcD)) := StIn.start hf
  have HE : Hid (stateB (⟨id, prio, prog, 6, pc, left, wake, on, held, got, code, since⟩ : ProcP) = (hasOpB (⟨id, prio, prog, 6, pc, left, wake, on, held, got, code, since⟩ : ProcP) && decide (left = 0) && wakeB wake && emptyB held)) := by show stateB _ = _; simp [stateB]
  clear hf
  unfold procVs at *
  have HW0 : Hid (inB wake 1 2000000000 = false) := hw
  have HM0 : Hid (¬ wake = -1) := hm
  clear hw hm
  cases h0 : hasOpB (⟨id, prio, prog, 6, pc, left, wake, on, held, got, code, since⟩ : ProcP)
  · have HV : Hid (stateB (⟨id, prio, prog, 6, pc, left, wake, on, held, got, code, since⟩ : ProcP) = false) := by show stateB _ = false; rw [HE.out]; simp [h0]
    have HOP : Hid (hasOpB (⟨id, prio, prog, 6, pc, left, wake, on, held, got, code, since⟩ : ProcP) = false) := h0
    clear h0 HE
    obtain ⟨c0, c1, c2, c3, c4, c5, c6, c7, c8, c9, c10, c11⟩ := proc_cells HI.out.box
    unfold procVs at *
    go_enter Tryz.func286, Tryz.ntmps286
    go_wp2_with (first
          | (go_at_call 229
             refine (hasOp_any (⟨⟨id, prio, prog, 6, pc, left, wake, on, held, got, code, since⟩, progA, progC⟩ : ProcD) _ HI.out.fit.1.prog).mono ?_
             rintro e w1 ⟨rfl, hb1⟩
             have HI : Hid (StIn w w1 (⟨⟨id, prio, prog, 6, pc, left, wake, on, held, got, code, since⟩, progA, progC⟩ : ProcD)) := HI.out.below hb1
             obtain ⟨c0, c1, c2, c3, c4, c5, c6, c7, c8, c9, c10, c11⟩ := proc_cells HI.out.box
             clear hb1
             rw [HOP.out]))
    go_ret
    exact ⟨ret_bool (by rw [HV.out]), HI.out.bel⟩
  have HOP : Hid (hasOpB (⟨id, prio, prog, 6, pc, left, wake, on, held, got, code, since⟩ : ProcP) = true) := h0
  clear h0
  by_cases h1 : left = 0
  rotate_left
  · have HV : Hid (stateB (⟨id, prio, prog, 6, pc, left, wake, on, held, got, code, since⟩ : ProcP) = false) := by show stateB _ = false; rw [HE.out]; simp [h1]
    have h1' : (left == 0) = false := by simp [h1]
    clear h1 HE
    obtain ⟨c0, c1, c2, c3, c4, c5, c6, c7, c8, c9, c10, c11⟩ := proc_cells HI.out.box
    unfold procVs at *
    go_enter Tryz.func286, Tryz.ntmps286
    go_wp2_with (first
          | (go_at_call 229
             refine (hasOp_any (⟨⟨id, prio, prog, 6, pc, left, wake, on, held, got, code, since⟩, progA, progC⟩ : ProcD) _ HI.out.fit.1.prog).mono ?_
             rintro e w1 ⟨rfl, hb1⟩
             have HI : Hid (StIn w w1 (⟨⟨id, prio, prog, 6, pc, left, wake, on, held, got, code, since⟩, progA, progC⟩ : ProcD)) := HI.out.below hb1
             obtain ⟨c0, c1, c2, c3, c4, c5, c6, c7, c8, c9, c10, c11⟩ := proc_cells HI.out.box
             clear hb1
             rw [HOP.out]))
    go_ret
    exact ⟨ret_bool (by rw [HV.out]), HI.out.bel⟩
  subst h1
  have HWK : Hid (inB wake 1 2000000000 = false) := HW0.out
  have hm' : (wake == -1) = false := by simp [HM0.out]
  have HWB : Hid (wakeB wake = false) := by show wakeB wake = false; simp [wakeB, HW0.out, HM0.out]
  have HV : Hid (stateB (⟨id, prio, prog, 6, pc, 0, wake, on, held, got, code, since⟩ : ProcP) = false) := by show stateB _ = false; rw [HE.out]; simp [HWB.out]
  obtain ⟨c0, c1, c2, c3, c4, c5, c6, c7, c8, c9, c10, c11⟩ := proc_cells HI.out.box
  unfold procVs at *
  clear HE
  go_enter Tryz.func286, Tryz.ntmps286
  go_wp2_with (first
        | (go_at_call 229
           refine (hasOp_any (⟨⟨id, prio, prog, 6, pc, 0, wake, on, held, got, code, since⟩, progA, progC⟩ : ProcD) _ HI.out.fit.1.prog).mono ?_
           rintro e w1 ⟨rfl, hb1⟩
           have HI : Hid (StIn w w1 (⟨⟨id, prio, prog, 6, pc, 0, wake, on, held, got, code, since⟩, progA, progC⟩ : ProcD)) := HI.out.below hb1
           obtain ⟨c0, c1, c2, c3, c4, c5, c6, c7, c8, c9, c10, c11⟩ := proc_cells HI.out.box
           clear hb1
           rw [HOP.out])
        | (go_at_call 289
           refine (isWake_any wake _).mono ?_
           rintro e w1 ⟨rfl, hw1⟩
           rw [HWK.out, hw1]
           clear hw1 w1))
  go_ret
  exact ⟨ret_bool (by rw [HV.out]), HI.out.bel⟩

set_option maxRecDepth 100000 in
set_option maxHeartbeats 4000000 in
theorem stateOk_s7T (x : ProcD) (w : World) (hf : ProcFit w x) (hs : x.state = 7) (hw : inB x.wake 1 2000000000 = true) : Calls Tryz.prog 286 #[.agg (procVs x)] w fun e w' => e = .returned (.bool (stateB x.toProcP)) ∧ Below w.heap.size w w' := by
  obtain ⟨⟨id, prio, prog, state, pc, left, wake, on, held, got, code, since⟩, progA, progC⟩ := x
  simp only at hs hw
  subst hs
  have HI : Hid (StIn w (w.alloc (.cells (procVs (⟨⟨id, prio, prog, 7, pc, left, wake, on, held, got, code, since⟩, progA, progC⟩ : ProcD)) 43)) (⟨⟨id, prio, prog, 7, pc, left, wake, on, held, got, code, since⟩, progA, progC⟩ : ProcD)) := StIn.start hf
  have HE : Hid (stateB (⟨id, prio, prog, 7, pc, left, wake, on, held, got, code, since⟩ : ProcP) = (hasOpB (⟨id, prio, prog, 7, pc, left, wake, on, held, got, code, since⟩ : ProcP) && decide (left = 0) && wakeB wake && emptyB held)) := by show stateB _ = _; simp [stateB]
  clear hf
  unfold procVs at *
  have HW0 : Hid (inB wake 1 2000000000 = true) := hw
  clear hw
  cases h0 : hasOpB (⟨id, prio, prog, 7, pc, left, wake, on, held, got, code, since⟩ : ProcP)
  · have HV : Hid (stateB (⟨id, prio, prog, 7, pc, left, wake, on, held, got, code, since⟩ : ProcP) = false) := by show stateB _ = false; rw [HE.out]; simp [h0]
    have HOP : Hid (hasOpB (⟨id, prio, prog, 7, pc, left, wake, on, held, got, code, since⟩ : ProcP) = false) := h0
    clear h0 HE
    obtain ⟨c0, c1, c2, c3, c4, c5, c6, c7, c8, c9, c10, c11⟩ := proc_cells HI.out.box
    unfold procVs at *
    go_enter Tryz.func286, Tryz.ntmps286
    go_wp2_with (first
          | (go_at_call 229
             refine (hasOp_any (⟨⟨id, prio, prog, 7, pc, left, wake, on, held, got, code, since⟩, progA, progC⟩ : ProcD) _ HI.out.fit.1.prog).mono ?_
             rintro e w1 ⟨rfl, hb1⟩
             have HI : Hid (StIn w w1 (⟨⟨id, prio, prog, 7, pc, left, wake, on, held, got, code, since⟩, progA, progC⟩ : ProcD)) := HI.out.below hb1
             obtain ⟨c0, c1, c2, c3, c4, c5, c6, c7, c8, c9, c10, c11⟩ := proc_cells HI.out.box
             clear hb1
             rw [HOP.out]))
    go_ret
    exact ⟨ret_bool (by rw [HV.out]), HI.out.bel⟩
  have HOP : Hid (hasOpB (⟨id, prio, prog, 7, pc, left, wake, on, held, got, code, since⟩ : ProcP) = true) := h0
  clear h0
  by_cases h1 : left = 0
  rotate_left
  · have HV : Hid (stateB (⟨id, prio, prog, 7, pc, left, wake, on, held, got, code, since⟩ : ProcP) = false) := by show stateB _ = false; rw [HE.out]; simp [h1]
    have h1' : (left == 0) = false := by simp [h1]
    clear h1 HE
    obtain ⟨c0, c1, c2, c3, c4, c5, c6, c7, c8, c9, c10, c11⟩ := proc_cells HI.out.box
    unfold procVs at *
    go_enter Tryz.func286, Tryz.ntmps286
    go_wp2_with (first
          | (go_at_call 229
             refine (hasOp_any (⟨⟨id, prio, prog, 7, pc, left, wake, on, held, got, code, since⟩, progA, progC⟩ : ProcD) _ HI.out.fit.1.prog).mono ?_
             rintro e w1 ⟨rfl, hb1⟩
             have HI : Hid (StIn w w1 (⟨⟨id, prio, prog, 7, pc, left, wake, on, held, got, code, since⟩, progA, progC⟩ : ProcD)) := HI.out.below hb1
             obtain ⟨c0, c1, c2, c3, c4, c5, c6, c7, c8, c9, c10, c11⟩ := proc_cells HI.out.box
             clear hb1
             rw [HOP.out]))
    go_ret
    exact ⟨ret_bool (by rw [HV.out]), HI.out.bel⟩
  subst h1
  have HWK : Hid (inB wake 1 2000000000 = true) := HW0.out
  have HWB : Hid (wakeB wake = true) := by show wakeB wake = true; simp [wakeB, HW0.out]
  by_cases h3 : held.toList = []
  rotate_left
  · have HV : Hid (stateB (⟨id, prio, prog, 7, pc, 0, wake, on, held, got, code, since⟩ : ProcP) = false) := by show stateB _ = false; rw [HE.out]; simp [emptyB_no h3]
    have h3' : ¬ [] = held.toList := fun h => h3 h.symm
    clear HE
    obtain ⟨c0, c1, c2, c3, c4, c5, c6, c7, c8, c9, c10, c11⟩ := proc_cells HI.out.box
    unfold procVs at *
    go_enter Tryz.func286, Tryz.ntmps286
    go_wp2_with (first
          | (go_at_call 229
             refine (hasOp_any (⟨⟨id, prio, prog, 7, pc, 0, wake, on, held, got, code, since⟩, progA, progC⟩ : ProcD) _ HI.out.fit.1.prog).mono ?_
             rintro e w1 ⟨rfl, hb1⟩
             have HI : Hid (StIn w w1 (⟨⟨id, prio, prog, 7, pc, 0, wake, on, held, got, code, since⟩, progA, progC⟩ : ProcD)) := HI.out.below hb1
             obtain ⟨c0, c1, c2, c3, c4, c5, c6, c7, c8, c9, c10, c11⟩ := proc_cells HI.out.box
             clear hb1
             rw [HOP.out])
          | (go_at_call 289
             refine (isWake_any wake _).mono ?_
             rintro e w1 ⟨rfl, hw1⟩
             rw [HWK.out, hw1]
             clear hw1 w1))
    go_ret
    exact ⟨ret_bool (by rw [HV.out]; simp [h3]), HI.out.bel⟩
  have HV : Hid (stateB (⟨id, prio, prog, 7, pc, 0, wake, on, held, got, code, since⟩ : ProcP) = true) := by show stateB _ = true; rw [HE.out]; simp [HOP.out, HWB.out, emptyB_yes h3]
  obtain ⟨c0, c1, c2, c3, c4, c5, c6, c7, c8, c9, c10, c11⟩ := proc_cells HI.out.box
  unfold procVs at *
  clear HE
  go_enter Tryz.func286, Tryz.ntmps286
  go_wp2_with (first
        | (go_at_call 229
           refine (hasOp_any (⟨⟨id, prio, prog, 7, pc, 0, wake, on, held, got, code, since⟩, progA, progC⟩ : ProcD) _ HI.out.fit.1.prog).mono ?_
           rintro e w1 ⟨rfl, hb1⟩
           have HI : Hid (StIn w w1 (⟨⟨id, prio, prog, 7, pc, 0, wake, on, held, got, code, since⟩, progA, progC⟩ : ProcD)) := HI.out.below hb1
           obtain ⟨c0, c1, c2, c3, c4, c5, c6, c7, c8, c9, c10, c11⟩ := proc_cells HI.out.box
           clear hb1
           rw [HOP.out])
        | (go_at_call 289
           refine (isWake_any wake _).mono ?_
           rintro e w1 ⟨rfl, hw1⟩
           rw [HWK.out, hw1]
           clear hw1 w1))
  go_ret
  exact ⟨ret_bool (by rw [HV.out]), HI.out.bel⟩

set_option maxRecDepth 100000 in
set_option maxHeartbeats 4000000 in
theorem stateOk_s7M (x : ProcD) (w : World) (hf : ProcFit w x) (hs : x.state = 7) (hw : inB x.wake 1 2000000000 = false) (hm : x.wake = -1) : Calls Tryz.prog 286 #[.agg (procVs x)] w fun e w' => e = .returned (.bool (stateB x.toProcP)) ∧ Below w.heap.size w w' := by
  obtain ⟨⟨id, prio, prog, state, pc, left, wake, on, held, got, code, since⟩, progA, progC⟩ := x
  simp only at hs hw hm
  subst hs
  have HI : Hid (StIn w (w.alloc (.cells (procVs (⟨⟨id, prio, prog, 7, pc, left, wake, on, held, got, code, since⟩, progA, progC⟩ : ProcD)) 43)) (⟨⟨id, prio, prog, 7, pc, left, wake, on, held, got, code, since⟩, progA, progC⟩ : ProcD)) := StIn.start hf
  have HE : Hid (stateB (⟨id, prio, prog, 7, pc, left, wake, on, held, got, code, since⟩ : ProcP) = (hasOpB (⟨id, prio, prog, 7, pc, left, wake, on, held, got, code, since⟩ : ProcP) && decide (left = 0) && wakeB wake && emptyB held)) := by show stateB _ = _; simp [stateB]
  clear hf
  unfold procVs at *
  have HW0 : Hid (inB wake 1 2000000000 = false) := hw
  have HM0 : Hid (wake = -1) := hm
  clear hw hm
  cases h0 : hasOpB (⟨id, prio, prog, 7, pc, left, wake, on, held, got, code, since⟩ : ProcP)
  · have HV : Hid (stateB (⟨id, prio, prog, 7, pc, left, wake, on, held, got, code, since⟩ : ProcP) = false) := by show stateB _ = false; rw [HE.out]; simp [h0]
    have HOP : Hid (hasOpB (⟨id, prio, prog, 7, pc, left, wake, on, held, got, code, since⟩ : ProcP) = false) := h0
    clear h0 HE
    obtain ⟨c0, c1, c2, c3, c4, c5, c6, c7, c8, c9, c10, c11⟩ := proc_cells HI.out.box
    unfold procVs at *
    go_enter Tryz.func286, Tryz.ntmps286
    go_wp2_with (first
          | (go_at_call 229
             refine (hasOp_any (⟨⟨id, prio, prog, 7, pc, left, wake, on, held, got, code, since⟩, progA, progC⟩ : ProcD) _ HI.out.fit.1.prog).mono ?_
             rintro e w1 ⟨rfl, hb1⟩
             have HI : Hid (StIn w w1 (⟨⟨id, prio, prog, 7, pc, left, wake, on, held, got, code, since⟩, progA, progC⟩ : ProcD)) := HI.out.below hb1
             obtain ⟨c0, c1, c2, c3, c4, c5, c6, c7, c8, c9, c10, c11⟩ := proc_cells HI.out.box
             clear hb1
             rw [HOP.out]))
    go_ret
    exact ⟨ret_bool (by rw [HV.out]), HI.out.bel⟩
  have HOP : Hid (hasOpB (⟨id, prio, prog, 7, pc, left, wake, on, held, got, code, since⟩ : ProcP) = true) := h0
  clear h0
  by_cases h1 : left = 0
  rotate_left
  · have HV : Hid (stateB (⟨id, prio, prog, 7, pc, left, wake, on, held, got, code, since⟩ : ProcP) = false) := by show stateB _ = false; rw [HE.out]; simp [h1]
    have h1' : (left == 0) = false := by simp [h1]
    clear h1 HE
    obtain ⟨c0, c1, c2, c3, c4, c5, c6, c7, c8, c9, c10, c11⟩ := proc_cells HI.out.box
    unfold procVs at *
    go_enter Tryz.func286, Tryz.ntmps286
    go_wp2_with (first
          | (go_at_call 229
             refine (hasOp_any (⟨⟨id, prio, prog, 7, pc, left, wake, on, held, got, code, since⟩, progA, progC⟩ : ProcD) _ HI.out.fit.1.prog).mono ?_
             rintro e w1 ⟨rfl, hb1⟩
             have HI : Hid (StIn w w1 (⟨⟨id, prio, prog, 7, pc, left, wake, on, held, got, code, since⟩, progA, progC⟩ : ProcD)) := HI.out.below hb1
             obtain ⟨c0, c1, c2, c3, c4, c5, c6, c7, c8, c9, c10, c11⟩ := proc_cells HI.out.box
             clear hb1
             rw [HOP.out]))
    go_ret
    exact ⟨ret_bool (by rw [HV.out]), HI.out.bel⟩
  subst h1
  have HWK : Hid (inB wake 1 2000000000 = false) := HW0.out
  have HM : Hid ((wake == -1) = true) := by show (wake == -1) = true; simp [HM0.out]
  have HWB : Hid (wakeB wake = true) := by show wakeB wake = true; simp [wakeB, HM0.out]
  by_cases h3 : held.toList = []
  rotate_left
  · have HV : Hid (stateB (⟨id, prio, prog, 7, pc, 0, wake, on, held, got, code, since⟩ : ProcP) = false) := by show stateB _ = false; rw [HE.out]; simp [emptyB_no h3]
    have h3' : ¬ [] = held.toList := fun h => h3 h.symm
    clear HE
    obtain ⟨c0, c1, c2, c3, c4, c5, c6, c7, c8, c9, c10, c11⟩ := proc_cells HI.out.box
    unfold procVs at *
    go_enter Tryz.func286, Tryz.ntmps286
    go_wp2_with (first
          | (go_at_call 229
             refine (hasOp_any (⟨⟨id, prio, prog, 7, pc, 0, wake, on, held, got, code, since⟩, progA, progC⟩ : ProcD) _ HI.out.fit.1.prog).mono ?_
             rintro e w1 ⟨rfl, hb1⟩
             have HI : Hid (StIn w w1 (⟨⟨id, prio, prog, 7, pc, 0, wake, on, held, got, code, since⟩, progA, progC⟩ : ProcD)) := HI.out.below hb1
             obtain ⟨c0, c1, c2, c3, c4, c5, c6, c7, c8, c9, c10, c11⟩ := proc_cells HI.out.box
             clear hb1
             rw [HOP.out])
          | (go_at_call 289
             refine (isWake_any wake _).mono ?_
             rintro e w1 ⟨rfl, hw1⟩
             rw [HWK.out, hw1]
             have hm2 : (wake == -1) = true := HM.out
             clear hw1 w1))
    go_ret
    exact ⟨ret_bool (by rw [HV.out]; simp [h3]), HI.out.bel⟩
  have HV : Hid (stateB (⟨id, prio, prog, 7, pc, 0, wake, on, held, got, code, since⟩ : ProcP) = true) := by show stateB _ = true; rw [HE.out]; simp [HOP.out, HWB.out, emptyB_yes h3]
  obtain ⟨c0, c1, c2, c3, c4, c5, c6, c7, c8, c9, c10, c11⟩ := proc_cells HI.out.box
  unfold procVs at *
  clear HE
  go_enter Tryz.func286, Tryz.ntmps286
  go_wp2_with (first
        | (go_at_call 229
           refine (hasOp_any (⟨⟨id, prio, prog, 7, pc, 0, wake, on, held, got, code, since⟩, progA, progC⟩ : ProcD) _ HI.out.fit.1.prog).mono ?_
           rintro e w1 ⟨rfl, hb1⟩
           have HI : Hid (StIn w w1 (⟨⟨id, prio, prog, 7, pc, 0, wake, on, held, got, code, since⟩, progA, progC⟩ : ProcD)) := HI.out.below hb1
           obtain ⟨c0, c1, c2, c3, c4, c5, c6, c7, c8, c9, c10, c11⟩ := proc_cells HI.out.box
           clear hb1
           rw [HOP.out])
        | (go_at_call 289
           refine (isWake_any wake _).mono ?_
           rintro e w1 ⟨rfl, hw1⟩
           rw [HWK.out, hw1]
           have hm2 : (wake == -1) = true := HM.out
           clear hw1 w1))
  go_ret
  exact ⟨ret_bool (by rw [HV.out]), HI.out.bel⟩

set_option maxRecDepth 100000 in
set_option maxHeartbeats 4000000 in
theorem stateOk_s7F (x : ProcD) (w : World) (hf : ProcFit w x) (hs : x.state = 7) (hw : inB x.wake 1 2000000000 = false) (hm : ¬ x.wake = -1) : Calls Tryz.prog 286 #[.agg (procVs x)] w fun e w' => e = .returned (.bool (stateB x.toProcP)) ∧ Below w.heap.size w w' := by
  obtain ⟨⟨id, prio, prog, state, pc, left, wake, on, held, got, code, since⟩, progA, progC⟩ := x
  simp only at hs hw hm
  subst hs
  have HI : Hid (StIn w (w.alloc (.cells (procVs (⟨⟨id, prio, prog, 7, pc, left, wake, on, held, got, code, since⟩, progA, progC⟩ : ProcD)) 43)) (⟨⟨id, prio, prog, 7, pc, left, wake, on, held, got, code, since⟩, progA, progC⟩ : ProcD)) := StIn.start hf
  have HE : Hid (stateB (⟨id, prio, prog, 7, pc, left, wake, on, held, got, code, since⟩ : ProcP) = (hasOpB (⟨id, prio, prog, 7, pc, left, wake, on, held, got, code, since⟩ : ProcP) && decide (left = 0) && wakeB wake && emptyB held)) := by show stateB _ = _; simp [stateB]
  clear hf
  unfold procVs at *
  have HW0 : Hid (inB wake 1 2000000000 = false) := hw
  have HM0 : Hid (¬ wake = -1) := hm
  clear hw hm
  cases h0 : hasOpB (⟨id, prio, prog, 7, pc, left, wake, on, held, got, code, since⟩ : ProcP)
  · have HV : Hid (stateB (⟨id, prio, prog, 7, pc, left, wake, on, held, got, code, since⟩ : ProcP) = false) := by show stateB _ = false; rw [HE.out]; simp [h0]
    have HOP : Hid (hasOpB (⟨id, prio, prog, 7, pc, left, wake, on, held, got, code, since⟩ : ProcP) = false) := h0
    clear h0 HE
    obtain ⟨c0, c1, c2, c3, c4, c5, c6, c7, c8, c9, c10, c11⟩ := proc_cells HI.out.box
    unfold procVs at *
    go_enter Tryz.func286, Tryz.ntmps286
    go_wp2_with (first
          | (go_at_call 229
             refine (hasOp_any (⟨⟨id, prio, prog, 7, pc, left, wake, on, held, got, code, since⟩, progA, progC⟩ : ProcD) _ HI.out.fit.1.prog).mono ?_
             rintro e w1 ⟨rfl, hb1⟩
             have HI : Hid (StIn w w1 (⟨⟨id, prio, prog, 7, pc, left, wake, on, held, got, code, since⟩, progA, progC⟩ : ProcD)) := HI.out.below hb1
             obtain ⟨c0, c1, c2, c3, c4, c5, c6, c7, c8, c9, c10, c11⟩ := proc_cells HI.out.box
             clear hb1
             rw [HOP.out]))
    go_ret
    exact ⟨ret_bool (by rw [HV.out]), HI.out.bel⟩
  have HOP : Hid (hasOpB (⟨id, prio, prog, 7, pc, left, wake, on, held, got, code, since⟩ : ProcP) = true) := h0
  clear h0
  by_cases h1 : left = 0
  rotate_left
  · have HV : Hid (stateB (⟨id, prio, prog, 7, pc, left, wake, on, held, got, code, since⟩ : ProcP) = false) := by show stateB _ = false; rw [HE.out]; simp [h1]
    have h1' : (left == 0) = false := by simp [h1]
    clear h1 HE
    obtain ⟨c0, c1, c2, c3, c4, c5, c6, c7, c8, c9, c10, c11⟩ := proc_cells HI.out.box
    unfold procVs at *
    go_enter Tryz.func286, Tryz.ntmps286
    go_wp2_with (first
          | (go_at_call 229
             refine (hasOp_any (⟨⟨id, prio, prog, 7, pc, left, wake, on, held, got, code, since⟩, progA, progC⟩ : ProcD) _ HI.out.fit.1.prog).mono ?_
             rintro e w1 ⟨rfl, hb1⟩
             have HI : Hid (StIn w w1 (⟨⟨id, prio, prog, 7, pc, left, wake, on, held, got, code, since⟩, progA, progC⟩ : ProcD)) := HI.out.below hb1
             obtain ⟨c0, c1, c2, c3, c4, c5, c6, c7, c8, c9, c10, c11⟩ := proc_cells HI.out.box
             clear hb1
             rw [HOP.out]))
    go_ret
    exact ⟨ret_bool (by rw [HV.out]), HI.out.bel⟩
  subst h1
  have HWK : Hid (inB wake 1 2000000000 = false) := HW0.out
  have hm' : (wake == -1) = false := by simp [HM0.out]
  have HWB : Hid (wakeB wake = false) := by show wakeB wake = false; simp [wakeB, HW0.out, HM0.out]
  have HV : Hid (stateB (⟨id, prio, prog, 7, pc, 0, wake, on, held, got, code, since⟩ : ProcP) = false) := by show stateB _ = false; rw [HE.out]; simp [HWB.out]
  obtain ⟨c0, c1, c2, c3, c4, c5, c6, c7, c8, c9, c10, c11⟩ := proc_cells HI.out.box
  unfold procVs at *
  clear HE
  go_enter Tryz.func286, Tryz.ntmps286
  go_wp2_with (first
        | (go_at_call 229
           refine (hasOp_any (⟨⟨id, prio, prog, 7, pc, 0, wake, on, held, got, code, since⟩, progA, progC⟩ : ProcD) _ HI.out.fit.1.prog).mono ?_
           rintro e w1 ⟨rfl, hb1⟩
           have HI : Hid (StIn w w1 (⟨⟨id, prio, prog, 7, pc, 0, wake, on, held, got, code, since⟩, progA, progC⟩ : ProcD)) := HI.out.below hb1
           obtain ⟨c0, c1, c2, c3, c4, c5, c6, c7, c8, c9, c10, c11⟩ := proc_cells HI.out.box
           clear hb1
           rw [HOP.out])
        | (go_at_call 289
           refine (isWake_any wake _).mono ?_
           rintro e w1 ⟨rfl, hw1⟩
           rw [HWK.out, hw1]
           clear hw1 w1))
  go_ret
  exact ⟨ret_bool (by rw [HV.out]), HI.out.bel⟩

set_option maxHeartbeats 1000000 in
theorem stateOk_none (x : ProcD) (w : World) (h0 : ¬ x.state = 0) (h1 : ¬ x.state = 1) (h2 : ¬ x.state = 2) (h3 : ¬ x.state = 3) (h4 : ¬ x.state = 4) (h5 : ¬ x.state = 5) (h6 : ¬ x.state = 6) (h7 : ¬ x.state = 7) : Calls Tryz.prog 286 #[.agg (procVs x)] w fun e w' => e = .returned (.bool (stateB x.toProcP)) ∧ Below w.heap.size w w' := by
  have HV : Hid (stateB x.toProcP = false) := by show stateB x.toProcP = false; simp [stateB, h0, h1, h2, h3, h4, h5, h6, h7]
  have s0 : (x.state == 0) = false := by simp [h0]
  have s1 : (x.state == 1) = false := by simp [h1]
  have s2 : (x.state == 2) = false := by simp [h2]
  have s3 : (x.state == 3) = false := by simp [h3]
  have s4 : (x.state == 4) = false := by simp [h4]
  have s5 : (x.state == 5) = false := by simp [h5]
  have s6 : (x.state == 6) = false := by simp [h6]
  have s7 : (x.state == 7) = false := by simp [h7]
  clear h0 h1 h2 h3 h4 h5 h6 h7
  unfold procVs
  go_enter Tryz.func286, Tryz.ntmps286
  go_wp2
  go_ret
  exact ⟨ret_bool HV.out.symm, (Below.refl _ _).alloc (Nat.le_refl _) _⟩
theorem stateOk_any (x : ProcD) (w : World) (hf : ProcFit w x) : Calls Tryz.prog 286 #[.agg (procVs x)] w fun e w' => e = .returned (.bool (stateB x.toProcP)) ∧ Below w.heap.size w w' := by
  by_cases h0 : x.state = 0
  · exact stateOk_s0 x w hf h0
  by_cases h1 : x.state = 1
  · exact stateOk_s1 x w hf h1
  by_cases h2 : x.state = 2
  · exact stateOk_s2 x w hf h2
  by_cases h3 : x.state = 3
  · cases hw : inB x.wake 1 2000000000 with
    | true => exact stateOk_s3T x w hf h3 hw
    | false =>
      by_cases hm : x.wake = -1
      · exact stateOk_s3M x w hf h3 hw hm
      · exact stateOk_s3F x w hf h3 hw hm
  by_cases h4 : x.state = 4
  · cases hw : inB x.wake 1 2000000000 with
    | true => exact stateOk_s4T x w hf h4 hw
    | false =>
      by_cases hm : x.wake = -1
      · exact stateOk_s4M x w hf h4 hw hm
      · exact stateOk_s4F x w hf h4 hw hm
  by_cases h5 : x.state = 5
  · cases hw : inB x.wake 1 2000000000 with
    | true => exact stateOk_s5T x w hf h5 hw
    | false =>
      by_cases hm : x.wake = -1
      · exact stateOk_s5M x w hf h5 hw hm
      · exact stateOk_s5F x w hf h5 hw hm
  by_cases h6 : x.state = 6
  · cases hw : inB x.wake 1 2000000000 with
    | true => exact stateOk_s6T x w hf h6 hw
    | false =>
      by_cases hm : x.wake = -1
      · exact stateOk_s6M x w hf h6 hw hm
      · exact stateOk_s6F x w hf h6 hw hm
  by_cases h7 : x.state = 7
  · cases hw : inB x.wake 1 2000000000 with
    | true => exact stateOk_s7T x w hf h7 hw
    | false =>
      by_cases hm : x.wake = -1
      · exact stateOk_s7M x w hf h7 hw hm
      · exact stateOk_s7F x w hf h7 hw hm
  exact stateOk_none x w h0 h1 h2 h3 h4 h5 h6 h7

end Go.Proofs.YtkbcplnlehdjfaaGreat

/- A process is right by itself: what right answers. -/
namespace Go.Proofs.YtkbcplnlehdjfaaGreat
open Go.RowKit

set_option maxRecDepth 100000 in
set_option maxHeartbeats 4000000 in
theorem rightProc_any (x : ProcD) (w : World) (hf : ProcFit w x) : Calls Tryz.prog 283 #[.agg (procVs x)] w fun e w' => e = .returned (.bool (procB x.toProcP)) ∧ Below w.heap.size w w' := by
 have HI : Hid (StIn w (w.alloc (.cells (procVs x) 43)) x) := StIn.start hf
 have HE : Hid (procB x.toProcP = (inB x.prio 1 50 && progL x.prog && plainB x.held && plainB x.got && inB x.code 0 3 && stateB x.toProcP)) := rfl
 have HB : Hid (Below w.heap.size w (w.alloc (.cells (procVs x) 43))) := HI.out.bel
 obtain ⟨c0, c1, c2, c3, c4, c5, c6, c7, c8, c9, c10, c11⟩ := proc_cells HI.out.box
 clear hf
 unfold procVs at *
 by_cases h1 : 1 ≤ x.prio
 rotate_left
 ·have HV : Hid (procB x.toProcP = false) := by show procB _ = false; rw [HE.out, inB_low (by omega)]; rfl
  clear HE
  go_enter Tryz.func283, Tryz.ntmps283
  go_wp2
  go_ret
  exact ⟨ret_bool HV.out.symm, HB.out⟩
 by_cases h2 : x.prio ≤ 50
 rotate_left
 ·have HV : Hid (procB x.toProcP = false) := by show procB _ = false; rw [HE.out, inB_high (by omega)]; rfl
  clear HE
  go_enter Tryz.func283, Tryz.ntmps283
  go_wp2
  go_ret
  exact ⟨ret_bool HV.out.symm, HB.out⟩
 have HP : Hid (inB x.prio 1 50 = true) := inB_true h1 h2
 go_enter Tryz.func283, Tryz.ntmps283
 go_wp2_with fail
 refine (implProgL_any x.progA x.prog x.progC _ HI.out.fit.1.prog HI.out.fit.1.ops HI.out.fit.2).mono ?_
 rintro e w1 ⟨rfl, hb1⟩
 have HI1 : Hid (StIn w w1 x) := HI.out.below hb1
 clear hb1 c0 c1 c2 c3 c4 c5 c6 c7 c8 c9 c10 c11 HI HB
 obtain ⟨c0, c1, c2, c3, c4, c5, c6, c7, c8, c9, c10, c11⟩ := proc_cells HI1.out.box
 have hsh := HI1.out.fit.1.held
 have hsg := HI1.out.fit.1.got
 cases hl : progL x.prog with
 | false =>
  have HV : Hid (procB x.toProcP = false) := by show procB _ = false; rw [HE.out, hl]; simp
  clear HE hl
  go_wp2
  go_ret
  exact ⟨ret_bool HV.out.symm, HI1.out.bel⟩
 | true =>
  have HL : Hid (progL x.prog = true) := hl
  clear hl
  go_wp2_with fail
  refine (isPlain_any x.held _ hsh).mono ?_
  rintro e w2 ⟨rfl, hw2⟩
  subst hw2
  cases hh : plainB x.held with
  | false =>
   have HV : Hid (procB x.toProcP = false) := by show procB _ = false; rw [HE.out, hh]; simp
   clear HE hh
   go_wp2
   go_ret
   exact ⟨ret_bool HV.out.symm, HI1.out.bel⟩
  | true =>
   have HH : Hid (plainB x.held = true) := hh
   clear hh
   go_wp2_with fail
   refine (isPlain_any x.got _ hsg).mono ?_
   rintro e w2 ⟨rfl, hw2⟩
   subst hw2
   cases hg : plainB x.got with
   | false =>
    have HV : Hid (procB x.toProcP = false) := by show procB _ = false; rw [HE.out, hg]; simp
    clear HE hg
    go_wp2
    go_ret
    exact ⟨ret_bool HV.out.symm, HI1.out.bel⟩
   | true =>
    have HG : Hid (plainB x.got = true) := hg
    clear hg
    by_cases h3 : 0 ≤ x.code
    rotate_left
    ·have HV : Hid (procB x.toProcP = false) := by show procB _ = false; rw [HE.out, inB_low (n := x.code) (by omega)]; simp
     clear HE
     go_wp2
     go_ret
     exact ⟨ret_bool HV.out.symm, HI1.out.bel⟩
    by_cases h4 : x.code ≤ 3
    rotate_left
    ·have HV : Hid (procB x.toProcP = false) := by show procB _ = false; rw [HE.out, inB_high (n := x.code) (by omega)]; simp
     clear HE
     go_wp2
     go_ret
     exact ⟨ret_bool HV.out.symm, HI1.out.bel⟩
    have HC : Hid (inB x.code 0 3 = true) := inB_true h3 h4
    go_wp2_with fail
    refine (stateOk_any x _ HI1.out.fit).mono ?_
    rintro e w2 ⟨rfl, hb2⟩
    have HI2 : Hid (StIn w w2 x) := HI1.out.below hb2
    clear hb2
    have HV : Hid (procB x.toProcP = stateB x.toProcP) := by show procB _ = _; rw [HE.out, HP.out, HL.out, HH.out, HG.out, HC.out]; simp
    clear HE
    go_wp2
    go_ret
    exact ⟨ret_bool HV.out.symm, HI2.out.bel⟩

end Go.Proofs.YtkbcplnlehdjfaaGreat

/- The things of a shelf of the kind Proc, in order. (Made by mkall.py.) -/
namespace Go.Proofs.YtkbcplnlehdjfaaGreat
open Go.RowKit Go.Maps Go.Sort Go.Shelf

theorem keysProc_call (mb : Option Nat) (W : World) : Calls Tryz.prog 221 #[.map mb] W fun e w' => e = .returned (.func (.func 232) #[] #[.pointer (some ⟨W.heap.size, 0, none⟩)]) ∧ w' = W.alloc (.cells #[.map mb] 108) :=
 (callsIn_wide (n := 5)).1 (AnyZI.keys_in Tryz.keysProc Fence.wide 5 trivial rfl mb W)

theorem sortedKeysProc_any (Bm b : Nat) (m : MapL) (W : World) (hBm : Bm < W.heap.size) (hc : W.cell? ⟨Bm, 0, none⟩ = some (.map (some b))) (h : MapIs W b m) (hm : m.length ≤ 1048576) :
  Calls Tryz.prog 220 #[.func (.func 232) #[] #[.pointer (some ⟨Bm, 0, none⟩)]] W fun e w' => ∃ v : Value, e = .returned v ∧ w'.ownsRow W.heap.size 2 1 v m.length (m.map fun p => .int .i64 p.1) ∧ Below W.heap.size W w' := by
 have hsz : Maps.size (mapD m) = m.length := size_map m
 have hseq : SeqGives Fence.wide 2 Tryz.prog 232 #[.pointer (some ⟨Bm, 0, none⟩)] encZ (fun ss => ss.Perm (intKeys (mapD m))) (Maps.size (mapD m)) W :=
  AnyZI.keys_gives (ρ := Tryz.keysProc_ren) { Tryz.keysProc with } Fence.wide _ trivial rfl (by omega) Bm b m.length (mapD m) W hBm hc h.1
 have cS := AnyZI.sorted_in Tryz.sortedA Fence.wide 5 trivial trivial trivial trivial rfl (by omega) (Tryz.sortsA _) (enters_of Tryz.func231 (by kernel_rfl) rfl) 232 #[.pointer (some ⟨Bm, 0, none⟩)] trivial (enters_of Tryz.func232 (by kernel_rfl) rfl) _ _ (by rw [hsz]; unfold maxLen; omega) (by rw [hsz]; omega) _ hseq
 change CallsIn _ _ Tryz.prog 220 _ _ _ at cS
 refine (callsIn_wide.1 cS).mono ?_
 rintro e w' ⟨v, ss, rfl, hS, hrow, hnil, hbel⟩
 refine ⟨v, rfl, ?_, hbel⟩
 rw [keys_sorted h.2 hS] at hrow
 have hl : ss.length = m.length := by
  rw [hS.length_eq, keys_int, List.length_map]
 rw [hl, List.map_map] at hrow
 exact hrow

theorem ptrInfoProc : (Tryz.prog.info? 102).map (fun i => (i.zero, i.size, i.bytes)) = some (some (.pointer none), 1, 8) := by kernel_rfl

set_option maxRecDepth 100000 in
set_option maxHeartbeats 2000000 in
theorem allProc_any (most : Int) (b : Nat) (m : MapL) (w : World) (h : MapIs w b m) (hm : m.length ≤ 1048576) (hwf : ∀ p ∈ m, (Lit.int .i64 p.1).wf = true) :
  Calls Tryz.prog 202 #[.agg #[.int .i64 most, .map (some b)]] w fun e w' => ∃ a cap, e = .returned (.slice a m.length cap) ∧ w'.ownsRow w.heap.size 102 1 (.slice a m.length cap) m.length (m.map fun p => ptrV p.2) ∧ Below w.heap.size w w' := by
 obtain ⟨i0, hi, e0⟩ := Option.map_eq_some_iff.1 ptrInfoProc
 simp only [Prod.mk.injEq] at e0
 have HI : Hid (Tryz.prog.info? 102 = some i0 ∧ i0.zero = some (.pointer none) ∧ i0.size = 1 ∧ i0.bytes = 8) := ⟨hi, e0⟩
 have HM : Hid (MapIs w b m ∧ ∀ p ∈ m, (Lit.int .i64 p.1).wf = true) := ⟨h, hwf⟩
 have hbl : b < w.heap.size := h.lt
 clear hi e0 h hwf
 go_enter Tryz.func202, Tryz.ntmps202
 go_wp2_with (go_at_call 221; refine (keysProc_call _ _).mono ?_; rintro e w' ⟨rfl, rfl⟩)
 refine (sortedKeysProc_any (w.heap.size + 1) b m _ (by simp) (by simp) (HM.out.1.below (((Below.refl _ w).alloc (Nat.le_refl _) _).alloc (by simp) _)) hm).mono ?_
 rintro e w2 ⟨v, rfl, hown, hb2⟩
 have HB2 : Hid (Below w.heap.size w w2) := (((Below.refl _ w).alloc (Nat.le_refl _) _).alloc (by simp) _).trans (hb2.mono (by simp; omega))
 have HS : Hid (w2.heap[w.heap.size]? = some (.cells #[.int .i64 most, .map (some b)] 110 (0, 0))) := (hb2.block _ (by simp; omega)).trans ((heap_alloc_old _ _ (by simp)).trans (heap_alloc_new _ _))
 obtain ⟨a, cap, hv, hrow⟩ := own_form hown
 have HR : Hid (Row w2 a (m.map fun p => .int .i64 p.1)) := hrow
 rw [hv]
 clear hv hown hrow hb2 v
 go_wp2_with fail
 go_loopw [3, 11] (fun l i wr => ∃ k : Nat, k ≤ m.length ∧ i = .int .i64 k ∧ ∃ a' cap', l = .slice a' k cap' ∧ Hid (wr.ownsRow w2.heap.size 102 1 (.slice a' k cap') k ((m.take k).map fun p => ptrV p.2) ∧ Below w2.heap.size w2 wr)) (fun _ i _ => m.length - (intOf i).toNat)
 case atStart => exact ⟨0, Nat.zero_le _, rfl, none, 0, rfl, ⟨World.ownsRow_nil _ _ _ _, Below.refl _ _⟩⟩
 case round =>
  obtain ⟨k, hk, rfl, a', cap', rfl, HO⟩ := hrel
  by_cases hlt : k < m.length
  ·have i0' : (0 : Int) ≤ (k : Int) := by omega
   have i1 : (k : Int) < (m.length : Int) := by omega
   obtain ⟨p, hp⟩ : ∃ p, m[k]? = some p := ⟨_, List.getElem?_eq_getElem hlt⟩
   have hpm := List.mem_of_getElem? hp
   obtain ⟨g, ha, hc⟩ := (HR.out.below HO.out.2) k (.int .i64 p.1) (by simp [hp])
   subst ha
   have hsz2 := HB2.out.size
   have hsz3 := HO.out.2.size
   have hmw : MapIs wr b m := HM.out.1.below (HB2.out.trans (HO.out.2.mono hsz2))
   have hlk := hmw.look Tryz.underlying108 (zeroPtrProc wr) (HM.out.2 p hpm) false
   rw [lookM_mem hmw.2 hpm] at hlk
   have hsw : wr.heap[w.heap.size]? = some (.cells #[.int .i64 most, .map (some b)] 110 (0, 0)) := (HO.out.2.block _ (Array.getElem?_eq_some_iff.1 HS.out).1).trans HS.out
   have s1 : wr.cell? ⟨w.heap.size, 1, none⟩ = some (.map (some b)) := by simp [World.cell?, hsw]
   have HP : Hid (m[k]? = some p) := hp
   simp only [ptrO, ptrV, Bool.false_eq_true, if_false] at hlk
   clear hp hpm hmw hsw
   go_wp2_with (at_builtin; refine wpList_append_own_at _ rfl _ _ 204 rfl w2.heap.size 102 i0 (.pointer none) 1 8 Tryz.underlying204 HI.out.1 HI.out.2.1 HI.out.2.2.1 HI.out.2.2.2 rfl (by decide) (.slice a' k cap') k ((m.take k).map fun p => ptrV p.2) rfl (HO.out.1.alloc _) ⟨wr.heap.size, 0, none⟩ 1 1 [.pointer (some ⟨p.2, 0, none⟩)] (by rfl) rfl (World.news_of_block (cs := #[.pointer (some ⟨p.2, 0, none⟩)]) (t := 102) (fr := (0, 0)) (heap_alloc_new wr _)) (by simp [Value.oneCell']) (by unfold maxLen; omega) (by omega) (by simp; omega) ?_; intro v' w5 hown' hgrow hnil hloc; obtain ⟨a5, cap5, rfl, -⟩ := own_form hown'; have HN : Hid (w5.ownsRow w2.heap.size 102 1 (.slice a5 (k + 1) cap5) (k + 1) ((m.take (k + 1)).map fun p => ptrV p.2) ∧ Below w2.heap.size w2 w5) := ⟨by rw [take_up HP.out, List.map_append]; exact hown', (HO.out.2.alloc hsz3 _).grown hgrow (by simp; omega) (fun q hq => (HO.out.1.lt q hq).1)⟩; clear hown' hgrow hnil hloc)
   go_roundw
   case rel => exact ⟨k + 1, by omega, by go_num, a5, cap5, rfl, HN⟩
   case measure => simp [intOf]; omega
  ·have i1 : ¬ (k : Int) < (m.length : Int) := by omega
   have e : k = m.length := by omega
   subst e
   go_wp2
   go_ret
   refine ⟨a', cap', rfl, ?_, HB2.out.trans (HO.out.2.mono HB2.out.size)⟩
   have := own_low HO.out.1 HB2.out.size
   rwa [List.take_length] at this

end Go.Proofs.YtkbcplnlehdjfaaGreat

/- Whether each process's want is there: what the programme answers of an open partition. -/
namespace Go.Proofs.YtkbcplnlehdjfaaGreat
open Go.RowKit Go.Maps

/-- An open partition as far as its processes are asked: its block, its processes, the keys of the rest. -/
structure OpenIn (w W : World) (o : Nat) (q : Opn) (lp : List (ProcD × Nat)) (ms me mb mf : MapL) : Prop where
 opn : OpenBox W o q
 shelf : Shelf procVs (fun x : ProcD => x.id) 43 W 0 q.bp lp
 ms : MapIs W q.bs ms
 me : MapIs W q.be me
 mb : MapIs W q.bb mb
 mf : MapIs W q.bf mf
 bel : Below w.heap.size w W
theorem OpenIn.below {w W W' : World} {o : Nat} {q : Opn} {lp : List (ProcD × Nat)} {ms me mb mf : MapL} (h : OpenIn w W o q lp ms me mb mf) (hb : Below W.heap.size W W') : OpenIn w W' o q lp ms me mb mf :=
 ⟨h.opn.below hb, h.shelf.below hb, h.ms.below hb, h.me.below hb, h.mb.below hb, h.mf.below hb, h.bel.trans (hb.mono h.bel.size)⟩
theorem OpenIn.has {w W : World} {o : Nat} {q : Opn} {lp : List (ProcD × Nat)} {ms me mb mf : MapL} (h : OpenIn w W o q lp ms me mb mf) {p : ProcD × Nat} (hp : p ∈ lp) : HasIn W W o p.2 q p.1 ms me mb mf :=
 ⟨h.opn, h.shelf.box p hp, h.ms, h.me, h.mb, h.mf, Below.refl _ _⟩

/-- Numbers that a machine's word holds. -/
structure ProcD.Wf (x : ProcD) : Prop where
 id : (Lit.int .i64 x.id).wf = true
 on : (Lit.int .i64 x.on).wf = true
 since : (Lit.int .i64 x.since).wf = true
theorem keys_wf {lp : List (ProcD × Nat)} (h : ∀ p ∈ lp, p.1.Wf) : ∀ p ∈ keysOf (fun x : ProcD => x.id) lp, (Lit.int .i64 p.1).wf = true := fun p hp => by
 obtain ⟨r, hr, rfl⟩ := List.mem_map.1 hp
 exact (h r hr).id

set_option maxRecDepth 100000 in
set_option maxHeartbeats 2000000 in
theorem waitsOk_any (o : Nat) (q : Opn) (lp : List (ProcD × Nat)) (ms me mb mf : MapL) (w : World) (h : OpenIn w w o q lp ms me mb mf) (hl : lp.length ≤ 1048576) (hwf : ∀ p ∈ lp, p.1.Wf) :
  Calls Tryz.prog 154 #[.pointer (some ⟨o, 0, none⟩)] w fun e w' => e = .returned (.bool (lp.all fun p => waitK ms me mb mf p.1)) ∧ Below w.heap.size w w' := by
 have H : Hid (OpenIn w w o q lp ms me mb mf ∧ ∀ p ∈ lp, p.1.Wf) := ⟨h, hwf⟩
 have c2 : w.cell? ⟨o, 2, none⟩ = some (.int .i64 6) := h.opn.cell 2
 have c3 : w.cell? ⟨o, 3, none⟩ = some (.map (some q.bp)) := h.opn.cell 3
 have hkl : (keysOf (fun x : ProcD => x.id) lp).length = lp.length := keysOf_length lp
 have HK : Hid ((keysOf (fun x : ProcD => x.id) lp).length = lp.length) := hkl
 clear h hwf hkl
 go_enter Tryz.func154, Tryz.ntmps154
 go_wp2_with fail
 refine (allProc_any 6 q.bp (keysOf (fun x : ProcD => x.id) lp) w H.out.1.shelf.map (by rw [HK.out]; exact hl) (keys_wf H.out.2)).mono ?_
 rintro e w2 ⟨a, cap, rfl, hown, hb2⟩
 obtain ⟨a', cap', hv, hrow⟩ := own_form hown
 cases hv
 have HR : Hid (Row w2 a ((keysOf (fun x : ProcD => x.id) lp).map fun p => ptrV p.2)) := hrow
 have HO : Hid (OpenIn w w2 o q lp ms me mb mf) := H.out.1.below hb2
 rw [HK.out]
 clear hown hrow hb2 c2 c3
 go_wp2_with fail
 go_loopw [11] (fun i wr => ∃ k : Nat, k ≤ lp.length ∧ i = .int .i64 k ∧ Hid (((lp.take k).all fun p => waitK ms me mb mf p.1) = true ∧ Below w2.heap.size w2 wr)) (fun i _ => lp.length - (intOf i).toNat)
 case atStart => exact ⟨0, Nat.zero_le _, rfl, ⟨by simp, Below.refl _ _⟩⟩
 case round =>
  obtain ⟨k, hk, rfl, HA⟩ := hrel
  have HO2 : Hid (OpenIn w wr o q lp ms me mb mf) := HO.out.below HA.out.2
  by_cases hlt : k < lp.length
  ·have i0 : (0 : Int) ≤ (k : Int) := by omega
   have i1 : (k : Int) < (lp.length : Int) := by omega
   obtain ⟨p, hp⟩ : ∃ p, lp[k]? = some p := ⟨_, List.getElem?_eq_getElem hlt⟩
   have hpm := List.mem_of_getElem? hp
   obtain ⟨g, ha, hc⟩ := (HR.out.below HA.out.2) k (ptrV p.2) (by simp [keysOf, hp])
   subst ha
   unfold ptrV at hc
   have HP : Hid (lp[k]? = some p ∧ p ∈ lp) := ⟨hp, hpm⟩
   clear hp hpm
   go_wp2_with fail
   refine (hasWait_any o p.2 q p.1 ms me mb mf wr (HO2.out.has HP.out.2) (H.out.2 p HP.out.2).on).mono ?_
   rintro e w4 ⟨rfl, hb4⟩
   have HB4 : Hid (Below w2.heap.size w2 w4) := HA.out.2.trans (hb4.mono HA.out.2.size)
   have HF4 : Hid (Below w.heap.size w w4) := HO2.out.bel.trans (hb4.mono HO2.out.bel.size)
   clear hb4
   cases hwt : waitK ms me mb mf p.1 with
   | true =>
    have HY : Hid (((lp.take (k + 1)).all fun p => waitK ms me mb mf p.1) = true) := by
     show _ = true
     rw [take_up HP.out.1, List.all_append, HA.out.1]
     simp [hwt]
    clear hwt
    go_wp2
    go_roundw
    case rel => exact ⟨k + 1, by omega, by go_num, ⟨HY.out, HB4.out⟩⟩
    case measure => simp [intOf]; omega
   | false =>
    have HN : Hid ((lp.all fun p => waitK ms me mb mf p.1) = false) := by
     show _ = false
     rw [List.all_eq_false]
     exact ⟨p, HP.out.2, by simp [hwt]⟩
    clear hwt
    go_wp2
    go_ret
    exact ⟨ret_bool HN.out.symm, HF4.out⟩
  ·have i1 : ¬ (k : Int) < (lp.length : Int) := by omega
   have HT : Hid ((lp.all fun p => waitK ms me mb mf p.1) = true) := by have := HA.out.1; rwa [List.take_of_length_le (by omega)] at this
   go_wp2
   go_ret
   exact ⟨ret_bool HT.out.symm, HO2.out.bel⟩

end Go.Proofs.YtkbcplnlehdjfaaGreat

/- Whether the turns are in order: what the programme answers of an open partition. (Made by mkturns.py.) -/
namespace Go.Proofs.YtkbcplnlehdjfaaGreat
open Go.RowKit Go.Maps
attribute [local go_sem ↓] Go.wp_at_zero Go.wp_at_succ

theorem zeroInt (w : World) : (zeroValue 3).run Tryz.prog w = .ok (.int .i64 0) w := by kernel_rfl
/-- Block b is the map of the turns that are taken, each once. -/
def TakenIs (w : World) (b : Nat) (L : List Int) : Prop := ∃ D : DataW Unit, w.ownsMap Tryz.prog 2 (plainElem Tryz.prog 3) b L.length D ∧ IsMap D ∧ ∀ z : Int, D.atKey (.int .i64 z) (.lit (.int .i64 0)) = .lit (.int .i64 (if z ∈ L then 1 else 0))
theorem TakenIs.none {w : World} {b : Nat} (hb : w.heap[b]? = some (.map #[] 0)) : TakenIs w b [] :=
 ⟨.map [], ⟨#[], 0, hb, ⟨by simp, MapKept.stamped_empty 0, by simp⟩, by simp, rfl⟩, isMap_empty, fun z => by simp [DataW.atKey]⟩
theorem TakenIs.lt {w : World} {b : Nat} {L : List Int} (h : TakenIs w b L) : b < w.heap.size := by obtain ⟨D, h, _⟩ := h; exact h.lt
theorem TakenIs.same {w w' : World} {b : Nat} {L : List Int} (h : TakenIs w b L) (hs : w'.heap[b]? = w.heap[b]?) : TakenIs w' b L := by
 obtain ⟨D, ⟨es, clock, hb, r⟩, h2⟩ := h
 exact ⟨D, ⟨es, clock, hs.trans hb, r⟩, h2⟩
theorem TakenIs.look {w : World} {b : Nat} {L : List Int} (h : TakenIs w b L) {z : Int} (hz : (Lit.int .i64 z).wf = true) : (Instr.lookup 252 (.map (some b)) (.int .i64 z) false).run Tryz.prog w = .ok (.int .i64 (if z ∈ L then 1 else 0)) w := by
 obtain ⟨D, hown, _, hat⟩ := h
 obtain ⟨c, hrun, hc, _⟩ := hown.lookup_int keyed64 Tryz.underlying252 Tryz.underlying3 (zeroInt w) (key64 hz)
 rw [hat z] at hc
 simp only [DataW.lit.injEq, Lit.int.injEq, true_and] at hc
 rw [hrun, hc]
/-- One that is taken once more. -/
theorem TakenIs.put {w : World} {b : Nat} {L : List Int} (h : TakenIs w b L) (hl : L.length ≤ 1048576) {z : Int} (hz : (Lit.int .i64 z).wf = true) (v : Int) (hv : v = (if z ∈ L then 1 else 0) + 1) :
  ∃ w', (Instr.mapUpdate 252 (.map (some b)) (.int .i64 z) (.int .i64 v)).run Tryz.prog w = .ok () w' ∧ w.grownBy w' (some b) ∧ w'.heap.size = w.heap.size ∧
   (∀ W : World, W.heap = w'.heap → (Instr.lookup 252 (.map (some b)) (.int .i64 z) false).run Tryz.prog W = .ok (.int .i64 v) W) ∧ (z ∉ L → TakenIs w' b (L ++ [z])) := by
 obtain ⟨D, hown, hm, hat⟩ := h
 have hvw : (Lit.int .i64 v).wf = true := by
  subst hv
  split <;> decide
 obtain ⟨w', hrun, ho, ht⟩ := hown.store keyed64 Tryz.underlying252 (Nat.lt_of_le_of_lt hl (by decide)) (key64 hz) (plainElem_int (H := Unit) Tryz.underlying3 hvw)
 refine ⟨w', hrun, ht.grown, ?_, fun W hW => ?_, fun hn => ⟨_, by rw [List.length_append]; exact ho, hm.put _ _, fun y => ?_⟩⟩
 ·obtain ⟨es, clock, es', clock', hb, rfl⟩ := ht
  simp [ChangeMaps.setBlock]
 ·have hoW : W.ownsMap Tryz.prog 2 (plainElem Tryz.prog 3) b (L.length + 1) (D.put (.int .i64 z) (.lit (.int .i64 v))) := by
   obtain ⟨es, clock, hb, r⟩ := ho
   exact ⟨es, clock, by rw [hW]; exact hb, r⟩
  obtain ⟨c, hr, hc, _⟩ := hoW.lookup_int keyed64 Tryz.underlying252 Tryz.underlying3 (zeroInt W) (key64 hz)
  rw [atKey_put_same hm (keyed64.key (key64 hz))] at hc
  simp only [DataW.lit.injEq, Lit.int.injEq, true_and] at hc
  rw [hr, hc]
 ·by_cases hy : y = z
  ·subst hy
   rw [atKey_put_same hm (keyed64.key (key64 hz))]
   simp [hv, hn]
  ·rw [atKey_put_other (fun e => hy (by simpa using e)), hat y]
   simp [hy]

/-- The turns of those that are not dormant. -/
def upD (l : List (ProcD × Nat)) : List Int := upL (l.map fun p => p.1.toProcP)
def TurnsD (next : Int) (l : List (ProcD × Nat)) : Prop := TurnsR next (l.map fun p => p.1.toProcP)
theorem upD_snoc (l : List (ProcD × Nat)) (p : ProcD × Nat) : upD (l ++ [p]) = upD l ++ (if p.1.state = 0 then [] else [p.1.since]) := by
 simp only [upD, upL, List.map_append, List.filter_append, List.map_cons, List.map_nil, List.filter_cons, List.filter_nil]
 by_cases h : p.1.state = 0 <;> simp [h]
theorem turns_snoc {next : Int} {l : List (ProcD × Nat)} {p : ProcD × Nat} (h : TurnsD next l) (hp : ¬ p.1.state = 0 → 1 ≤ p.1.since ∧ p.1.since < next ∧ p.1.since ∉ upD l) : TurnsD next (l ++ [p]) := by
 refine ⟨fun x hx => ?_, ?_⟩
 ·rw [List.map_append] at hx
  rcases List.mem_append.1 hx with hx | hx
  ·exact h.1 x hx
  ·simp only [List.map_cons, List.map_nil, List.mem_singleton] at hx
   subst hx
   exact fun h0 => ⟨(hp h0).1, (hp h0).2.1⟩
 ·have e := upD_snoc l p
  unfold upD at e
  rw [e]
  by_cases h0 : p.1.state = 0
  ·simp only [h0, if_true, List.append_nil]; exact h.2
  ·simp only [h0, if_false]
   refine List.nodup_append.2 ⟨h.2, by simp, fun a ha b hb => ?_⟩
   simp only [List.mem_singleton] at hb
   subst hb
   intro e2
   subst e2
   exact (hp h0).2.2 ha
theorem turns_bad {next : Int} {l : List (ProcD × Nat)} {k : Nat} {p : ProcD × Nat} (hp : l[k]? = some p) (h0 : ¬ p.1.state = 0) (hb : ¬ (1 ≤ p.1.since ∧ p.1.since < next ∧ p.1.since ∉ upD (l.take k))) : ¬ TurnsD next l := fun h => by
 have hm : p.1.toProcP ∈ l.map fun p => p.1.toProcP := List.mem_map.2 ⟨p, List.mem_of_getElem? hp, rfl⟩
 have h1 := h.1 _ hm h0
 refine hb ⟨h1.1, h1.2, fun hmem => ?_⟩
 have e : l = l.take k ++ p :: l.drop (k + 1) := split_at hp
 have h2 := h.2
 rw [e] at h2
 simp only [upL, List.map_append, List.map_cons, List.filter_append, List.filter_cons] at h2
 have h0' : (!decide (p.1.toProcP.state = 0)) = true := by simp [h0]
 rw [if_pos h0', List.map_cons] at h2
 exact (List.nodup_append.1 h2).2.2 p.1.since hmem p.1.since (by simp) rfl

/-- What looking through the turns ends in. -/
def TurnEnds (w : World) (q : Opn) (lp : List (ProcD × Nat)) (e : Ending) (w' : World) : Prop := ∃ ok : Bool, e = .returned (.bool ok) ∧ (ok = true ↔ TurnsD q.next lp) ∧ Below w.heap.size w w'
theorem turnEnds_no {w w' : World} {q : Opn} {lp : List (ProcD × Nat)} (h : ¬ TurnsD q.next lp) (hb : Below w.heap.size w w') : TurnEnds w q lp (.returned (.bool false)) w' := ⟨false, rfl, ⟨(fun h => by cases h), fun h' => absurd h' h⟩, hb⟩

/-- What is there while the turns are looked through. -/
structure TurnIn (w w2 wr : World) (o : Nat) (q : Opn) (lp : List (ProcD × Nat)) (L : List Int) : Prop where
 taken : TakenIs wr w.heap.size L
 grown : w2.grownBy wr (some w.heap.size)
theorem TurnIn.block {w w2 wr : World} {o : Nat} {q : Opn} {lp : List (ProcD × Nat)} {L : List Int} (h : TurnIn w w2 wr o q lp L) {g : Nat} (hg : g < w2.heap.size) (hne : ¬ g = w.heap.size) : wr.heap[g]? = w2.heap[g]? := h.grown.block g hg (fun e => hne (Option.some.inj e))

set_option maxRecDepth 100000 in
set_option maxHeartbeats 8000000 in
theorem turnsOk_any (o : Nat) (q : Opn) (lp : List (ProcD × Nat)) (ms me mb mf : MapL) (w : World) (h : OpenIn w w o q lp ms me mb mf) (hl : lp.length ≤ 1048576) (hwf : ∀ p ∈ lp, p.1.Wf) :
  Calls Tryz.prog 153 #[.pointer (some ⟨o, 0, none⟩)] w fun e w' => TurnEnds w q lp e w' := by
 have hmk := run_makeMap (P := Tryz.prog) 252
 have H : Hid (OpenIn w w o q lp ms me mb mf ∧ ∀ p ∈ lp, p.1.Wf) := ⟨h, hwf⟩
 have hol : o < w.heap.size := (Array.getElem?_eq_some_iff.1 h.opn).1
 have c2 : w.cell? ⟨o, 2, none⟩ = some (.int .i64 6) := h.opn.cell 2
 have c3 : w.cell? ⟨o, 3, none⟩ = some (.map (some q.bp)) := h.opn.cell 3
 have HK : Hid ((keysOf (fun x : ProcD => x.id) lp).length = lp.length) := keysOf_length lp
 clear h hwf
 go_enter Tryz.func153, Tryz.ntmps153
 go_wp2_with fail
 refine (allProc_any 6 q.bp (keysOf (fun x : ProcD => x.id) lp) (w.alloc (.map #[] 0)) (H.out.1.shelf.map.below ((Below.refl _ w).alloc (Nat.le_refl _) _)) (by rw [HK.out]; exact hl) (keys_wf H.out.2)).mono ?_
 rintro e w2 ⟨a, cap, rfl, hown, hb2⟩
 obtain ⟨a', cap', hv, hrow⟩ := own_form hown
 cases hv
 have HR : Hid (Row w2 a ((keysOf (fun x : ProcD => x.id) lp).map fun p => ptrV p.2)) := hrow
 have HRB : Hid (∀ g, a = some ⟨g, 0, none⟩ → w.heap.size + 1 ≤ g ∧ g < w2.heap.size) := fun g hg => by
  subst hg
  have := hown.lt g rfl
  simpa using this
 have HB2 : Hid (Below w.heap.size w w2) := ((Below.refl _ w).alloc (Nat.le_refl _) _).trans (hb2.mono (by simp))
 have HT0 : Hid (TakenIs w2 w.heap.size []) := TakenIs.none ((hb2.block _ (by simp)).trans (heap_alloc_new _ _))
 rw [HK.out]
 clear hown hrow hb2 c2 c3 hmk
 go_wp2_with fail
 go_loopw [13] (fun i wr => ∃ k : Nat, k ≤ lp.length ∧ i = .int .i64 k ∧ Hid (TurnsD q.next (lp.take k) ∧ TurnIn w w2 wr o q lp (upD (lp.take k)))) (fun i _ => lp.length - (intOf i).toNat)
 case atStart => exact ⟨0, Nat.zero_le _, rfl, ⟨⟨(fun x hx => by simp at hx), by simp [upL]⟩, ⟨by simpa [upD, upL] using HT0.out, ⟨rfl, rfl, rfl, Nat.le_refl _, fun _ _ _ => rfl⟩⟩⟩⟩
 case round =>
  obtain ⟨k, hk, rfl, HA⟩ := hrel
  have HBR : Hid (Below w.heap.size w wr) := HB2.out.grown HA.out.2.grown HB2.out.size (fun k hk => by cases hk; exact Nat.le_refl _)
  by_cases hlt : k < lp.length
  ·have i0 : (0 : Int) ≤ (k : Int) := by omega
   have i1 : (k : Int) < (lp.length : Int) := by omega
   obtain ⟨p, hp⟩ : ∃ p, lp[k]? = some p := ⟨_, List.getElem?_eq_getElem hlt⟩
   have hpm := List.mem_of_getElem? hp
   have hrw := HR.out k (ptrV p.2) (by simp [keysOf, hp])
   obtain ⟨g, ha, hc0⟩ := hrw
   have hgb := HRB.out g ha
   have hc : wr.cell? ⟨g, k, none⟩ = some (.pointer (some ⟨p.2, 0, none⟩)) := (World.cell?_of_block (w := w2) (a := ⟨g, k, none⟩) (HA.out.2.block (g := g) hgb.2 (fun e => by have h1 := hgb.1; have e' : g = w.heap.size := e; omega))).trans hc0
   subst ha
   have hbox : wr.heap[p.2]? = some (.cells (procVs p.1) 43 (0, 0)) := (HBR.out.block _ (Array.getElem?_eq_some_iff.1 (H.out.1.shelf.box p hpm)).1).trans (H.out.1.shelf.box p hpm)
   have hob : OpenBox wr o q := (HBR.out.block _ hol).trans H.out.1.opn
   have HP : Hid (lp[k]? = some p ∧ p ∈ lp) := ⟨hp, hpm⟩
   have HW : Hid ((Lit.int .i64 p.1.since).wf = true) := (H.out.2 p hpm).since
   have HX : Hid (wr.heap[p.2]? = some (.cells (procVs p.1) 43 (0, 0)) ∧ OpenBox wr o q) := ⟨hbox, hob⟩
   have k3 := (proc_cells hbox).2.2.2.1
   have k11 := (proc_cells hbox).2.2.2.2.2.2.2.2.2.2.2
   have hls : (upD (lp.take k)).length ≤ 1048576 := by
    have h1 : (upD (lp.take k)).length ≤ (lp.take k).length := by
     simp only [upD, upL, List.length_map]
     exact Nat.le_trans (List.length_filter_le _ _) (by simp)
    rw [List.length_take] at h1
    omega
   clear hp hpm hc0 hgb hbox hob
   by_cases h0 : p.1.state = 0
   ·have HY : Hid (TurnsD q.next (lp.take (k + 1)) ∧ TurnIn w w2 wr o q lp (upD (lp.take (k + 1)))) := by
     rw [take_up HP.out.1]
     refine ⟨turns_snoc HA.out.1 (fun h => absurd h0 h), ?_⟩
     rw [upD_snoc, if_pos h0, List.append_nil]
     exact HA.out.2
    have e0 : (p.1.state == 0) = true := by simp [h0]
    clear h0
    go_wp2
    go_roundw
    case rel => exact ⟨k + 1, by omega, by go_num, HY⟩
    case measure => simp [intOf]; omega
   ·have e0 : (p.1.state == 0) = false := by simp [h0]
    have H0 : Hid (¬ p.1.state = 0) := h0
    clear h0
    have hlk := HA.out.2.taken.look HW.out
    by_cases hz : p.1.since ∈ upD (lp.take k)
    ·rw [if_pos hz] at hlk
     obtain ⟨w5, hput, hgr5, hsz5, hlk5, -⟩ := HA.out.2.taken.put hls HW.out 2 (by rw [if_pos hz]; rfl)
     have HN : Hid (¬ TurnsD q.next lp) := turns_bad HP.out.1 H0.out (fun hh => hh.2.2 hz)
     have HB5 : Hid (Below w.heap.size w w5) := HBR.out.grown hgr5 HBR.out.size (fun k hk => by cases hk; exact Nat.le_refl _)
     have hx5 : w5.heap[p.2]? = some (.cells (procVs p.1) 43 (0, 0)) := (HB5.out.block _ (Array.getElem?_eq_some_iff.1 (H.out.1.shelf.box p HP.out.2)).1).trans (H.out.1.shelf.box p HP.out.2)
     have ho5 : OpenBox w5 o q := (HB5.out.block _ hol).trans H.out.1.opn
     have f11 := (proc_cells hx5).2.2.2.2.2.2.2.2.2.2.2
     have f1 : w5.cell? ⟨o, 1, none⟩ = some (.int .i64 q.next) := ho5.cell 1
     have hl5 := hlk5 w5.drew rfl
     clear hlk5 hgr5 hsz5 hx5 ho5 hz
     by_cases hA : p.1.since < 1
     ·have dA : decide (p.1.since < 1) = true := decide_eq_true hA
      clear hA
      go_wp2_with fail
      refine tame_region (fun w' => w' = w5.drew) (by kernel_rfl) rfl ?_
      iterate 6 (refine yl (v := ?_) ?_ ?_; rotate_left; (intro w0 hS0; subst hS0; go_simp; try with_reducible rfl); simp only [pt, sb, s0, s1])
      iterate 9 (refine nl ?_; simp only [pt, sb, s0, s1])
      iterate 2 (refine yl (v := ?_) ?_ ?_; rotate_left; (intro w0 hS0; subst hS0; go_simp; try with_reducible rfl); simp only [pt, sb, s0, s1])
      iterate 7 (refine nl ?_; simp only [pt, sb, s0, s1])
      (refine yl (v := ?_) ?_ ?_; rotate_left; (intro w0 hS0; subst hS0; go_simp; try with_reducible rfl); simp only [pt, sb, s0, s1])
      refine tame_done (by kernel_rfl) ?_ _
      intro w1 hS1
      subst hS1
      go_wp2
      go_ret
      exact turnEnds_no HN.out HB5.out.drew
     have dA : decide (p.1.since < 1) = false := decide_eq_false hA
     by_cases hB : q.next ≤ p.1.since
     ·have dB : decide (q.next ≤ p.1.since) = true := decide_eq_true hB
      clear hA hB
      go_wp2_with fail
      refine tame_region (fun w' => w' = w5.drew) (by kernel_rfl) rfl ?_
      iterate 17 (refine yl (v := ?_) ?_ ?_; rotate_left; (intro w0 hS0; subst hS0; go_simp; try with_reducible rfl); simp only [pt, sb, s0, s1])
      iterate 7 (refine nl ?_; simp only [pt, sb, s0, s1])
      (refine yl (v := ?_) ?_ ?_; rotate_left; (intro w0 hS0; subst hS0; go_simp; try with_reducible rfl); simp only [pt, sb, s0, s1])
      refine tame_done (by kernel_rfl) ?_ _
      intro w1 hS1
      subst hS1
      go_wp2
      go_ret
      exact turnEnds_no HN.out HB5.out.drew
     have dB : decide (q.next ≤ p.1.since) = false := decide_eq_false hB
     clear hA hB
     go_wp2_with fail
     refine tame_region (fun w' => w' = w5.drew) (by kernel_rfl) rfl ?_
     iterate 25 (refine yl (v := ?_) ?_ ?_; rotate_left; (intro w0 hS0; subst hS0; go_simp; try with_reducible rfl); simp only [pt, sb, s0, s1])
     refine tame_done (by kernel_rfl) ?_ _
     intro w1 hS1
     subst hS1
     go_wp2
     go_ret
     exact turnEnds_no HN.out HB5.out.drew
    ·rw [if_neg hz] at hlk
     obtain ⟨w5, hput, hgr5, hsz5, hlk5, htk⟩ := HA.out.2.taken.put hls HW.out 1 (by rw [if_neg hz]; rfl)
     have HB5 : Hid (Below w.heap.size w w5) := HBR.out.grown hgr5 HBR.out.size (fun k hk => by cases hk; exact Nat.le_refl _)
     have HI5 : Hid (TurnIn w w2 w5 o q lp (upD (lp.take k) ++ [p.1.since])) := ⟨htk hz, ⟨hgr5.os.trans HA.out.2.grown.os, hgr5.tape.trans HA.out.2.grown.tape, hgr5.output.trans HA.out.2.grown.output, Nat.le_trans HA.out.2.grown.size hgr5.size, fun k hk hne => (hgr5.block k (Nat.lt_of_lt_of_le hk HA.out.2.grown.size) hne).trans (HA.out.2.grown.block k hk hne)⟩⟩
     have HZ : Hid (¬ p.1.since ∈ upD (lp.take k)) := hz
     have hx5 : w5.heap[p.2]? = some (.cells (procVs p.1) 43 (0, 0)) := (HB5.out.block _ (Array.getElem?_eq_some_iff.1 (H.out.1.shelf.box p HP.out.2)).1).trans (H.out.1.shelf.box p HP.out.2)
     have ho5 : OpenBox w5 o q := (HB5.out.block _ hol).trans H.out.1.opn
     have f11 := (proc_cells hx5).2.2.2.2.2.2.2.2.2.2.2
     have f1 : w5.cell? ⟨o, 1, none⟩ = some (.int .i64 q.next) := ho5.cell 1
     have hl5 := hlk5 w5.drew rfl
     clear hlk5 hgr5 hsz5 hx5 ho5 hz htk
     by_cases hA : p.1.since < 1
     ·have dA : decide (p.1.since < 1) = true := decide_eq_true hA
      have HN : Hid (¬ TurnsD q.next lp) := turns_bad HP.out.1 H0.out (fun hh => by have := hh.1; omega)
      clear hA
      go_wp2_with fail
      refine tame_region (fun w' => w' = w5.drew) (by kernel_rfl) rfl ?_
      iterate 6 (refine yl (v := ?_) ?_ ?_; rotate_left; (intro w0 hS0; subst hS0; go_simp; try with_reducible rfl); simp only [pt, sb, s0, s1])
      iterate 9 (refine nl ?_; simp only [pt, sb, s0, s1])
      iterate 2 (refine yl (v := ?_) ?_ ?_; rotate_left; (intro w0 hS0; subst hS0; go_simp; try with_reducible rfl); simp only [pt, sb, s0, s1])
      iterate 7 (refine nl ?_; simp only [pt, sb, s0, s1])
      (refine yl (v := ?_) ?_ ?_; rotate_left; (intro w0 hS0; subst hS0; go_simp; try with_reducible rfl); simp only [pt, sb, s0, s1])
      refine tame_done (by kernel_rfl) ?_ _
      intro w1 hS1
      subst hS1
      go_wp2
      go_ret
      exact turnEnds_no HN.out HB5.out.drew
     have dA : decide (p.1.since < 1) = false := decide_eq_false hA
     by_cases hB : q.next ≤ p.1.since
     ·have dB : decide (q.next ≤ p.1.since) = true := decide_eq_true hB
      have HN : Hid (¬ TurnsD q.next lp) := turns_bad HP.out.1 H0.out (fun hh => by have := hh.2.1; omega)
      clear hA hB
      go_wp2_with fail
      refine tame_region (fun w' => w' = w5.drew) (by kernel_rfl) rfl ?_
      iterate 17 (refine yl (v := ?_) ?_ ?_; rotate_left; (intro w0 hS0; subst hS0; go_simp; try with_reducible rfl); simp only [pt, sb, s0, s1])
      iterate 7 (refine nl ?_; simp only [pt, sb, s0, s1])
      (refine yl (v := ?_) ?_ ?_; rotate_left; (intro w0 hS0; subst hS0; go_simp; try with_reducible rfl); simp only [pt, sb, s0, s1])
      refine tame_done (by kernel_rfl) ?_ _
      intro w1 hS1
      subst hS1
      go_wp2
      go_ret
      exact turnEnds_no HN.out HB5.out.drew
     have dB : decide (q.next ≤ p.1.since) = false := decide_eq_false hB
     have HY : Hid (TurnsD q.next (lp.take (k + 1)) ∧ TurnIn w w2 w5 o q lp (upD (lp.take (k + 1)))) := by
      rw [take_up HP.out.1]
      refine ⟨turns_snoc HA.out.1 (fun _ => ⟨by omega, by omega, HZ.out⟩), ?_⟩
      rw [upD_snoc, if_neg H0.out]
      exact HI5.out
     clear hA hB
     go_wp2_with fail
     refine tame_region (fun w' => w' = w5.drew) (by kernel_rfl) rfl ?_
     iterate 25 (refine yl (v := ?_) ?_ ?_; rotate_left; (intro w0 hS0; subst hS0; go_simp; try with_reducible rfl); simp only [pt, sb, s0, s1])
     refine tame_done (by kernel_rfl) ?_ _
     intro w1 hS1
     subst hS1
     go_wp2
     go_roundw
     case rel => exact ⟨k + 1, by omega, by go_num, ⟨HY.out.1, ⟨HY.out.2.taken.same rfl, ⟨HY.out.2.grown.os, HY.out.2.grown.tape, HY.out.2.grown.output, HY.out.2.grown.size, HY.out.2.grown.block⟩⟩⟩⟩
     case measure => simp [intOf]; omega
  ·have i1 : ¬ (k : Int) < (lp.length : Int) := by omega
   have HT : Hid (TurnsD q.next lp) := by have := HA.out.1; rwa [List.take_of_length_le (by omega)] at this
   go_wp2
   go_ret
   exact ⟨true, rfl, ⟨fun _ => HT.out, fun _ => rfl⟩, HBR.out⟩

end Go.Proofs.YtkbcplnlehdjfaaGreat
