/- What the proof leans on, part 6: L3Copy2, Res2, ProcOfI, ProcOfLaw, OpenL. -/
import Derived.Laws.ResultCell
import Derived.Laws.Rows
import Derived.ProofKit
import Derived.Lib.SmallJoins
import Derived.Deep.Strs
import Derived.Deep.Fields
import Derived.Test.YtkbcplnlehdjfaaGreatOwnP0
import Derived.Test.YtkbcplnlehdjfaaGreatOwnP1
import Derived.Test.YtkbcplnlehdjfaaGreatOwnP2
import Derived.Test.YtkbcplnlehdjfaaGreatOwnP3
import Derived.Test.YtkbcplnlehdjfaaGreatOwnP4
import Derived.Test.YtkbcplnlehdjfaaGreatOwnP5

namespace Go.Proofs.YtkbcplnlehdjfaaGreat
open Go.RowKit
attribute [local go_sem ↓] Go.wp_at_zero Go.wp_at_succ

/-- The slots while the plain lists are copied. -/
def copyFr (p : PartD) (B : Nat) (b0 d0 b1 d1 b2 d2 b3 e : Bool) (g0 g1 g2 o : Nat) (a0 a1 a2 : Option Addr) (c0 c1 c2 : Nat) : Act := ⟨#[.agg #[.int .i64 p.id, .int .i64 p.next, .slice p.procA p.procs.length p.procC, .slice p.semA p.sems.length p.semC, .slice p.eventA p.events.length p.eventC, .slice p.boardA p.boards.length p.boardC, .slice p.bufferA p.buffers.length p.bufferC, .slice p.portA p.ports.length p.portC], .pointer (some ⟨B, 0, none⟩), .pointer (some ⟨(B + 1), 0, none⟩), bif b3 then .pointer (some ⟨o, 0, none⟩) else undef, undef, undef, undef, undef, undef, undef, .pointer (some ⟨B, 0, none⟩), .int .i64 p.id, .pointer (some ⟨B, 1, none⟩), .int .i64 p.next, bif b0 then .slice (some ⟨g0, 0, none⟩) 0 0 else undef, .pointer (some ⟨B, 3, none⟩), .slice p.semA p.sems.length p.semC, bif d0 then .slice a0 p.sems.length c0 else undef, bif b1 then .slice (some ⟨g1, 0, none⟩) 0 0 else undef, .pointer (some ⟨B, 4, none⟩), .slice p.eventA p.events.length p.eventC, bif d1 then .slice a1 p.events.length c1 else undef, bif b2 then .slice (some ⟨g2, 0, none⟩) 0 0 else undef, .pointer (some ⟨B, 5, none⟩), .slice p.boardA p.boards.length p.boardC, bif d2 then .slice a2 p.boards.length c2 else undef, bif e then .agg #[.int .i64 p.id, .int .i64 p.next, .slice none 0 0, .slice a0 p.sems.length c0, .slice a1 p.events.length c1, .slice a2 p.boards.length c2, .slice none 0 0, .slice none 0 0] else undef, undef, undef, undef, undef, undef, undef, undef, undef, undef, undef, undef, undef, undef, undef, undef, undef, undef, undef, undef, undef, undef, undef, undef, undef, undef, undef, undef, undef, undef, undef, undef, undef, undef, undef, undef, undef, undef, undef, undef, undef, undef, undef, undef, undef, undef, undef, undef, undef, undef, undef, undef, undef, undef, undef, undef, undef, undef, undef, undef, undef, undef, undef, undef, undef, undef, undef, undef, undef, undef, undef], []⟩
def CopyInv (p : PartD) (We : World) (l : Array Bool) (a : Act) (w : World) : Prop := ∃ (b0 d0 b1 d1 b2 d2 b3 d3 e : Bool) (g0 g1 g2 o : Nat) (a0 a1 a2 : Option Addr) (c0 c1 c2 : Nat), l = #[true, true, true, true, b0, true, true, d0, b1, true, true, d1, b2, true, true, d2, e, b3, d3] ∧ a = copyFr p We.heap.size b0 d0 b1 d1 b2 d2 b3 e g0 g1 g2 o a0 a1 a2 c0 c1 c2 ∧ CopyF p We w b0 d0 b1 d1 b2 d2 b3 d3 e g0 g1 g2 o a0 a1 a2 c0 c1 c2
/-- What stands while the lists of things that have lists are copied. -/
structure CopyL (p : PartD) (We w : World) (o : Nat) (q : PartD) : Prop where
 bel : Below We.heap.size We w
 part : PartBox w We.heap.size p
 ret : w.heap[We.heap.size + 1]? = some (.cells #[.int .i64 0, .int .i64 0, .slice none 0 0, .slice none 0 0, .slice none 0 0, .slice none 0 0, .slice none 0 0, .slice none 0 0] 32 (0, 0))
 out : PartBox w o q
 own : PartOwn w (We.heap.size + 2) q
 low : We.heap.size + 2 ≤ o
 free : o ∉ q.blocks
theorem CopyL.below {p : PartD} {We w w' : World} {o : Nat} {q : PartD} (h : CopyL p We w o q) (hb : Below w.heap.size w w') : CopyL p We w' o q :=
 ⟨h.bel.trans (hb.mono h.bel.size), h.part.below hb, (hb.block _ (Array.getElem?_eq_some_iff.1 h.ret).1).trans h.ret, h.out.below hb, h.own.below hb, h.low, h.free⟩
theorem CopyL.start {p : PartD} {We w : World} {g0 g1 g2 o : Nat} {a0 a1 a2 : Option Addr} {c0 c1 c2 : Nat} (h : CopyF p We w true true true true true true true true true g0 g1 g2 o a0 a1 a2 c0 c1 c2) :
  CopyL p We w o ⟨p.id, p.next, [], none, 0, p.sems, a0, c0, p.events, a1, c1, p.boards, a2, c2, [], none, 0, [], none, 0⟩ := by
 have hap := h.apt.apart
 refine ⟨h.bel, h.part, h.ret, h.out rfl, ⟨World.ownsRow_nil _ _ _ _, h.s0.done rfl, h.s1.done rfl, h.s2.done rfl, World.ownsRow_nil _ _ _ _, World.ownsRow_nil _ _ _ _, (fun x hx => by cases hx), (fun x hx => by cases hx), (fun x hx => by cases hx), ?_⟩, (h.apt.lts 3 o (by simp [four])).1, ?_⟩
 ·have e : PartD.blocks ⟨p.id, p.next, [], none, 0, p.sems, a0, c0, p.events, a1, c1, p.boards, a2, c2, [], none, 0, [], none, 0⟩ = blk a0 ++ (blk a1 ++ blk a2) := by simp [PartD.blocks, blk]
  rw [e]
  simp only [List.nodup_append, List.mem_append]
  refine ⟨blk_nodup _, ⟨blk_nodup _, blk_nodup _, fun a ha b hb e => ?_⟩, fun a ha b hb e => ?_⟩
  ·subst e
   exact hap 1 2 (by decide) a (by simpa [four, slotB] using ha) (by simpa [four, slotB] using hb)
  ·subst e
   rcases hb with hb | hb
   ·exact hap 0 1 (by decide) a (by simpa [four, slotB] using ha) (by simpa [four, slotB] using hb)
   ·exact hap 0 2 (by decide) a (by simpa [four, slotB] using ha) (by simpa [four, slotB] using hb)
 ·have e : PartD.blocks ⟨p.id, p.next, [], none, 0, p.sems, a0, c0, p.events, a1, c1, p.boards, a2, c2, [], none, 0, [], none, 0⟩ = blk a0 ++ (blk a1 ++ blk a2) := by simp [PartD.blocks, blk]
  rw [e]
  simp only [List.mem_append]
  rintro (hb | hb | hb)
  ·exact hap 3 0 (by decide) o (by simp [four]) (by simpa [four, slotB] using hb)
  ·exact hap 3 1 (by decide) o (by simp [four]) (by simpa [four, slotB] using hb)
  ·exact hap 3 2 (by decide) o (by simp [four]) (by simpa [four, slotB] using hb)
theorem own_block {a : Option Addr} {n c g : Nat} (h : (Value.slice a n c).ownBlock = some g) : g ∈ blk a := by
 cases a with
 | none => simp [Value.ownBlock] at h
 | some ad => simp [Value.ownBlock] at h; simp [blk, h]
theorem setCell_other {w : World} {o i g : Nat} {v : Value} (h : g ≠ o) : (w.setCell ⟨o, i, none⟩ v).heap[g]? = w.heap[g]? := setAllW_other [v] h
theorem setCell_block {w : World} {o i : Nat} {v : Value} {cs : Array Value} {t : TypeId} (h : w.heap[o]? = some (.cells cs t (0, 0))) : (w.setCell ⟨o, i, none⟩ v).heap[o]? = some (.cells (cs.setIfInBounds i v) t (0, 0)) := setAllW_heap [v] h
theorem below_setCell {B o i : Nat} {w0 w : World} {v : Value} (h : Below B w0 w) (hb : B ≤ o) : Below B w0 (w.setCell ⟨o, i, none⟩ v) :=
 ⟨h.os, h.tape, h.output, by have := h.size; rw [show (w.setCell ⟨o, i, none⟩ v).heap.size = w.heap.size from setAllW_size [v]]; exact this, fun k hk => (setCell_other (by omega)).trans (h.block k hk)⟩
theorem lenProc {p q : PartD} {k : Nat} (h : q.pure = { p.pure with procs := p.pure.procs.take k, buffers := [], ports := [] }) (hk : k ≤ p.procs.length) : q.procs.length = k := by
 have h5 := congrArg (fun z => (PartP.procs z).length) h
 simp [PartD.pure] at h5
 omega
theorem lenBuffer {p q : PartD} {k : Nat} (h : q.pure = { p.pure with buffers := p.pure.buffers.take k, ports := [] }) (hk : k ≤ p.buffers.length) : q.buffers.length = k := by
 have h5 := congrArg (fun z => (PartP.buffers z).length) h
 simp [PartD.pure] at h5
 omega
theorem lenPort {p q : PartD} {k : Nat} (h : q.pure = { p.pure with ports := p.pure.ports.take k }) (hk : k ≤ p.ports.length) : q.ports.length = k := by
 have h5 := congrArg (fun z => (PartP.ports z).length) h
 simp [PartD.pure] at h5
 omega
/-- A thing of the kind Proc is appended, and the slice is stored. -/
theorem CopyL.addProc {p : PartD} {We w w' : World} {o : Nat} {q : PartD} {x : ProcD} {a : Option Addr} {c : Nat} (h : CopyL p We w o q) (hm : procN.Mine w (We.heap.size + 2) x) (hx : ∀ g, procN.kid x = some g → g ∉ q.blocks ∧ g ≠ o)
  (ho : w'.ownsRow (We.heap.size + 2) 43 12 (.slice a (q.procs.length + 1) c) (q.procs.length + 1) (procK.flat (q.procs ++ [x]))) (hg : w.grownBy w' ((Value.slice q.procA q.procs.length q.procC).ownBlock)) (hb : ∀ g ∈ blk a, g ∈ blk q.procA ∨ g = w.heap.size) :
  CopyL p We (w'.setCell ⟨o, 2, none⟩ (.slice a (q.procs.length + 1) c)) o ({ q with procs := q.procs ++ [x], procA := a, procC := c } : PartD) := by
 have hol : o < w.heap.size := (Array.getElem?_eq_some_iff.1 h.out).1
 have hrow : ∀ g, g < w.heap.size → g ∉ blk q.procA → w'.heap[g]? = w.heap[g]? := fun g hgl hn => hg.block g hgl fun e => hn (own_block e.symm)
 obtain ⟨hown, hbl⟩ := h.own.addProc hm (fun g hk => (hx g hk).1) ho hrow hb
 have hoA : o ∉ blk q.procA := fun hm' => h.free (by simp [PartD.blocks, hm'])
 have hlow : ∀ g, g ∈ blk q.procA → We.heap.size + 2 ≤ g := fun g hg' => (own_lt h.own.procs hg').1
 have hfree : o ∉ ({ q with procs := q.procs ++ [x], procA := a, procC := c } : PartD).blocks := fun hm' => by
  rcases hbl o hm' with h1 | h1 | h1
  ·exact h.free h1
  ·exact (hx o h1).2 rfl
  ·omega
 have hsc : ∀ g, g ≠ o → (w'.setCell ⟨o, 2, none⟩ (.slice a (q.procs.length + 1) c)).heap[g]? = w'.heap[g]? := fun g hne => setCell_other hne
 have hbw : Below We.heap.size We w' := h.bel.grown hg (by have := h.low; omega) (fun k hk => by have := hlow k (own_block hk); omega)
 have hout : w'.heap[o]? = w.heap[o]? := hrow o hol hoA
 have hlo := h.low
 refine ⟨below_setCell hbw (by omega), (hsc _ (by omega)).trans ((hrow _ (by omega) fun hm' => by have := hlow _ hm'; omega).trans h.part), (hsc _ (by omega)).trans ((hrow _ (by omega) fun hm' => by have := hlow _ hm'; omega).trans h.ret), ?_, hown.same fun g hg' => hsc g fun e => hfree (e ▸ hg'), h.low, hfree⟩
 have h5 := setCell_block (i := 2) (v := .slice a (q.procs.length + 1) c) (hout.trans h.out)
 have e : (q.procs ++ [x]).length = q.procs.length + 1 := by simp
 unfold PartBox
 simp only [e]
 exact h5
def CpProc (wr w7 : World) (x : ProcD) (a2 : Option Addr) (c2 : Nat) : Prop := w7.heap[wr.heap.size]? = some (.cells #[.int .i64 x.id, .int .i64 x.prio, .slice x.progA x.prog.length x.progC, .int .i64 x.state, .int .i64 x.pc, .int .i64 x.left, .int .i64 x.wake, .int .i64 x.on, .string x.held, .string x.got, .int .i64 x.code, .int .i64 x.since] 43 (0, 0)) ∧ Below wr.heap.size wr w7 ∧ w7.ownsRow wr.heap.size 134 4 (.slice a2 x.prog.length c2) x.prog.length (opK.flat x.prog) ∧ ∀ g ∈ blk a2, g = wr.heap.size + 1 ∨ g = wr.heap.size + 2
section
variable {p q : PartD} {We wr w7 w10 W8 W9 : World} {o c2 c k : Nat} {x : ProcD} {a2 a : Option Addr}
theorem CopyL.inProc (h : CopyL p We wr o q) (h7 : CpProc wr w7 x a2 c2) (e8 : W8 = w7.setCell ⟨wr.heap.size, 2, none⟩ (.slice a2 x.prog.length c2)) : W8.cell? ⟨o, 2, none⟩ = some (.slice q.procA q.procs.length q.procC) ∧ W8.cell? ⟨wr.heap.size, 0, none⟩ = some (.int .i64 x.id) ∧ W8.cell? ⟨wr.heap.size, 1, none⟩ = some (.int .i64 x.prio) ∧ W8.cell? ⟨wr.heap.size, 2, none⟩ = some (.slice a2 x.prog.length c2) ∧ W8.cell? ⟨wr.heap.size, 3, none⟩ = some (.int .i64 x.state) ∧ W8.cell? ⟨wr.heap.size, 4, none⟩ = some (.int .i64 x.pc) ∧ W8.cell? ⟨wr.heap.size, 5, none⟩ = some (.int .i64 x.left) ∧ W8.cell? ⟨wr.heap.size, 6, none⟩ = some (.int .i64 x.wake) ∧ W8.cell? ⟨wr.heap.size, 7, none⟩ = some (.int .i64 x.on) ∧ W8.cell? ⟨wr.heap.size, 8, none⟩ = some (.string x.held) ∧ W8.cell? ⟨wr.heap.size, 9, none⟩ = some (.string x.got) ∧ W8.cell? ⟨wr.heap.size, 10, none⟩ = some (.int .i64 x.code) ∧ W8.cell? ⟨wr.heap.size, 11, none⟩ = some (.int .i64 x.since) := by
 subst e8
 have hol : o < wr.heap.size := (Array.getElem?_eq_some_iff.1 h.out).1
 have h1 := (setCell_other (i := 2) (v := .slice a2 x.prog.length c2) (by omega : o ≠ wr.heap.size)).trans (h7.2.1.block o hol)
 have h2 := setCell_block (i := 2) (v := .slice a2 x.prog.length c2) h7.1
 have h3 := h1.trans h.out
 refine ⟨by simp [World.cell?, h3], ?_⟩
 simp [World.cell?, h2]
theorem CopyL.beProc (h7 : CpProc wr w7 x a2 c2) (e8 : W8 = w7.setCell ⟨wr.heap.size, 2, none⟩ (.slice a2 x.prog.length c2)) (e9 : W9 = W8.alloc (.cells #[.int .i64 x.id, .int .i64 x.prio, .slice a2 x.prog.length c2, .int .i64 x.state, .int .i64 x.pc, .int .i64 x.left, .int .i64 x.wake, .int .i64 x.on, .string x.held, .string x.got, .int .i64 x.code, .int .i64 x.since] 43)) : Below wr.heap.size wr W9 ∧ W8.heap.size = w7.heap.size := by
 subst e8 e9
 exact ⟨(below_setCell h7.2.1 (Nat.le_refl _)).alloc (below_setCell h7.2.1 (Nat.le_refl _)).size _, setAllW_size [_]⟩
theorem CopyL.rowProc (h : CopyL p We wr o q) (h7 : CpProc wr w7 x a2 c2) (e8 : W8 = w7.setCell ⟨wr.heap.size, 2, none⟩ (.slice a2 x.prog.length c2)) (e9 : W9 = W8.alloc (.cells #[.int .i64 x.id, .int .i64 x.prio, .slice a2 x.prog.length c2, .int .i64 x.state, .int .i64 x.pc, .int .i64 x.left, .int .i64 x.wake, .int .i64 x.on, .string x.held, .string x.got, .int .i64 x.code, .int .i64 x.since] 43)) : W9.ownsRow (We.heap.size + 2) 43 12 (.slice q.procA q.procs.length q.procC) q.procs.length (procK.flat q.procs) ∧ W9.heap[w7.heap.size]? = some (.cells #[.int .i64 x.id, .int .i64 x.prio, .slice a2 x.prog.length c2, .int .i64 x.state, .int .i64 x.pc, .int .i64 x.left, .int .i64 x.wake, .int .i64 x.on, .string x.held, .string x.got, .int .i64 x.code, .int .i64 x.since] 43 (0, 0)) := by
 have hb9 := CopyL.beProc h7 e8 e9
 refine ⟨(h.below hb9.1).own.procs, ?_⟩
 subst e9
 have h5 := heap_alloc_new W8 (.cells #[.int .i64 x.id, .int .i64 x.prio, .slice a2 x.prog.length c2, .int .i64 x.state, .int .i64 x.pc, .int .i64 x.left, .int .i64 x.wake, .int .i64 x.on, .string x.held, .string x.got, .int .i64 x.code, .int .i64 x.since] 43)
 rwa [hb9.2] at h5
theorem CopyL.upProc (h : q.pure = { p.pure with procs := p.pure.procs.take k, buffers := [], ports := [] }) (hx : p.procs[k]? = some x) : ({ q with procs := q.procs ++ [({ x with progA := a2, progC := c2 } : ProcD)], procA := a, procC := c } : PartD).pure = { p.pure with procs := p.pure.procs.take (k + 1), buffers := [], ports := [] } := by
 have e : p.pure.procs.take (k + 1) = p.pure.procs.take k ++ [x.toProcP] := by
  rw [take_up (x := x.toProcP)]
  show (p.procs.map (·.toProcP))[k]? = _
  rw [List.getElem?_map, hx]
  rfl
 rw [e]
 have h5 := congrArg PartP.procs h
 have h6 : (q.procs ++ [({ x with progA := a2, progC := c2 } : ProcD)]).map (·.toProcP) = p.pure.procs.take k ++ [x.toProcP] := by
  rw [List.map_append]
  exact congrArg (· ++ [x.toProcP]) h5
 show ({ q.pure with procs := (q.procs ++ [({ x with progA := a2, progC := c2 } : ProcD)]).map (·.toProcP) } : PartP) = _
 rw [h6, h]
theorem CopyL.stepProc (h : CopyL p We wr o q) (h7 : CpProc wr w7 x a2 c2) (e8 : W8 = w7.setCell ⟨wr.heap.size, 2, none⟩ (.slice a2 x.prog.length c2)) (e9 : W9 = W8.alloc (.cells #[.int .i64 x.id, .int .i64 x.prio, .slice a2 x.prog.length c2, .int .i64 x.state, .int .i64 x.pc, .int .i64 x.left, .int .i64 x.wake, .int .i64 x.on, .string x.held, .string x.got, .int .i64 x.code, .int .i64 x.since] 43))
  (ho : w10.ownsRow (We.heap.size + 2) 43 12 (.slice a (q.procs.length + 1) c) (q.procs.length + 1) (procK.flat q.procs ++ procK.vals ({ x with progA := a2, progC := c2 } : ProcD))) (hg : W9.grownBy w10 ((Value.slice q.procA q.procs.length q.procC).ownBlock))
  (hb : (Value.slice a (q.procs.length + 1) c).ownBlock = (Value.slice q.procA q.procs.length q.procC).ownBlock ∨ (Value.slice a (q.procs.length + 1) c).ownBlock = some W9.heap.size) :
  CopyL p We (w10.setCell ⟨o, 2, none⟩ (.slice a (q.procs.length + 1) c)) o ({ q with procs := q.procs ++ [({ x with progA := a2, progC := c2 } : ProcD)], procA := a, procC := c } : PartD) ∧ w10.cell? ⟨o, 2, none⟩ = some (.slice q.procA q.procs.length q.procC) ∧ w10.frozen? ⟨o, 2, none⟩ = false := by
 have hol : o < wr.heap.size := (Array.getElem?_eq_some_iff.1 h.out).1
 obtain ⟨hb9, hs8⟩ := CopyL.beProc h7 e8 e9
 have h9 := h.below hb9
 have hlow := h.low
 have hm : procN.Mine W9 (We.heap.size + 2) ({ x with progA := a2, progC := c2 } : ProcD) := by
  refine own_low (base := wr.heap.size) ?_ (by omega)
  refine own_same h7.2.2.1 fun g hg' => ?_
  have h5 := h7.2.2.2 g hg'
  have h6 := own_lt h7.2.2.1 hg'
  subst e9
  refine (heap_alloc_old _ _ (by omega)).trans ?_
  subst e8
  exact setCell_other (by omega)
 have hx : ∀ g, procN.kid ({ x with progA := a2, progC := c2 } : ProcD) = some g → g ∉ q.blocks ∧ g ≠ o := fun g hk => by
  have h5 := h7.2.2.2 g (mem_blk.2 hk)
  refine ⟨fun hm' => ?_, by omega⟩
  have := (h.own.lt g hm').2
  omega
 have hn : ∀ g ∈ blk a, g ∈ blk q.procA ∨ g = W9.heap.size := fun g hg' => by
  cases a with
  | none => simp [blk] at hg'
  | some ad =>
   simp [blk] at hg'
   subst hg'
   rcases hb with hb | hb
   ·exact .inl (own_block hb.symm)
   ·exact .inr (by simpa [Value.ownBlock] using hb)
 have hL := h9.addProc hm hx (by rw [procK.flat_append]; exact ho) hg hn
 have ho9 : w10.heap[o]? = W9.heap[o]? := hg.block o (Nat.lt_of_lt_of_le hol hb9.size) fun e => h.free (by
  have := own_block e.symm
  simp [PartD.blocks, this])
 have ho10 := ho9.trans h9.out
 exact ⟨hL, by simp [World.cell?, ho10], frozen_of_row _ _ _ _ _ ho10⟩
end
/-- A thing of the kind Buffer is appended, and the slice is stored. -/
theorem CopyL.addBuffer {p : PartD} {We w w' : World} {o : Nat} {q : PartD} {x : BufferD} {a : Option Addr} {c : Nat} (h : CopyL p We w o q) (hm : bufferN.Mine w (We.heap.size + 2) x) (hx : ∀ g, bufferN.kid x = some g → g ∉ q.blocks ∧ g ≠ o)
  (ho : w'.ownsRow (We.heap.size + 2) 144 3 (.slice a (q.buffers.length + 1) c) (q.buffers.length + 1) (bufferK.flat (q.buffers ++ [x]))) (hg : w.grownBy w' ((Value.slice q.bufferA q.buffers.length q.bufferC).ownBlock)) (hb : ∀ g ∈ blk a, g ∈ blk q.bufferA ∨ g = w.heap.size) :
  CopyL p We (w'.setCell ⟨o, 6, none⟩ (.slice a (q.buffers.length + 1) c)) o ({ q with buffers := q.buffers ++ [x], bufferA := a, bufferC := c } : PartD) := by
 have hol : o < w.heap.size := (Array.getElem?_eq_some_iff.1 h.out).1
 have hrow : ∀ g, g < w.heap.size → g ∉ blk q.bufferA → w'.heap[g]? = w.heap[g]? := fun g hgl hn => hg.block g hgl fun e => hn (own_block e.symm)
 obtain ⟨hown, hbl⟩ := h.own.addBuffer hm (fun g hk => (hx g hk).1) ho hrow hb
 have hoA : o ∉ blk q.bufferA := fun hm' => h.free (by simp [PartD.blocks, hm'])
 have hlow : ∀ g, g ∈ blk q.bufferA → We.heap.size + 2 ≤ g := fun g hg' => (own_lt h.own.buffers hg').1
 have hfree : o ∉ ({ q with buffers := q.buffers ++ [x], bufferA := a, bufferC := c } : PartD).blocks := fun hm' => by
  rcases hbl o hm' with h1 | h1 | h1
  ·exact h.free h1
  ·exact (hx o h1).2 rfl
  ·omega
 have hsc : ∀ g, g ≠ o → (w'.setCell ⟨o, 6, none⟩ (.slice a (q.buffers.length + 1) c)).heap[g]? = w'.heap[g]? := fun g hne => setCell_other hne
 have hbw : Below We.heap.size We w' := h.bel.grown hg (by have := h.low; omega) (fun k hk => by have := hlow k (own_block hk); omega)
 have hout : w'.heap[o]? = w.heap[o]? := hrow o hol hoA
 have hlo := h.low
 refine ⟨below_setCell hbw (by omega), (hsc _ (by omega)).trans ((hrow _ (by omega) fun hm' => by have := hlow _ hm'; omega).trans h.part), (hsc _ (by omega)).trans ((hrow _ (by omega) fun hm' => by have := hlow _ hm'; omega).trans h.ret), ?_, hown.same fun g hg' => hsc g fun e => hfree (e ▸ hg'), h.low, hfree⟩
 have h5 := setCell_block (i := 6) (v := .slice a (q.buffers.length + 1) c) (hout.trans h.out)
 have e : (q.buffers ++ [x]).length = q.buffers.length + 1 := by simp
 unfold PartBox
 simp only [e]
 exact h5
def CpBuffer (wr w7 : World) (x : BufferD) (a2 : Option Addr) (c2 : Nat) : Prop := w7.heap[wr.heap.size]? = some (.cells #[.int .i64 x.id, .int .i64 x.max, .slice x.itemsA x.items.length x.itemsC] 144 (0, 0)) ∧ Below wr.heap.size wr w7 ∧ w7.ownsRow wr.heap.size 9 1 (.slice a2 x.items.length c2) x.items.length (strK.flat x.items) ∧ ∀ g ∈ blk a2, g = wr.heap.size + 1 ∨ g = wr.heap.size + 2
section
variable {p q : PartD} {We wr w7 w10 W8 W9 : World} {o c2 c k : Nat} {x : BufferD} {a2 a : Option Addr}
theorem CopyL.inBuffer (h : CopyL p We wr o q) (h7 : CpBuffer wr w7 x a2 c2) (e8 : W8 = w7.setCell ⟨wr.heap.size, 2, none⟩ (.slice a2 x.items.length c2)) : W8.cell? ⟨o, 6, none⟩ = some (.slice q.bufferA q.buffers.length q.bufferC) ∧ W8.cell? ⟨wr.heap.size, 0, none⟩ = some (.int .i64 x.id) ∧ W8.cell? ⟨wr.heap.size, 1, none⟩ = some (.int .i64 x.max) ∧ W8.cell? ⟨wr.heap.size, 2, none⟩ = some (.slice a2 x.items.length c2) := by
 subst e8
 have hol : o < wr.heap.size := (Array.getElem?_eq_some_iff.1 h.out).1
 have h1 := (setCell_other (i := 2) (v := .slice a2 x.items.length c2) (by omega : o ≠ wr.heap.size)).trans (h7.2.1.block o hol)
 have h2 := setCell_block (i := 2) (v := .slice a2 x.items.length c2) h7.1
 have h3 := h1.trans h.out
 refine ⟨by simp [World.cell?, h3], ?_⟩
 simp [World.cell?, h2]
theorem CopyL.beBuffer (h7 : CpBuffer wr w7 x a2 c2) (e8 : W8 = w7.setCell ⟨wr.heap.size, 2, none⟩ (.slice a2 x.items.length c2)) (e9 : W9 = W8.alloc (.cells #[.int .i64 x.id, .int .i64 x.max, .slice a2 x.items.length c2] 144)) : Below wr.heap.size wr W9 ∧ W8.heap.size = w7.heap.size := by
 subst e8 e9
 exact ⟨(below_setCell h7.2.1 (Nat.le_refl _)).alloc (below_setCell h7.2.1 (Nat.le_refl _)).size _, setAllW_size [_]⟩
theorem CopyL.rowBuffer (h : CopyL p We wr o q) (h7 : CpBuffer wr w7 x a2 c2) (e8 : W8 = w7.setCell ⟨wr.heap.size, 2, none⟩ (.slice a2 x.items.length c2)) (e9 : W9 = W8.alloc (.cells #[.int .i64 x.id, .int .i64 x.max, .slice a2 x.items.length c2] 144)) : W9.ownsRow (We.heap.size + 2) 144 3 (.slice q.bufferA q.buffers.length q.bufferC) q.buffers.length (bufferK.flat q.buffers) ∧ W9.heap[w7.heap.size]? = some (.cells #[.int .i64 x.id, .int .i64 x.max, .slice a2 x.items.length c2] 144 (0, 0)) := by
 have hb9 := CopyL.beBuffer h7 e8 e9
 refine ⟨(h.below hb9.1).own.buffers, ?_⟩
 subst e9
 have h5 := heap_alloc_new W8 (.cells #[.int .i64 x.id, .int .i64 x.max, .slice a2 x.items.length c2] 144)
 rwa [hb9.2] at h5
theorem CopyL.upBuffer (h : q.pure = { p.pure with buffers := p.pure.buffers.take k, ports := [] }) (hx : p.buffers[k]? = some x) : ({ q with buffers := q.buffers ++ [({ x with itemsA := a2, itemsC := c2 } : BufferD)], bufferA := a, bufferC := c } : PartD).pure = { p.pure with buffers := p.pure.buffers.take (k + 1), ports := [] } := by
 have e : p.pure.buffers.take (k + 1) = p.pure.buffers.take k ++ [x.toBufferP] := by
  rw [take_up (x := x.toBufferP)]
  show (p.buffers.map (·.toBufferP))[k]? = _
  rw [List.getElem?_map, hx]
  rfl
 rw [e]
 have h5 := congrArg PartP.buffers h
 have h6 : (q.buffers ++ [({ x with itemsA := a2, itemsC := c2 } : BufferD)]).map (·.toBufferP) = p.pure.buffers.take k ++ [x.toBufferP] := by
  rw [List.map_append]
  exact congrArg (· ++ [x.toBufferP]) h5
 show ({ q.pure with buffers := (q.buffers ++ [({ x with itemsA := a2, itemsC := c2 } : BufferD)]).map (·.toBufferP) } : PartP) = _
 rw [h6, h]
theorem CopyL.stepBuffer (h : CopyL p We wr o q) (h7 : CpBuffer wr w7 x a2 c2) (e8 : W8 = w7.setCell ⟨wr.heap.size, 2, none⟩ (.slice a2 x.items.length c2)) (e9 : W9 = W8.alloc (.cells #[.int .i64 x.id, .int .i64 x.max, .slice a2 x.items.length c2] 144))
  (ho : w10.ownsRow (We.heap.size + 2) 144 3 (.slice a (q.buffers.length + 1) c) (q.buffers.length + 1) (bufferK.flat q.buffers ++ bufferK.vals ({ x with itemsA := a2, itemsC := c2 } : BufferD))) (hg : W9.grownBy w10 ((Value.slice q.bufferA q.buffers.length q.bufferC).ownBlock))
  (hb : (Value.slice a (q.buffers.length + 1) c).ownBlock = (Value.slice q.bufferA q.buffers.length q.bufferC).ownBlock ∨ (Value.slice a (q.buffers.length + 1) c).ownBlock = some W9.heap.size) :
  CopyL p We (w10.setCell ⟨o, 6, none⟩ (.slice a (q.buffers.length + 1) c)) o ({ q with buffers := q.buffers ++ [({ x with itemsA := a2, itemsC := c2 } : BufferD)], bufferA := a, bufferC := c } : PartD) ∧ w10.cell? ⟨o, 6, none⟩ = some (.slice q.bufferA q.buffers.length q.bufferC) ∧ w10.frozen? ⟨o, 6, none⟩ = false := by
 have hol : o < wr.heap.size := (Array.getElem?_eq_some_iff.1 h.out).1
 obtain ⟨hb9, hs8⟩ := CopyL.beBuffer h7 e8 e9
 have h9 := h.below hb9
 have hlow := h.low
 have hm : bufferN.Mine W9 (We.heap.size + 2) ({ x with itemsA := a2, itemsC := c2 } : BufferD) := by
  refine own_low (base := wr.heap.size) ?_ (by omega)
  refine own_same h7.2.2.1 fun g hg' => ?_
  have h5 := h7.2.2.2 g hg'
  have h6 := own_lt h7.2.2.1 hg'
  subst e9
  refine (heap_alloc_old _ _ (by omega)).trans ?_
  subst e8
  exact setCell_other (by omega)
 have hx : ∀ g, bufferN.kid ({ x with itemsA := a2, itemsC := c2 } : BufferD) = some g → g ∉ q.blocks ∧ g ≠ o := fun g hk => by
  have h5 := h7.2.2.2 g (mem_blk.2 hk)
  refine ⟨fun hm' => ?_, by omega⟩
  have := (h.own.lt g hm').2
  omega
 have hn : ∀ g ∈ blk a, g ∈ blk q.bufferA ∨ g = W9.heap.size := fun g hg' => by
  cases a with
  | none => simp [blk] at hg'
  | some ad =>
   simp [blk] at hg'
   subst hg'
   rcases hb with hb | hb
   ·exact .inl (own_block hb.symm)
   ·exact .inr (by simpa [Value.ownBlock] using hb)
 have hL := h9.addBuffer hm hx (by rw [bufferK.flat_append]; exact ho) hg hn
 have ho9 : w10.heap[o]? = W9.heap[o]? := hg.block o (Nat.lt_of_lt_of_le hol hb9.size) fun e => h.free (by
  have := own_block e.symm
  simp [PartD.blocks, this])
 have ho10 := ho9.trans h9.out
 exact ⟨hL, by simp [World.cell?, ho10], frozen_of_row _ _ _ _ _ ho10⟩
end
/-- A thing of the kind Port is appended, and the slice is stored. -/
theorem CopyL.addPort {p : PartD} {We w w' : World} {o : Nat} {q : PartD} {x : PortD} {a : Option Addr} {c : Nat} (h : CopyL p We w o q) (hm : portN.Mine w (We.heap.size + 2) x) (hx : ∀ g, portN.kid x = some g → g ∉ q.blocks ∧ g ≠ o)
  (ho : w'.ownsRow (We.heap.size + 2) 61 5 (.slice a (q.ports.length + 1) c) (q.ports.length + 1) (portK.flat (q.ports ++ [x]))) (hg : w.grownBy w' ((Value.slice q.portA q.ports.length q.portC).ownBlock)) (hb : ∀ g ∈ blk a, g ∈ blk q.portA ∨ g = w.heap.size) :
  CopyL p We (w'.setCell ⟨o, 7, none⟩ (.slice a (q.ports.length + 1) c)) o ({ q with ports := q.ports ++ [x], portA := a, portC := c } : PartD) := by
 have hol : o < w.heap.size := (Array.getElem?_eq_some_iff.1 h.out).1
 have hrow : ∀ g, g < w.heap.size → g ∉ blk q.portA → w'.heap[g]? = w.heap[g]? := fun g hgl hn => hg.block g hgl fun e => hn (own_block e.symm)
 obtain ⟨hown, hbl⟩ := h.own.addPort hm (fun g hk => (hx g hk).1) ho hrow hb
 have hoA : o ∉ blk q.portA := fun hm' => h.free (by simp [PartD.blocks, hm'])
 have hlow : ∀ g, g ∈ blk q.portA → We.heap.size + 2 ≤ g := fun g hg' => (own_lt h.own.ports hg').1
 have hfree : o ∉ ({ q with ports := q.ports ++ [x], portA := a, portC := c } : PartD).blocks := fun hm' => by
  rcases hbl o hm' with h1 | h1 | h1
  ·exact h.free h1
  ·exact (hx o h1).2 rfl
  ·omega
 have hsc : ∀ g, g ≠ o → (w'.setCell ⟨o, 7, none⟩ (.slice a (q.ports.length + 1) c)).heap[g]? = w'.heap[g]? := fun g hne => setCell_other hne
 have hbw : Below We.heap.size We w' := h.bel.grown hg (by have := h.low; omega) (fun k hk => by have := hlow k (own_block hk); omega)
 have hout : w'.heap[o]? = w.heap[o]? := hrow o hol hoA
 have hlo := h.low
 refine ⟨below_setCell hbw (by omega), (hsc _ (by omega)).trans ((hrow _ (by omega) fun hm' => by have := hlow _ hm'; omega).trans h.part), (hsc _ (by omega)).trans ((hrow _ (by omega) fun hm' => by have := hlow _ hm'; omega).trans h.ret), ?_, hown.same fun g hg' => hsc g fun e => hfree (e ▸ hg'), h.low, hfree⟩
 have h5 := setCell_block (i := 7) (v := .slice a (q.ports.length + 1) c) (hout.trans h.out)
 have e : (q.ports ++ [x]).length = q.ports.length + 1 := by simp
 unfold PartBox
 simp only [e]
 exact h5
def CpPort (wr w7 : World) (x : PortD) (a2 : Option Addr) (c2 : Nat) : Prop := w7.heap[wr.heap.size]? = some (.cells #[.int .i64 x.id, .bool x.out, .bool x.queue, .int .i64 x.max, .slice x.itemsA x.items.length x.itemsC] 61 (0, 0)) ∧ Below wr.heap.size wr w7 ∧ w7.ownsRow wr.heap.size 9 1 (.slice a2 x.items.length c2) x.items.length (strK.flat x.items) ∧ ∀ g ∈ blk a2, g = wr.heap.size + 1 ∨ g = wr.heap.size + 2
section
variable {p q : PartD} {We wr w7 w10 W8 W9 : World} {o c2 c k : Nat} {x : PortD} {a2 a : Option Addr}
theorem CopyL.inPort (h : CopyL p We wr o q) (h7 : CpPort wr w7 x a2 c2) (e8 : W8 = w7.setCell ⟨wr.heap.size, 4, none⟩ (.slice a2 x.items.length c2)) : W8.cell? ⟨o, 7, none⟩ = some (.slice q.portA q.ports.length q.portC) ∧ W8.cell? ⟨wr.heap.size, 0, none⟩ = some (.int .i64 x.id) ∧ W8.cell? ⟨wr.heap.size, 1, none⟩ = some (.bool x.out) ∧ W8.cell? ⟨wr.heap.size, 2, none⟩ = some (.bool x.queue) ∧ W8.cell? ⟨wr.heap.size, 3, none⟩ = some (.int .i64 x.max) ∧ W8.cell? ⟨wr.heap.size, 4, none⟩ = some (.slice a2 x.items.length c2) := by
 subst e8
 have hol : o < wr.heap.size := (Array.getElem?_eq_some_iff.1 h.out).1
 have h1 := (setCell_other (i := 4) (v := .slice a2 x.items.length c2) (by omega : o ≠ wr.heap.size)).trans (h7.2.1.block o hol)
 have h2 := setCell_block (i := 4) (v := .slice a2 x.items.length c2) h7.1
 have h3 := h1.trans h.out
 refine ⟨by simp [World.cell?, h3], ?_⟩
 simp [World.cell?, h2]
theorem CopyL.bePort (h7 : CpPort wr w7 x a2 c2) (e8 : W8 = w7.setCell ⟨wr.heap.size, 4, none⟩ (.slice a2 x.items.length c2)) (e9 : W9 = W8.alloc (.cells #[.int .i64 x.id, .bool x.out, .bool x.queue, .int .i64 x.max, .slice a2 x.items.length c2] 61)) : Below wr.heap.size wr W9 ∧ W8.heap.size = w7.heap.size := by
 subst e8 e9
 exact ⟨(below_setCell h7.2.1 (Nat.le_refl _)).alloc (below_setCell h7.2.1 (Nat.le_refl _)).size _, setAllW_size [_]⟩
theorem CopyL.rowPort (h : CopyL p We wr o q) (h7 : CpPort wr w7 x a2 c2) (e8 : W8 = w7.setCell ⟨wr.heap.size, 4, none⟩ (.slice a2 x.items.length c2)) (e9 : W9 = W8.alloc (.cells #[.int .i64 x.id, .bool x.out, .bool x.queue, .int .i64 x.max, .slice a2 x.items.length c2] 61)) : W9.ownsRow (We.heap.size + 2) 61 5 (.slice q.portA q.ports.length q.portC) q.ports.length (portK.flat q.ports) ∧ W9.heap[w7.heap.size]? = some (.cells #[.int .i64 x.id, .bool x.out, .bool x.queue, .int .i64 x.max, .slice a2 x.items.length c2] 61 (0, 0)) := by
 have hb9 := CopyL.bePort h7 e8 e9
 refine ⟨(h.below hb9.1).own.ports, ?_⟩
 subst e9
 have h5 := heap_alloc_new W8 (.cells #[.int .i64 x.id, .bool x.out, .bool x.queue, .int .i64 x.max, .slice a2 x.items.length c2] 61)
 rwa [hb9.2] at h5
theorem CopyL.upPort (h : q.pure = { p.pure with ports := p.pure.ports.take k }) (hx : p.ports[k]? = some x) : ({ q with ports := q.ports ++ [({ x with itemsA := a2, itemsC := c2 } : PortD)], portA := a, portC := c } : PartD).pure = { p.pure with ports := p.pure.ports.take (k + 1) } := by
 have e : p.pure.ports.take (k + 1) = p.pure.ports.take k ++ [x.toPortP] := by
  rw [take_up (x := x.toPortP)]
  show (p.ports.map (·.toPortP))[k]? = _
  rw [List.getElem?_map, hx]
  rfl
 rw [e]
 have h5 := congrArg PartP.ports h
 have h6 : (q.ports ++ [({ x with itemsA := a2, itemsC := c2 } : PortD)]).map (·.toPortP) = p.pure.ports.take k ++ [x.toPortP] := by
  rw [List.map_append]
  exact congrArg (· ++ [x.toPortP]) h5
 show ({ q.pure with ports := (q.ports ++ [({ x with itemsA := a2, itemsC := c2 } : PortD)]).map (·.toPortP) } : PartP) = _
 rw [h6, h]
theorem CopyL.stepPort (h : CopyL p We wr o q) (h7 : CpPort wr w7 x a2 c2) (e8 : W8 = w7.setCell ⟨wr.heap.size, 4, none⟩ (.slice a2 x.items.length c2)) (e9 : W9 = W8.alloc (.cells #[.int .i64 x.id, .bool x.out, .bool x.queue, .int .i64 x.max, .slice a2 x.items.length c2] 61))
  (ho : w10.ownsRow (We.heap.size + 2) 61 5 (.slice a (q.ports.length + 1) c) (q.ports.length + 1) (portK.flat q.ports ++ portK.vals ({ x with itemsA := a2, itemsC := c2 } : PortD))) (hg : W9.grownBy w10 ((Value.slice q.portA q.ports.length q.portC).ownBlock))
  (hb : (Value.slice a (q.ports.length + 1) c).ownBlock = (Value.slice q.portA q.ports.length q.portC).ownBlock ∨ (Value.slice a (q.ports.length + 1) c).ownBlock = some W9.heap.size) :
  CopyL p We (w10.setCell ⟨o, 7, none⟩ (.slice a (q.ports.length + 1) c)) o ({ q with ports := q.ports ++ [({ x with itemsA := a2, itemsC := c2 } : PortD)], portA := a, portC := c } : PartD) ∧ w10.cell? ⟨o, 7, none⟩ = some (.slice q.portA q.ports.length q.portC) ∧ w10.frozen? ⟨o, 7, none⟩ = false := by
 have hol : o < wr.heap.size := (Array.getElem?_eq_some_iff.1 h.out).1
 obtain ⟨hb9, hs8⟩ := CopyL.bePort h7 e8 e9
 have h9 := h.below hb9
 have hlow := h.low
 have hm : portN.Mine W9 (We.heap.size + 2) ({ x with itemsA := a2, itemsC := c2 } : PortD) := by
  refine own_low (base := wr.heap.size) ?_ (by omega)
  refine own_same h7.2.2.1 fun g hg' => ?_
  have h5 := h7.2.2.2 g hg'
  have h6 := own_lt h7.2.2.1 hg'
  subst e9
  refine (heap_alloc_old _ _ (by omega)).trans ?_
  subst e8
  exact setCell_other (by omega)
 have hx : ∀ g, portN.kid ({ x with itemsA := a2, itemsC := c2 } : PortD) = some g → g ∉ q.blocks ∧ g ≠ o := fun g hk => by
  have h5 := h7.2.2.2 g (mem_blk.2 hk)
  refine ⟨fun hm' => ?_, by omega⟩
  have := (h.own.lt g hm').2
  omega
 have hn : ∀ g ∈ blk a, g ∈ blk q.portA ∨ g = W9.heap.size := fun g hg' => by
  cases a with
  | none => simp [blk] at hg'
  | some ad =>
   simp [blk] at hg'
   subst hg'
   rcases hb with hb | hb
   ·exact .inl (own_block hb.symm)
   ·exact .inr (by simpa [Value.ownBlock] using hb)
 have hL := h9.addPort hm hx (by rw [portK.flat_append]; exact ho) hg hn
 have ho9 : w10.heap[o]? = W9.heap[o]? := hg.block o (Nat.lt_of_lt_of_le hol hb9.size) fun e => h.free (by
  have := own_block e.symm
  simp [PartD.blocks, this])
 have ho10 := ho9.trans h9.out
 exact ⟨hL, by simp [World.cell?, ho10], frozen_of_row _ _ _ _ _ ho10⟩
end

def CopyS (p : PartD) (w w' : World) : Prop := w'.cell? ⟨w.heap.size, 0, none⟩ = some (.int .i64 p.id) ∧ w'.cell? ⟨w.heap.size, 1, none⟩ = some (.int .i64 p.next) ∧ w'.cell? ⟨w.heap.size, 3, none⟩ = some (.slice p.semA p.sems.length p.semC) ∧ w'.cell? ⟨w.heap.size, 4, none⟩ = some (.slice p.eventA p.events.length p.eventC) ∧ w'.cell? ⟨w.heap.size, 5, none⟩ = some (.slice p.boardA p.boards.length p.boardC)

set_option maxRecDepth 100000 in
set_option maxHeartbeats 8000000 in
theorem l3Copy_any (p : PartD) (w : World) (hf : p.Fit) (hsh : ∀ x ∈ p.procs, x.Short) (h : PartD.At w p) :
  Calls Tryz.prog 86 #[.agg p.cells] w fun e w' => ∃ p', e = .returned (.agg p'.cells) ∧ PartOwn w' w.heap.size p' ∧ p'.pure = p.pure ∧ Below w.heap.size w w' := by
 have HF : Hid (p.Fit ∧ PartD.At w p) := ⟨hf, h⟩
 have HFS : Hid (∀ x ∈ p.procs, x.Short) := hsh
 have HC : Hid (CopyF p w (((w.alloc (.cells #[.int .i64 p.id, .int .i64 p.next, .slice p.procA p.procs.length p.procC, .slice p.semA p.sems.length p.semC, .slice p.eventA p.events.length p.eventC, .slice p.boardA p.boards.length p.boardC, .slice p.bufferA p.buffers.length p.bufferC, .slice p.portA p.ports.length p.portC] 32)).alloc (.cells #[.int .i64 0, .int .i64 0, .slice none 0 0, .slice none 0 0, .slice none 0 0, .slice none 0 0, .slice none 0 0, .slice none 0 0] 32))).drew false false false false false false false false false 0 0 0 0 none none none 0 0 0) := by
  have b1 : Below w.heap.size w ((w.alloc (.cells #[.int .i64 p.id, .int .i64 p.next, .slice p.procA p.procs.length p.procC, .slice p.semA p.sems.length p.semC, .slice p.eventA p.events.length p.eventC, .slice p.boardA p.boards.length p.boardC, .slice p.bufferA p.buffers.length p.bufferC, .slice p.portA p.ports.length p.portC] 32)).alloc (.cells #[.int .i64 0, .int .i64 0, .slice none 0 0, .slice none 0 0, .slice none 0 0, .slice none 0 0, .slice none 0 0, .slice none 0 0] 32)) := ((Below.refl _ _).alloc (Nat.le_refl _) _).alloc (by simp) _
  exact ⟨b1.drew, (heap_alloc_old _ _ (by simp)).trans (heap_alloc_new _ _), heap_alloc2_new _ _ _, ⟨(fun h => by cases h), fun h => by cases h⟩, ⟨(fun h => by cases h), fun h => by cases h⟩, ⟨(fun h => by cases h), fun h => by cases h⟩, (fun h => by cases h), ⟨(fun h => by cases h), fun h => by cases h⟩, (by simp), ⟨fun i j _ q hq => by rcases i with _ | _ | _ | _ | _ <;> simp [four, slotB] at hq, fun i q hq => by rcases i with _ | _ | _ | _ | _ <;> simp [four, slotB] at hq⟩⟩
 have HS : Hid (CopyS p w (((w.alloc (.cells #[.int .i64 p.id, .int .i64 p.next, .slice p.procA p.procs.length p.procC, .slice p.semA p.sems.length p.semC, .slice p.eventA p.events.length p.eventC, .slice p.boardA p.boards.length p.boardC, .slice p.bufferA p.buffers.length p.bufferC, .slice p.portA p.ports.length p.portC] 32)).alloc (.cells #[.int .i64 0, .int .i64 0, .slice none 0 0, .slice none 0 0, .slice none 0 0, .slice none 0 0, .slice none 0 0, .slice none 0 0] 32))).drew) := by obtain ⟨m0, m1, m2, m3, m4, m5, m6, m7⟩ := HC.out.part.cells; exact ⟨m0, m1, m3, m4, m5⟩
 clear hf h hsh
 unfold PartD.cells
 go_enter Tryz.func86, Tryz.ntmps86
 go_wp2_with fail
 generalize (w.alloc (.cells #[.int .i64 p.id, .int .i64 p.next, .slice p.procA p.procs.length p.procC, .slice p.semA p.sems.length p.semC, .slice p.eventA p.events.length p.eventC, .slice p.boardA p.boards.length p.boardC, .slice p.bufferA p.buffers.length p.bufferC, .slice p.portA p.ports.length p.portC] 32)).alloc (.cells #[.int .i64 0, .int .i64 0, .slice none 0 0, .slice none 0 0, .slice none 0 0, .slice none 0 0, .slice none 0 0, .slice none 0 0] 32) = W at *
 refine wp_region_held_drew (S := CopyS p w) (by kernel_rfl) HS.out (fun hHeld => ?_)
 refine tk 0 (v := ?_) ?_ hHeld ?_; rotate_left; (intro w0 hS0; obtain ⟨m0, m1, m3, m4, m5⟩ := hS0; go_simp; try with_reducible rfl); simp only [pt, sb, s0, s1]
 refine tk 1 (v := ?_) ?_ hHeld ?_; rotate_left; (intro w0 hS0; obtain ⟨m0, m1, m3, m4, m5⟩ := hS0; go_simp; try with_reducible rfl); simp only [pt, sb, s0, s1]
 refine tk 2 (v := ?_) ?_ hHeld ?_; rotate_left; (intro w0 hS0; obtain ⟨m0, m1, m3, m4, m5⟩ := hS0; go_simp; try with_reducible rfl); simp only [pt, sb, s0, s1]
 refine tk 3 (v := ?_) ?_ hHeld ?_; rotate_left; (intro w0 hS0; obtain ⟨m0, m1, m3, m4, m5⟩ := hS0; go_simp; try with_reducible rfl); simp only [pt, sb, s0, s1]
 refine tk 5 (v := ?_) ?_ hHeld ?_; rotate_left; (intro w0 hS0; obtain ⟨m0, m1, m3, m4, m5⟩ := hS0; go_simp; try with_reducible rfl); simp only [pt, sb, s0, s1]
 refine tk 6 (v := ?_) ?_ hHeld ?_; rotate_left; (intro w0 hS0; obtain ⟨m0, m1, m3, m4, m5⟩ := hS0; go_simp; try with_reducible rfl); simp only [pt, sb, s0, s1]
 refine tk 9 (v := ?_) ?_ hHeld ?_; rotate_left; (intro w0 hS0; obtain ⟨m0, m1, m3, m4, m5⟩ := hS0; go_simp; try with_reducible rfl); simp only [pt, sb, s0, s1]
 refine tk 10 (v := ?_) ?_ hHeld ?_; rotate_left; (intro w0 hS0; obtain ⟨m0, m1, m3, m4, m5⟩ := hS0; go_simp; try with_reducible rfl); simp only [pt, sb, s0, s1]
 refine tk 13 (v := ?_) ?_ hHeld ?_; rotate_left; (intro w0 hS0; obtain ⟨m0, m1, m3, m4, m5⟩ := hS0; go_simp; try with_reducible rfl); simp only [pt, sb, s0, s1]
 refine tk 14 (v := ?_) ?_ hHeld ?_; rotate_left; (intro w0 hS0; obtain ⟨m0, m1, m3, m4, m5⟩ := hS0; go_simp; try with_reducible rfl); simp only [pt, sb, s0, s1]
 refine wild (CopyInv p w) (fun l a w1 hI => ?_) (fun l a w1 hI i hi => ?_) (fun l a w1 hI h0 => ?_) _ _ _ _ ⟨false, false, false, false, false, false, false, false, false, 0, 0, 0, 0, none, none, none, 0, 0, 0, by kernel_rfl, rfl, HC.out⟩ (of_decide_eq_true (by kernel_rfl))
 ·obtain ⟨b0, d0, b1, d1, b2, d2, b3, d3, e, g0, g1, g2, o, a0, a1, a2, c0, c1, c2, -, -, hC⟩ := hI
  obtain ⟨m0, m1, m2, m3, m4, m5, m6, m7⟩ := hC.part.cells
  exact ⟨m0, m1, m3, m4, m5⟩
 ·obtain ⟨b0, d0, b1, d1, b2, d2, b3, d3, e, g0, g1, g2, o, a0, a1, a2, c0, c1, c2, rfl, rfl, hC⟩ := hI
  have HI : Hid (CopyF p w w1 b0 d0 b1 d1 b2 d2 b3 d3 e g0 g1 g2 o a0 a1 a2 c0 c1 c2) := hC
  clear hC
  unfold copyFr
  match i, hi with
  | 0, hi => exact absurd (ready_free hi) (by simp)
  | 1, hi => exact absurd (ready_free hi) (by simp)
  | 2, hi => exact absurd (ready_free hi) (by simp)
  | 3, hi => exact absurd (ready_free hi) (by simp)
  | 4, hi =>
   have hb : b0 = false := by have h5 := ready_free hi; simpa using h5
   subst hb
   refine wpOp_do (o := _) rfl (by kernel_rfl) (fun K hK => ?_)
   go_wp2_with fail
   exact hK.out _ _ ⟨true, d0, b1, d1, b2, d2, b3, d3, e, w1.heap.size, g1, g2, o, a0, a1, a2, c0, c1, c2, by rfl, by rfl, HI.out.make0⟩
  | 5, hi => exact absurd (ready_free hi) (by simp)
  | 6, hi => exact absurd (ready_free hi) (by simp)
  | 7, hi =>
   have hb : d0 = false := by have h5 := ready_free hi; simpa using h5
   have hn4 : b0 = true := by have h5 := ready_needs [4, 6] hi (by kernel_rfl) 4 (by decide); simpa using h5
   subst hb hn4
   refine wpOp_do (o := _) rfl (by kernel_rfl) (fun K hK => ?_)
   obtain ⟨a', c', w2, hr, ho, hg, hq⟩ := ontoSem w1 (w.heap.size + 2) g0 (HI.out.s0.made rfl rfl).1 (HI.out.s0.made rfl rfl).2 p.semA p.sems p.semC ((HF.out.2.below HI.out.bel).2.1.1) HF.out.1.short.sems HI.out.size
   refine oper_append _ _ _ rfl _ _ _ w2 rfl rfl hr ?_
   have he : e = false := by cases e with | false => rfl | true => (have h5 := HI.out.cl.1 rfl; simp at h5)
   subst he
   exact hK.out _ _ ⟨true, true, b1, d1, b2, d2, b3, d3, false, g0, g1, g2, o, a', a1, a2, c', c1, c2, by rfl, by rfl, HI.out.copy0 ho hg hq⟩
  | 8, hi =>
   have hb : b1 = false := by have h5 := ready_free hi; simpa using h5
   subst hb
   refine wpOp_do (o := _) rfl (by kernel_rfl) (fun K hK => ?_)
   go_wp2_with fail
   exact hK.out _ _ ⟨b0, d0, true, d1, b2, d2, b3, d3, e, g0, w1.heap.size, g2, o, a0, a1, a2, c0, c1, c2, by rfl, by rfl, HI.out.make1⟩
  | 9, hi => exact absurd (ready_free hi) (by simp)
  | 10, hi => exact absurd (ready_free hi) (by simp)
  | 11, hi =>
   have hb : d1 = false := by have h5 := ready_free hi; simpa using h5
   have hn8 : b1 = true := by have h5 := ready_needs [8, 10, 7] hi (by kernel_rfl) 8 (by decide); simpa using h5
   subst hb hn8
   refine wpOp_do (o := _) rfl (by kernel_rfl) (fun K hK => ?_)
   obtain ⟨a', c', w2, hr, ho, hg, hq⟩ := ontoEvent w1 (w.heap.size + 2) g1 (HI.out.s1.made rfl rfl).1 (HI.out.s1.made rfl rfl).2 p.eventA p.events p.eventC ((HF.out.2.below HI.out.bel).2.2.1.1) HF.out.1.short.events HI.out.size
   refine oper_append _ _ _ rfl _ _ _ w2 rfl rfl hr ?_
   have he : e = false := by cases e with | false => rfl | true => (have h5 := HI.out.cl.1 rfl; simp at h5)
   subst he
   exact hK.out _ _ ⟨b0, d0, true, true, b2, d2, b3, d3, false, g0, g1, g2, o, a0, a', a2, c0, c', c2, by rfl, by rfl, HI.out.copy1 ho hg hq⟩
  | 12, hi =>
   have hb : b2 = false := by have h5 := ready_free hi; simpa using h5
   subst hb
   refine wpOp_do (o := _) rfl (by kernel_rfl) (fun K hK => ?_)
   go_wp2_with fail
   exact hK.out _ _ ⟨b0, d0, b1, d1, true, d2, b3, d3, e, g0, g1, w1.heap.size, o, a0, a1, a2, c0, c1, c2, by rfl, by rfl, HI.out.make2⟩
  | 13, hi => exact absurd (ready_free hi) (by simp)
  | 14, hi => exact absurd (ready_free hi) (by simp)
  | 15, hi =>
   have hb : d2 = false := by have h5 := ready_free hi; simpa using h5
   have hn12 : b2 = true := by have h5 := ready_needs [12, 14, 11] hi (by kernel_rfl) 12 (by decide); simpa using h5
   subst hb hn12
   refine wpOp_do (o := _) rfl (by kernel_rfl) (fun K hK => ?_)
   obtain ⟨a', c', w2, hr, ho, hg, hq⟩ := ontoBoard w1 (w.heap.size + 2) g2 (HI.out.s2.made rfl rfl).1 (HI.out.s2.made rfl rfl).2 p.boardA p.boards p.boardC ((HF.out.2.below HI.out.bel).2.2.2.1.1) HF.out.1.short.boards HI.out.size
   refine oper_append _ _ _ rfl _ _ _ w2 rfl rfl hr ?_
   have he : e = false := by cases e with | false => rfl | true => (have h5 := HI.out.cl.1 rfl; simp at h5)
   subst he
   exact hK.out _ _ ⟨b0, d0, b1, d1, true, true, b3, d3, false, g0, g1, g2, o, a0, a1, a', c0, c1, c', by rfl, by rfl, HI.out.copy2 ho hg hq⟩
  | 16, hi =>
   have hb : e = false := by have h5 := ready_free hi; simpa using h5
   have hn7 : d0 = true := by have h5 := ready_needs [1, 3, 7, 11, 15] hi (by kernel_rfl) 7 (by decide); simpa using h5
   have hn11 : d1 = true := by have h5 := ready_needs [1, 3, 7, 11, 15] hi (by kernel_rfl) 11 (by decide); simpa using h5
   have hn15 : d2 = true := by have h5 := ready_needs [1, 3, 7, 11, 15] hi (by kernel_rfl) 15 (by decide); simpa using h5
   subst hb hn7 hn11 hn15
   refine wpOp_do (o := _) rfl (by kernel_rfl) (fun K hK => ?_)
   go_wp2_with fail
   exact hK.out _ _ ⟨b0, true, b1, true, b2, true, b3, d3, true, g0, g1, g2, o, a0, a1, a2, c0, c1, c2, by rfl, by rfl, HI.out.build rfl rfl rfl⟩
  | 17, hi =>
   have hb : b3 = false := by have h5 := ready_free hi; simpa using h5
   subst hb
   refine wpOp_do (o := _) rfl (by kernel_rfl) (fun K hK => ?_)
   have hd3 : d3 = false := by cases d3 with | false => rfl | true => (have h5 := HI.out.cl.2 rfl; simp at h5)
   subst hd3
   go_wp2_with fail
   exact hK.out _ _ ⟨b0, d0, b1, d1, b2, d2, true, false, e, g0, g1, g2, w1.heap.size, a0, a1, a2, c0, c1, c2, by rfl, by rfl, HI.out.make3⟩
  | 18, hi =>
   have hb : d3 = false := by have h5 := ready_free hi; simpa using h5
   have hn17 : b3 = true := by have h5 := ready_needs [17, 16, 15, 0, 1, 2, 3, 4, 5, 6, 7, 8, 9, 10, 11, 12, 13, 14, 15, 16, 17] hi (by kernel_rfl) 17 (by decide); simpa using h5
   have hn16 : e = true := by have h5 := ready_needs [17, 16, 15, 0, 1, 2, 3, 4, 5, 6, 7, 8, 9, 10, 11, 12, 13, 14, 15, 16, 17] hi (by kernel_rfl) 16 (by decide); simpa using h5
   subst hb hn17 hn16
   refine wpOp_do (o := _) rfl (by kernel_rfl) (fun K hK => ?_)
   refine oper_store _ _ _ rfl o _ _ _ rfl rfl (HI.out.out rfl) (by kernel_rfl) rfl (by kernel_rfl) ?_
   exact hK.out _ _ ⟨b0, d0, b1, d1, b2, d2, true, true, true, g0, g1, g2, o, a0, a1, a2, c0, c1, c2, by rfl, by rfl, HI.out.store⟩
  | n + 19, hi => exact absurd (ready_free hi) (by simp)
 ·obtain ⟨b0, d0, b1, d1, b2, d2, b3, d3, e, g0, g1, g2, o, a0, a1, a2, c0, c1, c2, rfl, rfl, hC⟩ := hI
  have hno : ∀ i, i ∉ Region.ready .any _ _ := fun i hi => by rw [h0] at hi; cases hi
  have hb0 : b0 = true := by cases hx : b0 with | true => rfl | false => exact absurd (ready_of [] (by kernel_rfl) (by kernel_rfl) (by simp [hx]) (fun j hj => by cases hj)) (hno 4)
  have hd0 : d0 = true := by cases hx : d0 with | true => rfl | false => exact absurd (ready_of [4, 6] (by kernel_rfl) (by kernel_rfl) (by simp [hx]) (fun j hj => by simp only [List.mem_cons, List.not_mem_nil, or_false] at hj; rcases hj with rfl | rfl <;> first | rfl | simp [hb0])) (hno 7)
  have hb1 : b1 = true := by cases hx : b1 with | true => rfl | false => exact absurd (ready_of [] (by kernel_rfl) (by kernel_rfl) (by simp [hx]) (fun j hj => by cases hj)) (hno 8)
  have hd1 : d1 = true := by cases hx : d1 with | true => rfl | false => exact absurd (ready_of [8, 10, 7] (by kernel_rfl) (by kernel_rfl) (by simp [hx]) (fun j hj => by simp only [List.mem_cons, List.not_mem_nil, or_false] at hj; rcases hj with rfl | rfl | rfl <;> first | rfl | simp [hb1, hd0])) (hno 11)
  have hb2 : b2 = true := by cases hx : b2 with | true => rfl | false => exact absurd (ready_of [] (by kernel_rfl) (by kernel_rfl) (by simp [hx]) (fun j hj => by cases hj)) (hno 12)
  have hd2 : d2 = true := by cases hx : d2 with | true => rfl | false => exact absurd (ready_of [12, 14, 11] (by kernel_rfl) (by kernel_rfl) (by simp [hx]) (fun j hj => by simp only [List.mem_cons, List.not_mem_nil, or_false] at hj; rcases hj with rfl | rfl | rfl <;> first | rfl | simp [hb2, hd1])) (hno 15)
  have he : e = true := by cases hx : e with | true => rfl | false => exact absurd (ready_of [1, 3, 7, 11, 15] (by kernel_rfl) (by kernel_rfl) (by simp [hx]) (fun j hj => by simp only [List.mem_cons, List.not_mem_nil, or_false] at hj; rcases hj with rfl | rfl | rfl | rfl | rfl <;> first | rfl | simp [hd0, hd1, hd2])) (hno 16)
  have hb3 : b3 = true := by cases hx : b3 with | true => rfl | false => exact absurd (ready_of [] (by kernel_rfl) (by kernel_rfl) (by simp [hx]) (fun j hj => by cases hj)) (hno 17)
  have hd3 : d3 = true := by cases hx : d3 with | true => rfl | false => exact absurd (ready_of [17, 16, 15, 0, 1, 2, 3, 4, 5, 6, 7, 8, 9, 10, 11, 12, 13, 14, 15, 16, 17] (by kernel_rfl) (by kernel_rfl) (by simp [hx]) (fun j hj => by simp only [List.mem_cons, List.not_mem_nil, or_false] at hj; rcases hj with rfl | rfl | rfl | rfl | rfl | rfl | rfl | rfl | rfl | rfl | rfl | rfl | rfl | rfl | rfl | rfl | rfl | rfl | rfl | rfl | rfl <;> first | rfl | simp [hb0, hd0, hb1, hd1, hb2, hd2, he, hb3])) (hno 18)
  subst hb0 hd0 hb1 hd1 hb2 hd2 he hb3 hd3
  have HI : Hid (CopyF p w w1 true true true true true true true true true g0 g1 g2 o a0 a1 a2 c0 c1 c2) := hC
  clear hC hno h0
  simp only [copyFr, cond_true]
  have HLS : Hid (CopyL p w w1 o ⟨p.id, p.next, [], none, 0, p.sems, a0, c0, p.events, a1, c1, p.boards, a2, c2, [], none, 0, [], none, 0⟩) := CopyL.start HI.out
  clear HI HC HS hHeld
  obtain ⟨i0', hi', e0'⟩ := Option.map_eq_some_iff.1 rinfProc
  simp only [Prod.mk.injEq] at e0'
  have HI : Hid (Tryz.prog.info? 43 = some i0' ∧ i0'.zero = some _ ∧ i0'.size = 12 ∧ i0'.bytes = 128) := ⟨hi', e0'⟩
  clear hi' e0'
  have hpProc : p.procs.length ≤ 1048576 := HF.out.1.short.procs
  go_wp2_with fail
  go_loopw [4] (fun i wr => ∃ k : Nat, k ≤ p.procs.length ∧ i = .int .i64 k ∧ Hid (∃ q, CopyL p w wr o q ∧ q.pure = { p.pure with procs := p.pure.procs.take k, buffers := [], ports := [] })) (fun i _ => p.procs.length - (intOf i).toNat)
  case atStart => exact ⟨0, Nat.zero_le _, rfl, ⟨_, HLS.out, rfl⟩⟩
  case round =>
   obtain ⟨k, hk, rfl, HA⟩ := hrel
   obtain ⟨q, hL, hq⟩ := HA.out
   have HL : Hid (CopyL p w wr o q ∧ (q.pure = { p.pure with procs := p.pure.procs.take k, buffers := [], ports := [] }) ∧ q.procs.length = k) := ⟨hL, hq, lenProc hq hk⟩
   clear HA hL hq
   have mp : wr.cell? ⟨w.heap.size, 2, none⟩ = some (.slice p.procA p.procs.length p.procC) := by obtain ⟨m0, m1, m2, m3, m4, m5, m6, m7⟩ := HL.out.1.part.cells; exact m2
   by_cases hlt : k < p.procs.length
   ·have i0 : (0 : Int) ≤ (k : Int) := by omega
    have i1 : (k : Int) < (p.procs.length : Int) := by omega
    obtain ⟨x, hx⟩ : ∃ x, p.procs[k]? = some x := ⟨_, List.getElem?_eq_getElem hlt⟩
    have hAt := HF.out.2.below HL.out.1.bel
    obtain ⟨gs, ha, hat⟩ := proc_at hAt.1 hx
    rw [ha] at mp
    obtain ⟨d0, d1, d2, d3, d4, d5, d6, d7, d8, d9, d10, d11⟩ := hat
    have HX : Hid (p.procs[k]? = some x ∧ Row wr x.progA (opK.flat x.prog) ∧ x.prog.length ≤ 1048576) := ⟨hx, hAt.1.2 x (List.mem_of_getElem? hx) (x.progA, opK.flat x.prog) (List.mem_singleton.2 rfl), (HFS.out x (List.mem_of_getElem? hx)).prog⟩
    clear hx ha hAt
    have hb2 : Below wr.heap.size wr ((wr.alloc (.cells #[.int .i64 x.id, .int .i64 x.prio, .slice x.progA x.prog.length x.progC, .int .i64 x.state, .int .i64 x.pc, .int .i64 x.left, .int .i64 x.wake, .int .i64 x.on, .string x.held, .string x.got, .int .i64 x.code, .int .i64 x.since] 43)).alloc (.cells #[] 134)) := ((Below.refl _ _).alloc (Nat.le_refl _) _).alloc (by simp) _
    obtain ⟨a2, c2, w7, hap, how, hgw, hqb⟩ := ontoOp ((wr.alloc (.cells #[.int .i64 x.id, .int .i64 x.prio, .slice x.progA x.prog.length x.progC, .int .i64 x.state, .int .i64 x.pc, .int .i64 x.left, .int .i64 x.wake, .int .i64 x.on, .string x.held, .string x.got, .int .i64 x.code, .int .i64 x.since] 43)).alloc (.cells #[] 134)) wr.heap.size (wr.heap.size + 1) (heap_alloc2_new _ _ _) (by omega) x.progA x.prog x.progC (HX.out.2.1.below hb2) HX.out.2.2 (by simp; omega)
    have hX7 := (hgw.block wr.heap.size (by simp; omega) (fun e => by have := Option.some.inj e; omega)).trans ((heap_alloc_old _ _ (by simp)).trans (heap_alloc_new wr _))
    have hb7 : Below wr.heap.size wr w7 := hb2.grown hgw (by simp; omega) (fun k hk => by cases hk; omega)
    have HW7 : Hid (CpProc wr w7 x a2 c2) := ⟨hX7, hb7, how, fun g hg => by have h5 := hqb g hg; simp at h5; exact h5⟩
    have z0 : w7.frozen? ⟨wr.heap.size, 2, none⟩ = false := frozen_of_row _ _ _ _ _ hX7
    have z1 : w7.cell? ⟨wr.heap.size, 2, none⟩ = some (.slice x.progA x.prog.length x.progC) := by simp [World.cell?, hX7]
    clear hb2 how hgw hqb hX7 hb7
    obtain ⟨co, e0, e1, e2, e3, e4, e5, e6, e7, e8, e9, e10, e11⟩ := HL.out.1.inProc HW7.out rfl
    have hkl : q.procs.length ≤ 1048576 := by have := HL.out.2.2; have := HF.out.1.short.procs; omega
    have hsz : w.heap.size + 2 ≤ w7.heap.size := by have h5 := HW7.out.2.1.size; have h6 := HL.out.1.low; have h7 : o < wr.heap.size := (Array.getElem?_eq_some_iff.1 HL.out.1.out).1; omega
    have HR9 : Hid (_) := HL.out.1.rowProc HW7.out rfl rfl
    go_wp2_with (at_builtin; first | (refine wpList_append_run _ rfl _ _ 37 rfl _ _ _ _ rfl rfl hap ?_; clear hap) | (refine wpList_append_own_at _ rfl _ _ 25 rfl (w.heap.size + 2) 43 i0' _ 12 128 Tryz.underlying25 HI.out.1 HI.out.2.1 HI.out.2.2.1 HI.out.2.2.2 rfl (by decide) (.slice q.procA q.procs.length q.procC) q.procs.length (procK.flat q.procs) rfl HR9.out.1 ⟨w7.heap.size, 0, none⟩ 1 1 (procK.vals ({ x with progA := a2, progC := c2 } : ProcD)) (by rfl) rfl (World.news_of_block (cs := #[.int .i64 x.id, .int .i64 x.prio, .slice a2 x.prog.length c2, .int .i64 x.state, .int .i64 x.pc, .int .i64 x.left, .int .i64 x.wake, .int .i64 x.on, .string x.held, .string x.got, .int .i64 x.code, .int .i64 x.since]) (t := 43) (fr := (0, 0)) HR9.out.2) (by simp [procK, procVals, Value.oneCell']) (by unfold maxLen; omega) (by omega) (by simp; omega) ?_; intro v5 w10 hown5 hgrow5 hnil5 hloc5; obtain ⟨a5, c5, rfl, -⟩ := own_form hown5; have HN : Hid (CopyL p w (w10.setCell ⟨o, 2, none⟩ (.slice a5 (q.procs.length + 1) c5)) o ({ q with procs := q.procs ++ [({ x with progA := a2, progC := c2 } : ProcD)], procA := a5, procC := c5 } : PartD) ∧ w10.cell? ⟨o, 2, none⟩ = some (.slice q.procA q.procs.length q.procC) ∧ w10.frozen? ⟨o, 2, none⟩ = false) := HL.out.1.stepProc HW7.out rfl rfl hown5 hgrow5 hloc5; have yo := HN.out.2.1; have zo := HN.out.2.2; clear hown5 hgrow5 hnil5 hloc5))
    go_roundw
    case rel => exact ⟨k + 1, by omega, by go_num, ⟨_, HN.out.1, CopyL.upProc HL.out.2.1 HX.out.1⟩⟩
    case measure => simp [intOf]; omega
   ·have i1 : ¬ (k : Int) < (p.procs.length : Int) := by omega
    have HE : Hid (∃ q, CopyL p w wr o q ∧ q.pure = { p.pure with buffers := [], ports := [] }) := by
     have h5 := HL.out.2.1
     rw [List.take_of_length_le (by show (p.procs.map _).length ≤ k; rw [List.length_map]; omega)] at h5
     exact ⟨q, HL.out.1, h5⟩
    clear HL
    rename World => W2
    obtain ⟨i0', hi', e0'⟩ := Option.map_eq_some_iff.1 rinfBuffer
    simp only [Prod.mk.injEq] at e0'
    have HI : Hid (Tryz.prog.info? 144 = some i0' ∧ i0'.zero = some _ ∧ i0'.size = 3 ∧ i0'.bytes = 40) := ⟨hi', e0'⟩
    clear hi' e0'
    have hpBuffer : p.buffers.length ≤ 1048576 := HF.out.1.short.buffers
    go_wp2_with fail
    clear mp
    go_loopw [6] (fun i wr => ∃ k : Nat, k ≤ p.buffers.length ∧ i = .int .i64 k ∧ Hid (∃ q, CopyL p w wr o q ∧ q.pure = { p.pure with buffers := p.pure.buffers.take k, ports := [] })) (fun i _ => p.buffers.length - (intOf i).toNat)
    case atStart => exact ⟨0, Nat.zero_le _, rfl, by obtain ⟨q, h1, h2⟩ := HE.out; exact ⟨q, h1, h2.trans (by simp)⟩⟩
    case round =>
     obtain ⟨k, hk, rfl, HA⟩ := hrel
     obtain ⟨q, hL, hq⟩ := HA.out
     have HL : Hid (CopyL p w wr o q ∧ (q.pure = { p.pure with buffers := p.pure.buffers.take k, ports := [] }) ∧ q.buffers.length = k) := ⟨hL, hq, lenBuffer hq hk⟩
     clear HA hL hq
     have mp : wr.cell? ⟨w.heap.size, 6, none⟩ = some (.slice p.bufferA p.buffers.length p.bufferC) := by obtain ⟨m0, m1, m2, m3, m4, m5, m6, m7⟩ := HL.out.1.part.cells; exact m6
     by_cases hlt : k < p.buffers.length
     ·have i0 : (0 : Int) ≤ (k : Int) := by omega
      have i1 : (k : Int) < (p.buffers.length : Int) := by omega
      obtain ⟨x, hx⟩ : ∃ x, p.buffers[k]? = some x := ⟨_, List.getElem?_eq_getElem hlt⟩
      have hAt := HF.out.2.below HL.out.1.bel
      obtain ⟨gs, ha, hat⟩ := buffer_at hAt.2.2.2.2.1 hx
      rw [ha] at mp
      obtain ⟨d0, d1, d2⟩ := hat
      have HX : Hid (p.buffers[k]? = some x ∧ Row wr x.itemsA (strK.flat x.items) ∧ x.items.length ≤ 1048576) := ⟨hx, hAt.2.2.2.2.1.2 x (List.mem_of_getElem? hx) (x.itemsA, strK.flat x.items) (List.mem_singleton.2 rfl), (HF.out.1.buffers x (List.mem_of_getElem? hx)).1⟩
      clear hx ha hAt
      have hb2 : Below wr.heap.size wr ((wr.alloc (.cells #[.int .i64 x.id, .int .i64 x.max, .slice x.itemsA x.items.length x.itemsC] 144)).alloc (.cells #[] 9)) := ((Below.refl _ _).alloc (Nat.le_refl _) _).alloc (by simp) _
      obtain ⟨a2, c2, w7, hap, how, hgw, hqb⟩ := ontoStr ((wr.alloc (.cells #[.int .i64 x.id, .int .i64 x.max, .slice x.itemsA x.items.length x.itemsC] 144)).alloc (.cells #[] 9)) wr.heap.size (wr.heap.size + 1) (heap_alloc2_new _ _ _) (by omega) x.itemsA x.items x.itemsC (HX.out.2.1.below hb2) HX.out.2.2 (by simp; omega)
      have hX7 := (hgw.block wr.heap.size (by simp; omega) (fun e => by have := Option.some.inj e; omega)).trans ((heap_alloc_old _ _ (by simp)).trans (heap_alloc_new wr _))
      have hb7 : Below wr.heap.size wr w7 := hb2.grown hgw (by simp; omega) (fun k hk => by cases hk; omega)
      have HW7 : Hid (CpBuffer wr w7 x a2 c2) := ⟨hX7, hb7, how, fun g hg => by have h5 := hqb g hg; simp at h5; exact h5⟩
      have z0 : w7.frozen? ⟨wr.heap.size, 2, none⟩ = false := frozen_of_row _ _ _ _ _ hX7
      have z1 : w7.cell? ⟨wr.heap.size, 2, none⟩ = some (.slice x.itemsA x.items.length x.itemsC) := by simp [World.cell?, hX7]
      clear hb2 how hgw hqb hX7 hb7
      obtain ⟨co, e0, e1, e2⟩ := HL.out.1.inBuffer HW7.out rfl
      have hkl : q.buffers.length ≤ 1048576 := by have := HL.out.2.2; have := HF.out.1.short.buffers; omega
      have hsz : w.heap.size + 2 ≤ w7.heap.size := by have h5 := HW7.out.2.1.size; have h6 := HL.out.1.low; have h7 : o < wr.heap.size := (Array.getElem?_eq_some_iff.1 HL.out.1.out).1; omega
      have HR9 : Hid (_) := HL.out.1.rowBuffer HW7.out rfl rfl
      go_wp2_with (at_builtin; first | (refine wpList_append_run _ rfl _ _ 59 rfl _ _ _ _ rfl rfl hap ?_; clear hap) | (refine wpList_append_own_at _ rfl _ _ 29 rfl (w.heap.size + 2) 144 i0' _ 3 40 Tryz.underlying29 HI.out.1 HI.out.2.1 HI.out.2.2.1 HI.out.2.2.2 rfl (by decide) (.slice q.bufferA q.buffers.length q.bufferC) q.buffers.length (bufferK.flat q.buffers) rfl HR9.out.1 ⟨w7.heap.size, 0, none⟩ 1 1 (bufferK.vals ({ x with itemsA := a2, itemsC := c2 } : BufferD)) (by rfl) rfl (World.news_of_block (cs := #[.int .i64 x.id, .int .i64 x.max, .slice a2 x.items.length c2]) (t := 144) (fr := (0, 0)) HR9.out.2) (by simp [bufferK, bufferVals, Value.oneCell']) (by unfold maxLen; omega) (by omega) (by simp; omega) ?_; intro v5 w10 hown5 hgrow5 hnil5 hloc5; obtain ⟨a5, c5, rfl, -⟩ := own_form hown5; have HN : Hid (CopyL p w (w10.setCell ⟨o, 6, none⟩ (.slice a5 (q.buffers.length + 1) c5)) o ({ q with buffers := q.buffers ++ [({ x with itemsA := a2, itemsC := c2 } : BufferD)], bufferA := a5, bufferC := c5 } : PartD) ∧ w10.cell? ⟨o, 6, none⟩ = some (.slice q.bufferA q.buffers.length q.bufferC) ∧ w10.frozen? ⟨o, 6, none⟩ = false) := HL.out.1.stepBuffer HW7.out rfl rfl hown5 hgrow5 hloc5; have yo := HN.out.2.1; have zo := HN.out.2.2; clear hown5 hgrow5 hnil5 hloc5))
      go_roundw
      case rel => exact ⟨k + 1, by omega, by go_num, ⟨_, HN.out.1, CopyL.upBuffer HL.out.2.1 HX.out.1⟩⟩
      case measure => simp [intOf]; omega
     ·have i1 : ¬ (k : Int) < (p.buffers.length : Int) := by omega
      have HE : Hid (∃ q, CopyL p w wr o q ∧ q.pure = { p.pure with ports := [] }) := by
       have h5 := HL.out.2.1
       rw [List.take_of_length_le (by show (p.buffers.map _).length ≤ k; rw [List.length_map]; omega)] at h5
       exact ⟨q, HL.out.1, h5⟩
      clear HL
      rename World => W3
      obtain ⟨i0', hi', e0'⟩ := Option.map_eq_some_iff.1 rinfPort
      simp only [Prod.mk.injEq] at e0'
      have HI : Hid (Tryz.prog.info? 61 = some i0' ∧ i0'.zero = some _ ∧ i0'.size = 5 ∧ i0'.bytes = 48) := ⟨hi', e0'⟩
      clear hi' e0'
      have hpPort : p.ports.length ≤ 1048576 := HF.out.1.short.ports
      go_wp2_with fail
      clear mp
      go_loopw [8] (fun i wr => ∃ k : Nat, k ≤ p.ports.length ∧ i = .int .i64 k ∧ Hid (∃ q, CopyL p w wr o q ∧ q.pure = { p.pure with ports := p.pure.ports.take k })) (fun i _ => p.ports.length - (intOf i).toNat)
      case atStart => exact ⟨0, Nat.zero_le _, rfl, by obtain ⟨q, h1, h2⟩ := HE.out; exact ⟨q, h1, h2.trans (by simp)⟩⟩
      case round =>
       obtain ⟨k, hk, rfl, HA⟩ := hrel
       obtain ⟨q, hL, hq⟩ := HA.out
       have HL : Hid (CopyL p w wr o q ∧ (q.pure = { p.pure with ports := p.pure.ports.take k }) ∧ q.ports.length = k) := ⟨hL, hq, lenPort hq hk⟩
       clear HA hL hq
       have mp : wr.cell? ⟨w.heap.size, 7, none⟩ = some (.slice p.portA p.ports.length p.portC) := by obtain ⟨m0, m1, m2, m3, m4, m5, m6, m7⟩ := HL.out.1.part.cells; exact m7
       by_cases hlt : k < p.ports.length
       ·have i0 : (0 : Int) ≤ (k : Int) := by omega
        have i1 : (k : Int) < (p.ports.length : Int) := by omega
        obtain ⟨x, hx⟩ : ∃ x, p.ports[k]? = some x := ⟨_, List.getElem?_eq_getElem hlt⟩
        have hAt := HF.out.2.below HL.out.1.bel
        obtain ⟨gs, ha, hat⟩ := port_at hAt.2.2.2.2.2 hx
        rw [ha] at mp
        obtain ⟨d0, d1, d2, d3, d4⟩ := hat
        have HX : Hid (p.ports[k]? = some x ∧ Row wr x.itemsA (strK.flat x.items) ∧ x.items.length ≤ 1048576) := ⟨hx, hAt.2.2.2.2.2.2 x (List.mem_of_getElem? hx) (x.itemsA, strK.flat x.items) (List.mem_singleton.2 rfl), (HF.out.1.ports x (List.mem_of_getElem? hx)).1⟩
        clear hx ha hAt
        have hb2 : Below wr.heap.size wr ((wr.alloc (.cells #[.int .i64 x.id, .bool x.out, .bool x.queue, .int .i64 x.max, .slice x.itemsA x.items.length x.itemsC] 61)).alloc (.cells #[] 9)) := ((Below.refl _ _).alloc (Nat.le_refl _) _).alloc (by simp) _
        obtain ⟨a2, c2, w7, hap, how, hgw, hqb⟩ := ontoStr ((wr.alloc (.cells #[.int .i64 x.id, .bool x.out, .bool x.queue, .int .i64 x.max, .slice x.itemsA x.items.length x.itemsC] 61)).alloc (.cells #[] 9)) wr.heap.size (wr.heap.size + 1) (heap_alloc2_new _ _ _) (by omega) x.itemsA x.items x.itemsC (HX.out.2.1.below hb2) HX.out.2.2 (by simp; omega)
        have hX7 := (hgw.block wr.heap.size (by simp; omega) (fun e => by have := Option.some.inj e; omega)).trans ((heap_alloc_old _ _ (by simp)).trans (heap_alloc_new wr _))
        have hb7 : Below wr.heap.size wr w7 := hb2.grown hgw (by simp; omega) (fun k hk => by cases hk; omega)
        have HW7 : Hid (CpPort wr w7 x a2 c2) := ⟨hX7, hb7, how, fun g hg => by have h5 := hqb g hg; simp at h5; exact h5⟩
        have z0 : w7.frozen? ⟨wr.heap.size, 4, none⟩ = false := frozen_of_row _ _ _ _ _ hX7
        have z1 : w7.cell? ⟨wr.heap.size, 4, none⟩ = some (.slice x.itemsA x.items.length x.itemsC) := by simp [World.cell?, hX7]
        clear hb2 how hgw hqb hX7 hb7
        obtain ⟨co, e0, e1, e2, e3, e4⟩ := HL.out.1.inPort HW7.out rfl
        have hkl : q.ports.length ≤ 1048576 := by have := HL.out.2.2; have := HF.out.1.short.ports; omega
        have hsz : w.heap.size + 2 ≤ w7.heap.size := by have h5 := HW7.out.2.1.size; have h6 := HL.out.1.low; have h7 : o < wr.heap.size := (Array.getElem?_eq_some_iff.1 HL.out.1.out).1; omega
        have HR9 : Hid (_) := HL.out.1.rowPort HW7.out rfl rfl
        go_wp2_with (at_builtin; first | (refine wpList_append_run _ rfl _ _ 59 rfl _ _ _ _ rfl rfl hap ?_; clear hap) | (refine wpList_append_own_at _ rfl _ _ 30 rfl (w.heap.size + 2) 61 i0' _ 5 48 Tryz.underlying30 HI.out.1 HI.out.2.1 HI.out.2.2.1 HI.out.2.2.2 rfl (by decide) (.slice q.portA q.ports.length q.portC) q.ports.length (portK.flat q.ports) rfl HR9.out.1 ⟨w7.heap.size, 0, none⟩ 1 1 (portK.vals ({ x with itemsA := a2, itemsC := c2 } : PortD)) (by rfl) rfl (World.news_of_block (cs := #[.int .i64 x.id, .bool x.out, .bool x.queue, .int .i64 x.max, .slice a2 x.items.length c2]) (t := 61) (fr := (0, 0)) HR9.out.2) (by simp [portK, portVals, Value.oneCell']) (by unfold maxLen; omega) (by omega) (by simp; omega) ?_; intro v5 w10 hown5 hgrow5 hnil5 hloc5; obtain ⟨a5, c5, rfl, -⟩ := own_form hown5; have HN : Hid (CopyL p w (w10.setCell ⟨o, 7, none⟩ (.slice a5 (q.ports.length + 1) c5)) o ({ q with ports := q.ports ++ [({ x with itemsA := a2, itemsC := c2 } : PortD)], portA := a5, portC := c5 } : PartD) ∧ w10.cell? ⟨o, 7, none⟩ = some (.slice q.portA q.ports.length q.portC) ∧ w10.frozen? ⟨o, 7, none⟩ = false) := HL.out.1.stepPort HW7.out rfl rfl hown5 hgrow5 hloc5; have yo := HN.out.2.1; have zo := HN.out.2.2; clear hown5 hgrow5 hnil5 hloc5))
        go_roundw
        case rel => exact ⟨k + 1, by omega, by go_num, ⟨_, HN.out.1, CopyL.upPort HL.out.2.1 HX.out.1⟩⟩
        case measure => simp [intOf]; omega
       ·have i1 : ¬ (k : Int) < (p.ports.length : Int) := by omega
        have HE : Hid (∃ q, CopyL p w wr o q ∧ q.pure = p.pure) := by
         have h5 := HL.out.2.1
         rw [List.take_of_length_le (by show (p.ports.map _).length ≤ k; rw [List.length_map]; omega)] at h5
         exact ⟨q, HL.out.1, h5⟩
        clear HL
        obtain ⟨q, hL, hq⟩ := HE.out
        have HZ : Hid (CopyL p w wr o q ∧ q.pure = p.pure) := ⟨hL, hq⟩
        obtain ⟨m0, m1, m2, m3, m4, m5, m6, m7⟩ := hL.out.cells
        clear hL hq HE
        repeat (first | (go_big_may; refine wpList_store_row rfl 32 (Operand.tmp 2) (Operand.tmp 96) rfl (w.heap.size + 1) _ _ #[.int .i64 q.id, .int .i64 q.next, .slice q.procA q.procs.length q.procC, .slice q.semA q.sems.length q.semC, .slice q.eventA q.events.length q.eventC, .slice q.boardA q.boards.length q.boardC, .slice q.bufferA q.buffers.length q.bufferC, .slice q.portA q.ports.length q.portC] rfl rfl HZ.out.1.ret (by kernel_rfl) rfl (by kernel_rfl) ?_) | go_values | go_skip | go_guarded | go_step | go_upon | go_back)
        repeat (first | go_values | go_skip | go_guarded | go_step | go_upon)
        refine bodyPost_ret (v := .agg #[.int .i64 q.id, .int .i64 q.next, .slice q.procA q.procs.length q.procC, .slice q.semA q.sems.length q.semC, .slice q.eventA q.events.length q.eventC, .slice q.boardA q.boards.length q.boardC, .slice q.bufferA q.buffers.length q.bufferC, .slice q.portA q.ports.length q.portC]) (results_cell_row Tryz.results86 _ _ (w.heap.size + 1) _ _ (0, 0) _ rfl (setRow_heap _ _ _ _ _ _ HZ.out.1.ret) Tryz.underlying32 rfl (by kernel_rfl)) rfl ?_
        have hne : ∀ g ∈ q.blocks, g ≠ w.heap.size + 1 := fun g hg e => by have := (HZ.out.1.own.lt g hg).1; omega
        exact ⟨q, rfl, (HZ.out.1.own.lower (by omega)).same fun g hg => setRow_other _ _ _ _ (hne g hg), HZ.out.2, below_setRow HZ.out.1.bel (by omega) _⟩

end Go.Proofs.YtkbcplnlehdjfaaGreat

/- Two results, the first of them a struct in a block. -/
namespace Go.Proofs.YtkbcplnlehdjfaaGreat
open Go

theorem results_row_tmp {P : Program} {fn : Func} {p u : Tmp} {ty : TypeId} (h : fn.results = #[.cell p ty, .tmp u]) (tmps : Array Value) (w : World) (g : Nat) (t : TypeId) (cs : Array Value) (fr : Nat × Nat) (d : TypeDesc)
  (hp : tmps.getD p undef = .pointer (some ⟨g, 0, none⟩)) (hg : w.heap[g]? = some (.cells cs t fr))
  (hu : P.underlying ty = some d) (hd : (match d with | .struct _ | .array _ _ => true | _ => false) = true) (hi : (P.info? ty).map (·.size) = some cs.size) :
  (results fn tmps).run P w = .ok (.tuple #[.agg cs, tmps.getD u undef]) w := by
 rw [results_cell_tmp h, hp]
 simp [asAddr, run_loadVar_row w g t ty cs fr d hg hu hd hi]

end Go.Proofs.YtkbcplnlehdjfaaGreat

/- A process by its number: the specification and the programme. (Made by mkprocof.py.) -/
namespace Go.Proofs.YtkbcplnlehdjfaaGreat
open Go.RowKit Go.Maps
attribute [local go_sem ↓] Go.wp_at_zero Go.wp_at_succ

/-- The process of that number. -/
def zeroP : ProcP := ⟨0, 0, [], 0, 0, 0, 0, 0, noT, noT, 0, 0⟩
def procOfP (p : PartP) (id : Int) : Option ProcP := if partB p then p.procs.find? (fun x => decide (x.id = id)) else none
/-- What asking for a process ends in: it, or none, in memory of its own. -/
def ProcEnds (w : World) (r : Option ProcP) (e : Ending) (w' : World) : Prop := ∃ x : ProcD, e = .returned (.tuple #[.agg (procVs x), .bool r.isSome]) ∧ procN.Mine w' w.heap.size x ∧ x.toProcP = r.getD zeroP ∧ Below w.heap.size w w'
theorem procEnds_no {w w' : World} {r : Option ProcP} (h : r = none) (hb : Below w.heap.size w w') : ProcEnds w r (.returned (.tuple #[.agg #[.int .i64 0, .int .i64 0, .slice none 0 0, .int .i64 0, .int .i64 0, .int .i64 0, .int .i64 0, .int .i64 0, .string ⟨#[]⟩, .string ⟨#[]⟩, .int .i64 0, .int .i64 0], .bool false])) w' := by
 subst h
 exact ⟨⟨zeroP, none, 0⟩, rfl, World.ownsRow_nil _ _ _ _, rfl, hb⟩
theorem procOf_not {p : PartP} {id : Int} (h : partB p = false) : procOfP p id = none := by simp [procOfP, h]
theorem procOf_len {p : PartP} (id : Int) (h : p.Small) : ((procOfP p id).getD zeroP).prog.length ≤ 1048576 := by
 unfold procOfP
 split
 ·cases hf : p.procs.find? (fun x => decide (x.id = id)) with
  | none => simp [zeroP]
  | some y => exact (h.procs y (List.mem_of_find?_eq_some hf)).1.1
 ·simp [zeroP]
theorem place_find (id : Int) : ∀ (l : List ProcP) (k : Nat), (place (l.map (·.id)) id k = -1 ∧ l.find? (fun x => decide (x.id = id)) = none) ∨ ∃ n x, place (l.map (·.id)) id k = ((k + n : Nat) : Int) ∧ l[n]? = some x ∧ l.find? (fun x => decide (x.id = id)) = some x
 | [], k => .inl ⟨rfl, rfl⟩
 | x :: r, k => by
  by_cases h : x.id = id
  ·refine .inr ⟨0, x, ?_, rfl, by simp [h]⟩
   simp [place, h]
  ·rcases place_find id r (k + 1) with ⟨h1, h2⟩ | ⟨n, y, h1, h2, h3⟩
   ·exact .inl ⟨by simp only [List.map_cons, place]; rw [if_neg h]; exact h1, by simp only [List.find?_cons, h, decide_false]; exact h2⟩
   ·refine .inr ⟨n + 1, y, ?_, h2, by simp only [List.find?_cons, h, decide_false]; exact h3⟩
    simp only [List.map_cons, place]
    rw [if_neg h, h1]
    omega

set_option maxRecDepth 100000 in
set_option maxHeartbeats 4000000 in
theorem specProcOf_any (p : PartD) (id : Int) (w : World) (hf : p.Fit) (hs : ∀ x ∈ p.procs, x.Short) (h : PartD.At w p) :
  Calls Tryz.prog 72 #[.agg p.cells, .int .i64 id] w fun e w' => ProcEnds w (procOfP p.pure id) e w' := by
 have HB : Hid (PartBox ((w.alloc (.cells #[.int .i64 p.id, .int .i64 p.next, .slice p.procA p.procs.length p.procC, .slice p.semA p.sems.length p.semC, .slice p.eventA p.events.length p.eventC, .slice p.boardA p.boards.length p.boardC, .slice p.bufferA p.buffers.length p.bufferC, .slice p.portA p.ports.length p.portC] 32)).alloc (.cells #[.int .i64 0, .int .i64 0, .slice none 0 0, .int .i64 0, .int .i64 0, .int .i64 0, .int .i64 0, .int .i64 0, .string ⟨#[]⟩, .string ⟨#[]⟩, .int .i64 0, .int .i64 0] 43)) w.heap.size p ∧ PartD.At ((w.alloc (.cells #[.int .i64 p.id, .int .i64 p.next, .slice p.procA p.procs.length p.procC, .slice p.semA p.sems.length p.semC, .slice p.eventA p.events.length p.eventC, .slice p.boardA p.boards.length p.boardC, .slice p.bufferA p.buffers.length p.bufferC, .slice p.portA p.ports.length p.portC] 32)).alloc (.cells #[.int .i64 0, .int .i64 0, .slice none 0 0, .int .i64 0, .int .i64 0, .int .i64 0, .int .i64 0, .int .i64 0, .string ⟨#[]⟩, .string ⟨#[]⟩, .int .i64 0, .int .i64 0] 43)) p ∧ Below w.heap.size w ((w.alloc (.cells #[.int .i64 p.id, .int .i64 p.next, .slice p.procA p.procs.length p.procC, .slice p.semA p.sems.length p.semC, .slice p.eventA p.events.length p.eventC, .slice p.boardA p.boards.length p.boardC, .slice p.bufferA p.buffers.length p.bufferC, .slice p.portA p.ports.length p.portC] 32)).alloc (.cells #[.int .i64 0, .int .i64 0, .slice none 0 0, .int .i64 0, .int .i64 0, .int .i64 0, .int .i64 0, .int .i64 0, .string ⟨#[]⟩, .string ⟨#[]⟩, .int .i64 0, .int .i64 0] 43)) ∧ ((w.alloc (.cells #[.int .i64 p.id, .int .i64 p.next, .slice p.procA p.procs.length p.procC, .slice p.semA p.sems.length p.semC, .slice p.eventA p.events.length p.eventC, .slice p.boardA p.boards.length p.boardC, .slice p.bufferA p.buffers.length p.bufferC, .slice p.portA p.ports.length p.portC] 32)).alloc (.cells #[.int .i64 0, .int .i64 0, .slice none 0 0, .int .i64 0, .int .i64 0, .int .i64 0, .int .i64 0, .int .i64 0, .string ⟨#[]⟩, .string ⟨#[]⟩, .int .i64 0, .int .i64 0] 43)).heap[w.heap.size + 1]? = some (.cells #[.int .i64 0, .int .i64 0, .slice none 0 0, .int .i64 0, .int .i64 0, .int .i64 0, .int .i64 0, .int .i64 0, .string ⟨#[]⟩, .string ⟨#[]⟩, .int .i64 0, .int .i64 0] 43 (0, 0))) := by
  have b1 : Below w.heap.size w ((w.alloc (.cells #[.int .i64 p.id, .int .i64 p.next, .slice p.procA p.procs.length p.procC, .slice p.semA p.sems.length p.semC, .slice p.eventA p.events.length p.eventC, .slice p.boardA p.boards.length p.boardC, .slice p.bufferA p.buffers.length p.bufferC, .slice p.portA p.ports.length p.portC] 32)).alloc (.cells #[.int .i64 0, .int .i64 0, .slice none 0 0, .int .i64 0, .int .i64 0, .int .i64 0, .int .i64 0, .int .i64 0, .string ⟨#[]⟩, .string ⟨#[]⟩, .int .i64 0, .int .i64 0] 43)) := ((Below.refl _ _).alloc (Nat.le_refl _) _).alloc (by simp) _
  exact ⟨(heap_alloc_old _ _ (by simp)).trans (heap_alloc_new _ _), h.below b1, b1, heap_alloc2_new _ _ _⟩
 have HFT : Hid (p.Fit ∧ ∀ x ∈ p.procs, x.Short) := ⟨hf, hs⟩
 have hpl := hf.short.procs
 clear h hf hs
 obtain ⟨m0, m1, m2, m3, m4, m5, m6, m7⟩ := HB.out.1.cells
 unfold PartD.cells
 go_enter Tryz.func72, Tryz.ntmps72
 go_wp2_with fail
 generalize (w.alloc (.cells #[.int .i64 p.id, .int .i64 p.next, .slice p.procA p.procs.length p.procC, .slice p.semA p.sems.length p.semC, .slice p.eventA p.events.length p.eventC, .slice p.boardA p.boards.length p.boardC, .slice p.bufferA p.buffers.length p.bufferC, .slice p.portA p.ports.length p.portC] 32)).alloc (.cells #[.int .i64 0, .int .i64 0, .slice none 0 0, .int .i64 0, .int .i64 0, .int .i64 0, .int .i64 0, .int .i64 0, .string ⟨#[]⟩, .string ⟨#[]⟩, .int .i64 0, .int .i64 0] 43) = W at *
 clear m0 m1 m2 m3 m4 m5 m6 m7
 refine (l3Proc_any p id W hpl HB.out.2.1).mono ?_
 rintro e W1 ⟨rfl, hb1⟩
 have HB1 : Hid (PartBox W1 w.heap.size p ∧ PartD.At W1 p ∧ Below w.heap.size w W1 ∧ W1.heap[w.heap.size + 1]? = some (.cells #[.int .i64 0, .int .i64 0, .slice none 0 0, .int .i64 0, .int .i64 0, .int .i64 0, .int .i64 0, .int .i64 0, .string ⟨#[]⟩, .string ⟨#[]⟩, .int .i64 0, .int .i64 0] 43 (0, 0))) := ⟨HB.out.1.below hb1, HB.out.2.1.below hb1, HB.out.2.2.1.trans (hb1.mono HB.out.2.2.1.size), (hb1.block _ (Array.getElem?_eq_some_iff.1 HB.out.2.2.2).1).trans HB.out.2.2.2⟩
 clear hb1 HB
 obtain ⟨m0, m1, m2, m3, m4, m5, m6, m7⟩ := HB1.out.1.cells
 have hpf := place_find id p.pure.procs 0
 rw [show p.pure.procs.map (·.id) = p.procs.map (·.id) by simp [PartD.pure, Function.comp_def]] at hpf
 have HPF : Hid (_) := hpf
 clear hpf
 generalize place (p.procs.map (·.id)) id 0 = z at *
 go_wp2_with fail
 clear m0 m1 m2 m3 m4 m5 m6 m7
 refine (specPartOk_any p W1 HFT.out.1 HFT.out.2 HB1.out.2.1).mono ?_
 rintro e W2 ⟨rfl, hb2⟩
 have HB2 : Hid (PartBox W2 w.heap.size p ∧ PartD.At W2 p ∧ Below w.heap.size w W2 ∧ W2.heap[w.heap.size + 1]? = some (.cells #[.int .i64 0, .int .i64 0, .slice none 0 0, .int .i64 0, .int .i64 0, .int .i64 0, .int .i64 0, .int .i64 0, .string ⟨#[]⟩, .string ⟨#[]⟩, .int .i64 0, .int .i64 0] 43 (0, 0))) := ⟨HB1.out.1.below hb2, HB1.out.2.1.below hb2, HB1.out.2.2.1.trans (hb2.mono HB1.out.2.2.1.size), (hb2.block _ (Array.getElem?_eq_some_iff.1 HB1.out.2.2.2).1).trans HB1.out.2.2.2⟩
 clear hb2 HB1
 obtain ⟨m0, m1, m2, m3, m4, m5, m6, m7⟩ := HB2.out.1.cells
 cases h4 : partB p.pure
 ·have HN : Hid (procOfP p.pure id = none) := procOf_not h4
  clear h4
  dsimp only
  repeat (first | (go_big_may; refine wpList_store_row rfl 43 (Operand.tmp 4) (Operand.tmp 17) rfl (w.heap.size + 1) _ _ #[.int .i64 0, .int .i64 0, .slice none 0 0, .int .i64 0, .int .i64 0, .int .i64 0, .int .i64 0, .int .i64 0, .string ⟨#[]⟩, .string ⟨#[]⟩, .int .i64 0, .int .i64 0] rfl rfl HB2.out.2.2.2 (by kernel_rfl) rfl (by kernel_rfl) ?_) | go_values | go_skip | go_guarded | go_step | go_upon | go_back)
  refine bodyPost_ret (v := .tuple #[.agg #[.int .i64 0, .int .i64 0, .slice none 0 0, .int .i64 0, .int .i64 0, .int .i64 0, .int .i64 0, .int .i64 0, .string ⟨#[]⟩, .string ⟨#[]⟩, .int .i64 0, .int .i64 0], .bool false]) (results_row_tmp Tryz.results72 _ _ (w.heap.size + 1) _ _ _ _ (by rfl) (setRow_heap _ _ _ _ _ _ HB2.out.2.2.2) Tryz.underlying43 rfl (by kernel_rfl)) rfl ?_
  exact procEnds_no HN.out (below_setRow HB2.out.2.2.1 (by omega) _)
 have H4 : Hid (partB p.pure = true) := h4
 clear h4
 rcases HPF.out with ⟨hz, hnf⟩ | ⟨n, y0, hz, hn, hfd⟩
 ·have HN : Hid (procOfP p.pure id = none) := by show procOfP _ _ = none; simp only [procOfP, H4.out, if_true]; exact hnf
  subst hz
  clear hnf HPF
  dsimp only
  repeat (first | (go_big_may; refine wpList_store_row rfl 43 (Operand.tmp 4) (Operand.tmp 17) rfl (w.heap.size + 1) _ _ #[.int .i64 0, .int .i64 0, .slice none 0 0, .int .i64 0, .int .i64 0, .int .i64 0, .int .i64 0, .int .i64 0, .string ⟨#[]⟩, .string ⟨#[]⟩, .int .i64 0, .int .i64 0] rfl rfl HB2.out.2.2.2 (by kernel_rfl) rfl (by kernel_rfl) ?_) | go_values | go_skip | go_guarded | go_step | go_upon | go_back)
  refine bodyPost_ret (v := .tuple #[.agg #[.int .i64 0, .int .i64 0, .slice none 0 0, .int .i64 0, .int .i64 0, .int .i64 0, .int .i64 0, .int .i64 0, .string ⟨#[]⟩, .string ⟨#[]⟩, .int .i64 0, .int .i64 0], .bool false]) (results_row_tmp Tryz.results72 _ _ (w.heap.size + 1) _ _ _ _ (by rfl) (setRow_heap _ _ _ _ _ _ HB2.out.2.2.2) Tryz.underlying43 rfl (by kernel_rfl)) rfl ?_
  exact procEnds_no HN.out (below_setRow HB2.out.2.2.1 (by omega) _)
 rw [Nat.zero_add] at hz
 subst hz
 have HN : Hid (procOfP p.pure id = some y0) := by show procOfP _ _ = _; simp only [procOfP, H4.out, if_true]; exact hfd
 have HY : Hid (p.pure.procs[n]? = some y0) := hn
 have hnl : n < p.procs.length := by have h5 := (List.getElem?_eq_some_iff.1 hn).1; simpa [PartD.pure] using h5
 have dz : decide ((n : Int) < 0) = false := decide_eq_false (by omega)
 clear hn hfd HPF
 go_wp2_with fail
 clear m0 m1 m2 m3 m4 m5 m6 m7
 refine (l3Copy_any p W2 HFT.out.1 HFT.out.2 HB2.out.2.1).mono ?_
 rintro e W3 ⟨q, rfl, hown, hpu, hb3⟩
 have hgo := HB2.out.2.2.1.size
 have hlt2 : w.heap.size + 1 < W2.heap.size := (Array.getElem?_eq_some_iff.1 HB2.out.2.2.2).1
 have HB3 : Hid (Below w.heap.size w W3 ∧ W3.heap[w.heap.size + 1]? = some (.cells #[.int .i64 0, .int .i64 0, .slice none 0 0, .int .i64 0, .int .i64 0, .int .i64 0, .int .i64 0, .int .i64 0, .string ⟨#[]⟩, .string ⟨#[]⟩, .int .i64 0, .int .i64 0] 43 (0, 0)) ∧ PartOwn W3 W2.heap.size q) := ⟨HB2.out.2.2.1.trans (hb3.mono hgo), (hb3.block _ hlt2).trans HB2.out.2.2.2, hown⟩
 have hql : q.procs.length = p.procs.length := by have h5 := congrArg (fun z => (PartP.procs z).length) hpu; simpa [PartD.pure] using h5
 obtain ⟨x, hx, hxy⟩ : ∃ x, q.procs[n]? = some x ∧ x.toProcP = y0 := by
  have h5 : (q.procs.map (·.toProcP))[n]? = some y0 := by have h6 := HY.out; rw [← hpu] at h6; exact h6
  rw [List.getElem?_map, Option.map_eq_some_iff] at h5
  exact h5
 obtain ⟨gs, ha, hat⟩ := proc_at hown.at.1 hx
 have HX : Hid (x.toProcP = y0 ∧ procN.Mine W3 W2.heap.size x) := ⟨hxy, hown.mineP x (List.mem_of_getElem? hx)⟩
 obtain ⟨d0, d1, d2, d3, d4, d5, d6, d7, d8, d9, d10, d11⟩ := hat
 have j0 : (0 : Int) ≤ (n : Int) := by omega
 have j1 : (n : Int) < (q.procs.length : Int) := by omega
 have hq8 : (PartD.cells q) = #[.int .i64 q.id, .int .i64 q.next, .slice q.procA q.procs.length q.procC, .slice q.semA q.sems.length q.semC, .slice q.eventA q.events.length q.eventC, .slice q.boardA q.boards.length q.boardC, .slice q.bufferA q.buffers.length q.bufferC, .slice q.portA q.ports.length q.portC] := rfl
 rw [hq8, ha]
 have hfd : ∀ W : World, Sem.run Tryz.prog (Instr.field 32 (.agg #[.int .i64 q.id, .int .i64 q.next, .slice (some ⟨gs, 0, none⟩) q.procs.length q.procC, .slice q.semA q.sems.length q.semC, .slice q.eventA q.events.length q.eventC, .slice q.boardA q.boards.length q.boardC, .slice q.bufferA q.buffers.length q.bufferC, .slice q.portA q.ports.length q.portC]) 2) W = .ok (.slice (some ⟨gs, 0, none⟩) q.procs.length q.procC) W := fun W => by kernel_rfl
 clear hq8 hown hpu hb3 hx hxy ha HB2 HY hql
 go_wp2_with (refine wpList_store_row rfl 43 (Operand.tmp 4) (Operand.tmp 23) rfl (w.heap.size + 1) _ _ #[.int .i64 x.id, .int .i64 x.prio, .slice x.progA x.prog.length x.progC, .int .i64 x.state, .int .i64 x.pc, .int .i64 x.left, .int .i64 x.wake, .int .i64 x.on, .string x.held, .string x.got, .int .i64 x.code, .int .i64 x.since] rfl rfl HB3.out.2.1 (by kernel_rfl) rfl (by kernel_rfl) ?_)
 refine bodyPost_ret (v := .tuple #[.agg #[.int .i64 x.id, .int .i64 x.prio, .slice x.progA x.prog.length x.progC, .int .i64 x.state, .int .i64 x.pc, .int .i64 x.left, .int .i64 x.wake, .int .i64 x.on, .string x.held, .string x.got, .int .i64 x.code, .int .i64 x.since], .bool true]) (results_row_tmp Tryz.results72 _ _ (w.heap.size + 1) _ _ _ _ (by rfl) (setRow_heap _ _ _ _ _ _ HB3.out.2.1) Tryz.underlying43 rfl (by kernel_rfl)) rfl ?_
 rw [HN.out]
 exact ⟨x, rfl, (HX.out.2.low (by omega)).same fun g hk => setRow_other _ _ _ _ (by have := (HX.out.2.lt hk).1; omega), HX.out.1, below_setRow HB3.out.1 (by omega) _⟩

theorem look_find (id : Int) (lp : List (ProcD × Nat)) : lookM (keysOf (fun x : ProcD => x.id) lp) id = (lp.find? (fun p => decide (p.1.id = id))).map (·.2) := by
 unfold lookM keysOf
 rw [List.find?_map, Option.map_map]
 have e : ((fun p : Int × Nat => p.1 == id) ∘ fun p : ProcD × Nat => (p.1.id, p.2)) = fun p => decide (p.1.id = id) := by
  funext p
  show (p.1.id == id) = _
  rw [Bool.beq_eq_decide_eq]
 rw [e]
 rfl
theorem find_pure (id : Int) (lp : List (ProcD × Nat)) : (lp.map fun p => p.1.toProcP).find? (fun x => decide (x.id = id)) = (lp.find? (fun p => decide (p.1.id = id))).map (fun p => p.1.toProcP) := by
 rw [List.find?_map]
 rfl

set_option maxRecDepth 100000 in
set_option maxHeartbeats 4000000 in
theorem implProcOf_any (p : PartD) (id : Int) (w : World) (hid : (Lit.int .i64 id).wf = true) (hg : p.Good w) :
  Calls Tryz.prog 30 #[.agg p.cells, .int .i64 id] w fun e w' => ProcEnds w (procOfP p.pure id) e w' := by
 have HB : Hid (p.Good ((w.alloc (.cells #[.int .i64 p.id, .int .i64 p.next, .slice p.procA p.procs.length p.procC, .slice p.semA p.sems.length p.semC, .slice p.eventA p.events.length p.eventC, .slice p.boardA p.boards.length p.boardC, .slice p.bufferA p.buffers.length p.bufferC, .slice p.portA p.ports.length p.portC] 32)).alloc (.cells #[.int .i64 0, .int .i64 0, .slice none 0 0, .int .i64 0, .int .i64 0, .int .i64 0, .int .i64 0, .int .i64 0, .string ⟨#[]⟩, .string ⟨#[]⟩, .int .i64 0, .int .i64 0] 43)) ∧ Below w.heap.size w ((w.alloc (.cells #[.int .i64 p.id, .int .i64 p.next, .slice p.procA p.procs.length p.procC, .slice p.semA p.sems.length p.semC, .slice p.eventA p.events.length p.eventC, .slice p.boardA p.boards.length p.boardC, .slice p.bufferA p.buffers.length p.bufferC, .slice p.portA p.ports.length p.portC] 32)).alloc (.cells #[.int .i64 0, .int .i64 0, .slice none 0 0, .int .i64 0, .int .i64 0, .int .i64 0, .int .i64 0, .int .i64 0, .string ⟨#[]⟩, .string ⟨#[]⟩, .int .i64 0, .int .i64 0] 43)) ∧ ((w.alloc (.cells #[.int .i64 p.id, .int .i64 p.next, .slice p.procA p.procs.length p.procC, .slice p.semA p.sems.length p.semC, .slice p.eventA p.events.length p.eventC, .slice p.boardA p.boards.length p.boardC, .slice p.bufferA p.buffers.length p.bufferC, .slice p.portA p.ports.length p.portC] 32)).alloc (.cells #[.int .i64 0, .int .i64 0, .slice none 0 0, .int .i64 0, .int .i64 0, .int .i64 0, .int .i64 0, .int .i64 0, .string ⟨#[]⟩, .string ⟨#[]⟩, .int .i64 0, .int .i64 0] 43)).heap[w.heap.size + 1]? = some (.cells #[.int .i64 0, .int .i64 0, .slice none 0 0, .int .i64 0, .int .i64 0, .int .i64 0, .int .i64 0, .int .i64 0, .string ⟨#[]⟩, .string ⟨#[]⟩, .int .i64 0, .int .i64 0] 43 (0, 0)) ∧ PartBox ((w.alloc (.cells #[.int .i64 p.id, .int .i64 p.next, .slice p.procA p.procs.length p.procC, .slice p.semA p.sems.length p.semC, .slice p.eventA p.events.length p.eventC, .slice p.boardA p.boards.length p.boardC, .slice p.bufferA p.buffers.length p.bufferC, .slice p.portA p.ports.length p.portC] 32)).alloc (.cells #[.int .i64 0, .int .i64 0, .slice none 0 0, .int .i64 0, .int .i64 0, .int .i64 0, .int .i64 0, .int .i64 0, .string ⟨#[]⟩, .string ⟨#[]⟩, .int .i64 0, .int .i64 0] 43)) w.heap.size p ∧ (Lit.int .i64 id).wf = true) := by
  have b1 : Below w.heap.size w ((w.alloc (.cells #[.int .i64 p.id, .int .i64 p.next, .slice p.procA p.procs.length p.procC, .slice p.semA p.sems.length p.semC, .slice p.eventA p.events.length p.eventC, .slice p.boardA p.boards.length p.boardC, .slice p.bufferA p.buffers.length p.bufferC, .slice p.portA p.ports.length p.portC] 32)).alloc (.cells #[.int .i64 0, .int .i64 0, .slice none 0 0, .int .i64 0, .int .i64 0, .int .i64 0, .int .i64 0, .int .i64 0, .string ⟨#[]⟩, .string ⟨#[]⟩, .int .i64 0, .int .i64 0] 43)) := ((Below.refl _ _).alloc (Nat.le_refl _) _).alloc (by simp) _
  exact ⟨hg.below b1, b1, heap_alloc2_new _ _ _, (heap_alloc_old _ _ (by simp)).trans (heap_alloc_new _ _), hid⟩
 clear hg hid
 obtain ⟨m0, m1, m2, m3, m4, m5, m6, m7⟩ := HB.out.2.2.2.1.cells
 unfold PartD.cells
 go_enter Tryz.func30, Tryz.ntmps30
 go_wp2_with fail
 generalize (w.alloc (.cells #[.int .i64 p.id, .int .i64 p.next, .slice p.procA p.procs.length p.procC, .slice p.semA p.sems.length p.semC, .slice p.eventA p.events.length p.eventC, .slice p.boardA p.boards.length p.boardC, .slice p.bufferA p.buffers.length p.bufferC, .slice p.portA p.ports.length p.portC] 32)).alloc (.cells #[.int .i64 0, .int .i64 0, .slice none 0 0, .int .i64 0, .int .i64 0, .int .i64 0, .int .i64 0, .int .i64 0, .string ⟨#[]⟩, .string ⟨#[]⟩, .int .i64 0, .int .i64 0] 43) = W at *
 clear m0 m1 m2 m3 m4 m5 m6 m7
 refine (opened_any p W HB.out.1).mono ?_
 rintro e w1 ⟨hb1, ⟨hno, rfl⟩ | ⟨hyes, o, S, rfl, hat, hpu⟩⟩
 ·have HZ : Hid (Below w.heap.size w w1 ∧ w1.heap[w.heap.size + 1]? = some (.cells #[.int .i64 0, .int .i64 0, .slice none 0 0, .int .i64 0, .int .i64 0, .int .i64 0, .int .i64 0, .int .i64 0, .string ⟨#[]⟩, .string ⟨#[]⟩, .int .i64 0, .int .i64 0] 43 (0, 0)) ∧ True) := ⟨HB.out.2.1.trans (hb1.mono HB.out.2.1.size), (hb1.block _ (Array.getElem?_eq_some_iff.1 HB.out.2.2.1).1).trans HB.out.2.2.1, trivial⟩
  have HN : Hid (procOfP p.pure id = none) := procOf_not (partB_false hno)
  clear hb1 hno
  dsimp only
  repeat (first | (go_big_may; refine wpList_store_row rfl 43 (Operand.tmp 4) (Operand.tmp 16) rfl (w.heap.size + 1) _ _ #[.int .i64 0, .int .i64 0, .slice none 0 0, .int .i64 0, .int .i64 0, .int .i64 0, .int .i64 0, .int .i64 0, .string ⟨#[]⟩, .string ⟨#[]⟩, .int .i64 0, .int .i64 0] rfl rfl HZ.out.2.1 (by kernel_rfl) rfl (by kernel_rfl) ?_) | go_values | go_skip | go_guarded | go_step | go_upon | go_back)
  refine bodyPost_ret (v := .tuple #[.agg #[.int .i64 0, .int .i64 0, .slice none 0 0, .int .i64 0, .int .i64 0, .int .i64 0, .int .i64 0, .int .i64 0, .string ⟨#[]⟩, .string ⟨#[]⟩, .int .i64 0, .int .i64 0], .bool false]) (results_row_tmp Tryz.results30 _ _ (w.heap.size + 1) _ _ _ _ (by rfl) (setRow_heap _ _ _ _ _ _ HZ.out.2.1) Tryz.underlying43 rfl (by kernel_rfl)) rfl ?_
  exact procEnds_no HN.out (below_setRow HZ.out.1 (by omega) _)
 have HZ : Hid (Below w.heap.size w w1 ∧ w1.heap[w.heap.size + 1]? = some (.cells #[.int .i64 0, .int .i64 0, .slice none 0 0, .int .i64 0, .int .i64 0, .int .i64 0, .int .i64 0, .int .i64 0, .string ⟨#[]⟩, .string ⟨#[]⟩, .int .i64 0, .int .i64 0] 43 (0, 0)) ∧ PartR S.pure ∧ OpenAt w1 W.heap.size o S ∧ S.pure = p.pure ∧ w.heap.size + 1 < W.heap.size) := ⟨HB.out.2.1.trans (hb1.mono HB.out.2.1.size), (hb1.block _ (Array.getElem?_eq_some_iff.1 HB.out.2.2.1).1).trans HB.out.2.2.1, by rw [hpu]; exact hyes, hat, hpu, (Array.getElem?_eq_some_iff.1 HB.out.2.2.1).1⟩
 have c3 : w1.cell? ⟨o, 3, none⟩ = some (.map (some S.q.bp)) := hat.opn.cell 3
 have hlk := hat.procs.map.look Tryz.underlying108 (zeroPtrProc w1) HB.out.2.2.2.2 true
 have hpo : procOfP p.pure id = (S.lp.find? (fun p => decide (p.1.id = id))).map (fun p => p.1.toProcP) := by
  rw [← hpu]
  simp only [procOfP, partB_true HZ.out.2.2.1, if_true]
  exact find_pure id S.lp
 rw [look_find] at hlk
 simp only [if_true] at hlk
 clear hb1 hyes hat hpu
 cases hfd : S.lp.find? (fun p => decide (p.1.id = id)) with
 | none =>
  rw [hfd] at hlk hpo
  simp only [Option.map_none, ptrO, Option.isSome_none] at hlk
  have HN : Hid (procOfP p.pure id = none) := hpo
  clear hfd hpo
  go_wp2_with (refine wpList_store_row rfl 43 (Operand.tmp 4) (Operand.tmp 29) rfl (w.heap.size + 1) _ _ #[.int .i64 0, .int .i64 0, .slice none 0 0, .int .i64 0, .int .i64 0, .int .i64 0, .int .i64 0, .int .i64 0, .string ⟨#[]⟩, .string ⟨#[]⟩, .int .i64 0, .int .i64 0] rfl rfl HZ.out.2.1 (by kernel_rfl) rfl (by kernel_rfl) ?_)
  refine bodyPost_ret (v := .tuple #[.agg #[.int .i64 0, .int .i64 0, .slice none 0 0, .int .i64 0, .int .i64 0, .int .i64 0, .int .i64 0, .int .i64 0, .string ⟨#[]⟩, .string ⟨#[]⟩, .int .i64 0, .int .i64 0], .bool false]) (results_row_tmp Tryz.results30 _ _ (w.heap.size + 1) _ _ _ _ (by rfl) (setRow_heap _ _ _ _ _ _ HZ.out.2.1) Tryz.underlying43 rfl (by kernel_rfl)) rfl ?_
  exact procEnds_no HN.out (below_setRow HZ.out.1 (by omega) _)
 | some r =>
  obtain ⟨x, g⟩ := r
  rw [hfd] at hlk hpo
  simp only [Option.map_some, ptrO, ptrV, Option.isSome_some] at hlk
  have hm : (x, g) ∈ S.lp := List.mem_of_find?_eq_some hfd
  have HN : Hid (procOfP p.pure id = some x.toProcP ∧ procN.Mine w1 W.heap.size x) := ⟨hpo, HZ.out.2.2.2.1.mineP (x, g) hm⟩
  obtain ⟨d0, d1, d2, d3, d4, d5, d6, d7, d8, d9, d10, d11⟩ := proc_cells (HZ.out.2.2.2.1.procs.box (x, g) hm)
  clear hfd hpo hm
  go_wp2_with (refine wpList_store_row rfl 43 (Operand.tmp 4) (Operand.tmp 32) rfl (w.heap.size + 1) _ _ #[.int .i64 x.id, .int .i64 x.prio, .slice x.progA x.prog.length x.progC, .int .i64 x.state, .int .i64 x.pc, .int .i64 x.left, .int .i64 x.wake, .int .i64 x.on, .string x.held, .string x.got, .int .i64 x.code, .int .i64 x.since] rfl rfl HZ.out.2.1 (by kernel_rfl) rfl (by kernel_rfl) ?_)
  refine bodyPost_ret (v := .tuple #[.agg #[.int .i64 x.id, .int .i64 x.prio, .slice x.progA x.prog.length x.progC, .int .i64 x.state, .int .i64 x.pc, .int .i64 x.left, .int .i64 x.wake, .int .i64 x.on, .string x.held, .string x.got, .int .i64 x.code, .int .i64 x.since], .bool true]) (results_row_tmp Tryz.results30 _ _ (w.heap.size + 1) _ _ _ _ (by rfl) (setRow_heap _ _ _ _ _ _ HZ.out.2.1) Tryz.underlying43 rfl (by kernel_rfl)) rfl ?_
  rw [HN.out.1]
  have hWs := HZ.out.2.2.2.2.2
  exact ⟨x, rfl, (HN.out.2.low (by omega)).same fun g hk => setRow_other _ _ _ _ (by have := (HN.out.2.lt hk).1; omega), rfl, below_setRow HZ.out.1 (by omega) _⟩

end Go.Proofs.YtkbcplnlehdjfaaGreat

/- The exact law of ProcOf, called at any partition: true, and nothing that was there is changed. (Made by mkexactlaw.py.) -/
namespace Go.Proofs.YtkbcplnlehdjfaaGreat
open Go.RowKit
attribute [local go_sem ↓] Go.wp_at_zero Go.wp_at_succ

set_option maxRecDepth 100000 in
set_option maxHeartbeats 8000000 in
theorem procOfLaw_any (p : PartD) (id : Int) (w : World) (hb : p.Big) (hc : p.Came w) (hi : p.Ints) (hwid : (Lit.int .i64 id).wf = true) :
  Calls Tryz.prog 15 #[.agg p.cells, .int .i64 id] w fun e w' => e = .returned (.bool true) ∧ Below w.heap.size w w' := by
 have HB : Hid (p.Big ∧ p.Ints) := ⟨hb, hi⟩
 have HC : Hid (p.Came w) := hc
 have HWid : Hid ((Lit.int .i64 id).wf = true) := hwid
 have HX : Hid (SrcS p w (w.alloc (.cells #[.int .i64 p.id, .int .i64 p.next, .slice p.procA p.procs.length p.procC, .slice p.semA p.sems.length p.semC, .slice p.eventA p.events.length p.eventC, .slice p.boardA p.boards.length p.boardC, .slice p.bufferA p.buffers.length p.bufferC, .slice p.portA p.ports.length p.portC] 73))) := ⟨heap_alloc_new _ _, (Below.refl _ _).alloc (Nat.le_refl _) _⟩
 clear hb hc hi hwid
 unfold PartD.cells
 go_enter Tryz.func15, Tryz.ntmps15
 go_wp2_with fail
 generalize w.alloc (.cells #[.int .i64 p.id, .int .i64 p.next, .slice p.procA p.procs.length p.procC, .slice p.semA p.sems.length p.semC, .slice p.eventA p.events.length p.eventC, .slice p.boardA p.boards.length p.boardC, .slice p.bufferA p.buffers.length p.bufferC, .slice p.portA p.ports.length p.portC] 73) = W0 at *
 refine (szPart_l p 1048576 W0 HB.out.1 (HC.out.below HX.out.2) (by omega) (by omega)).mono ?_
 rintro e W1 ⟨r, rfl, r0, r1, hr, hb⟩
 replace HX : Hid (SrcS p w W1) := HX.out.below hb
 clear hb
 by_cases hneg : r < 0
 ·go_wp2
  go_ret
  exact ⟨rfl, HX.out.2⟩
 have HSM : Hid (p.Shorts ∧ p.pure.Small ∧ p.pure.total ≤ 1048576) := ⟨(hr (by omega)).1, small_of (hr (by omega)).1 HB.out.2, by have := (hr (by omega)).2; omega⟩
 clear hr
 obtain ⟨m0, m1, m2, m3, m4, m5, m6, m7⟩ := srcCells HX.out.1
 go_wp2_with fail
 clear m0 m1 m2 m3 m4 m5 m6 m7
 refine (toPart_l p W1 HSM.out.1 (HC.out.below HX.out.2)).mono ?_
 rintro e W2 ⟨p2, rfl, ho, hp, hb⟩
 have HQ : Hid (PartOwn W2 W1.heap.size p2 ∧ p2.pure = p.pure ∧ p2.pure.Small) := ⟨ho, hp, by rw [hp]; exact HSM.out.2.1⟩
 replace HX : Hid (SrcS p w W2) := HX.out.below hb
 clear ho hp hb
 go_wp2_with fail
 obtain ⟨ok, hok⟩ : ∃ b : Bool, (procOfP p.pure id).isSome = b := ⟨_, rfl⟩
 have HOK : Hid ((procOfP p.pure id).isSome = ok) := hok
 clear hok
 have dn : (ok != ok) = false := by simp
 refine (specProcOf_any p2 id W2 (small_fit HQ.out.2.2) (fun x hx => (small_proc HQ.out.2.2 hx).1) HQ.out.1.at).mono ?_
 rintro e V3 hE
 rw [HQ.out.2.1] at hE
 obtain ⟨r3, rfl, ho, hp, hb⟩ := hE
 rw [HOK.out]
 have hb2 : Below W2.heap.size W2 (V3.alloc (.cells #[.int .i64 r3.id, .int .i64 r3.prio, .slice r3.progA r3.prog.length r3.progC, .int .i64 r3.state, .int .i64 r3.pc, .int .i64 r3.left, .int .i64 r3.wake, .int .i64 r3.on, .string r3.held, .string r3.got, .int .i64 r3.code, .int .i64 r3.since] 43)) := hb.alloc hb.size _
 have H3 : Hid (ProcIs (V3.alloc (.cells #[.int .i64 r3.id, .int .i64 r3.prio, .slice r3.progA r3.prog.length r3.progC, .int .i64 r3.state, .int .i64 r3.pc, .int .i64 r3.left, .int .i64 r3.wake, .int .i64 r3.on, .string r3.held, .string r3.got, .int .i64 r3.code, .int .i64 r3.since] 43)) V3.heap.size W2.heap.size r3) := ⟨heap_alloc_new _ _, mine_below ho ((Below.refl _ _).alloc (Nat.le_refl _) _)⟩
 have HP3 : Hid (r3.toProcP = (procOfP p.pure id).getD zeroP) := hp
 have HR : Hid ((∀ g ∈ blk r3.progA, w.heap.size < g ∧ g < V3.heap.size) ∧ w.heap.size < V3.heap.size) := by
  have h5 := (Array.getElem?_eq_some_iff.1 HX.out.1).1
  have h6 := hb.size
  exact ⟨fun g hg => by have := (ho.lt (mem_blk.1 hg)); omega, by omega⟩
 clear ho hp HQ
 replace HX : Hid (SrcS p w (V3.alloc (.cells #[.int .i64 r3.id, .int .i64 r3.prio, .slice r3.progA r3.prog.length r3.progC, .int .i64 r3.state, .int .i64 r3.pc, .int .i64 r3.left, .int .i64 r3.wake, .int .i64 r3.on, .string r3.held, .string r3.got, .int .i64 r3.code, .int .i64 r3.since] 43))) := HX.out.below hb2
 obtain ⟨m0, m1, m2, m3, m4, m5, m6, m7⟩ := srcCells HX.out.1
 unfold procVs
 go_wp2_with fail
 clear m0 m1 m2 m3 m4 m5 m6 m7
 generalize V3.alloc (.cells #[.int .i64 r3.id, .int .i64 r3.prio, .slice r3.progA r3.prog.length r3.progC, .int .i64 r3.state, .int .i64 r3.pc, .int .i64 r3.left, .int .i64 r3.wake, .int .i64 r3.on, .string r3.held, .string r3.got, .int .i64 r3.code, .int .i64 r3.since] 43) = W3 at *
 have hxl := H3.out.1.lt
 generalize V3.heap.size = X3 at *
 clear hb2 hb
 refine (toPart_l p W3 HSM.out.1 (HC.out.below HX.out.2)).mono ?_
 rintro e V4 ⟨p4, rfl, ho, hp, hb⟩
 have hb2 : Below W3.heap.size W3 (V4.alloc (.cells #[.int .i64 p4.id, .int .i64 p4.next, .slice p4.procA p4.procs.length p4.procC, .slice p4.semA p4.sems.length p4.semC, .slice p4.eventA p4.events.length p4.eventC, .slice p4.boardA p4.boards.length p4.boardC, .slice p4.bufferA p4.buffers.length p4.bufferC, .slice p4.portA p4.ports.length p4.portC] 32)) := hb.alloc hb.size _
 have H4 : Hid (PartIn (V4.alloc (.cells #[.int .i64 p4.id, .int .i64 p4.next, .slice p4.procA p4.procs.length p4.procC, .slice p4.semA p4.sems.length p4.semC, .slice p4.eventA p4.events.length p4.eventC, .slice p4.boardA p4.boards.length p4.boardC, .slice p4.bufferA p4.buffers.length p4.bufferC, .slice p4.portA p4.ports.length p4.portC] 32)) V4.heap.size W3.heap.size p4) := ⟨heap_alloc_new _ _, ho.below ((Below.refl _ _).alloc (Nat.le_refl _) _)⟩
 have HP4 : Hid (p4.pure = p.pure ∧ p4.pure.Small ∧ (∀ g ∈ p4.blocks, X3 < g ∧ g < V4.heap.size) ∧ X3 < V4.heap.size) := ⟨hp, by rw [hp]; exact HSM.out.2.1, fun g hg => by have := ho.lt g hg; omega, by have := hb.size; omega⟩
 unfold PartD.cells
 go_wp2_with fail
 generalize V4.alloc (.cells #[.int .i64 p4.id, .int .i64 p4.next, .slice p4.procA p4.procs.length p4.procC, .slice p4.semA p4.sems.length p4.semC, .slice p4.eventA p4.events.length p4.eventC, .slice p4.boardA p4.boards.length p4.boardC, .slice p4.bufferA p4.buffers.length p4.bufferC, .slice p4.portA p4.ports.length p4.portC] 32) = W4 at *
 have hxl4 := H4.out.1.lt
 generalize V4.heap.size = X4 at *
 replace HX : Hid (SrcS p w W4) := HX.out.below hb2
 replace H3 : Hid (ProcIs W4 X3 W2.heap.size r3) := H3.out.below hb2
 clear hb2 hb ho hp hxl
 refine (implProcOf_any p4 id W4 HWid.out (small_good HP4.out.2.1 H4.out.2)).mono ?_
 rintro e V5 hE
 rw [HP4.out.1] at hE
 obtain ⟨r5, rfl, ho, hp, hb⟩ := hE
 rw [HOK.out]
 have hb2 : Below W4.heap.size W4 (V5.alloc (.cells #[.int .i64 r5.id, .int .i64 r5.prio, .slice r5.progA r5.prog.length r5.progC, .int .i64 r5.state, .int .i64 r5.pc, .int .i64 r5.left, .int .i64 r5.wake, .int .i64 r5.on, .string r5.held, .string r5.got, .int .i64 r5.code, .int .i64 r5.since] 43)) := hb.alloc hb.size _
 have H5 : Hid (ProcIs (V5.alloc (.cells #[.int .i64 r5.id, .int .i64 r5.prio, .slice r5.progA r5.prog.length r5.progC, .int .i64 r5.state, .int .i64 r5.pc, .int .i64 r5.left, .int .i64 r5.wake, .int .i64 r5.on, .string r5.held, .string r5.got, .int .i64 r5.code, .int .i64 r5.since] 43)) V5.heap.size W4.heap.size r5) := ⟨heap_alloc_new _ _, mine_below ho ((Below.refl _ _).alloc (Nat.le_refl _) _)⟩
 have HP5 : Hid (r5.toProcP = (procOfP p.pure id).getD zeroP ∧ (∀ g ∈ blk r5.progA, X4 < g ∧ g < V5.heap.size) ∧ X4 < V5.heap.size) := ⟨hp, fun g hg => by have := (ho.lt (mem_blk.1 hg)); omega, by have := hb.size; omega⟩
 clear ho hp
 replace HX : Hid (SrcS p w (V5.alloc (.cells #[.int .i64 r5.id, .int .i64 r5.prio, .slice r5.progA r5.prog.length r5.progC, .int .i64 r5.state, .int .i64 r5.pc, .int .i64 r5.left, .int .i64 r5.wake, .int .i64 r5.on, .string r5.held, .string r5.got, .int .i64 r5.code, .int .i64 r5.since] 43))) := HX.out.below hb2
 replace H3 : Hid (ProcIs (V5.alloc (.cells #[.int .i64 r5.id, .int .i64 r5.prio, .slice r5.progA r5.prog.length r5.progC, .int .i64 r5.state, .int .i64 r5.pc, .int .i64 r5.left, .int .i64 r5.wake, .int .i64 r5.on, .string r5.held, .string r5.got, .int .i64 r5.code, .int .i64 r5.since] 43)) X3 W2.heap.size r3) := H3.out.below hb2
 replace H4 : Hid (PartIn (V5.alloc (.cells #[.int .i64 r5.id, .int .i64 r5.prio, .slice r5.progA r5.prog.length r5.progC, .int .i64 r5.state, .int .i64 r5.pc, .int .i64 r5.left, .int .i64 r5.wake, .int .i64 r5.on, .string r5.held, .string r5.got, .int .i64 r5.code, .int .i64 r5.since] 43)) X4 W3.heap.size p4) := H4.out.below hb2
 obtain ⟨v0, v1, v2, v3, v4, v5, v6, v7, v8, v9, v10, v11⟩ := H3.out.1.cells
 unfold procVs
 go_wp2_with fail
 clear v0 v1 v2 v3 v4 v5 v6 v7 v8 v9 v10 v11
 generalize V5.alloc (.cells #[.int .i64 r5.id, .int .i64 r5.prio, .slice r5.progA r5.prog.length r5.progC, .int .i64 r5.state, .int .i64 r5.pc, .int .i64 r5.left, .int .i64 r5.wake, .int .i64 r5.on, .string r5.held, .string r5.got, .int .i64 r5.code, .int .i64 r5.since] 43) = W5 at *
 generalize V5.heap.size = X5 at *
 clear hb2 hb hxl4
 have HE : Hid (r3.toProcP = r5.toProcP) := HP3.out.trans HP5.out.1.symm
 have HL : Hid (r5.prog.length ≤ 1048576) := by have h5 := procOf_len id HSM.out.2.1; rw [← HP5.out.1] at h5; exact h5
 refine (eqProc_l r5 r3 W5 HE.out HL.out H5.out.2.row H3.out.2.row).mono ?_
 rintro e W6 ⟨rfl, hb⟩
 replace HX : Hid (SrcS p w W6) := HX.out.below hb
 replace H3 : Hid (ProcIs W6 X3 W2.heap.size r3) := H3.out.below hb
 replace H4 : Hid (PartIn W6 X4 W3.heap.size p4) := H4.out.below hb
 replace H5 : Hid (ProcIs W6 X5 W4.heap.size r5) := H5.out.below hb
 clear hb
 go_wp2_with fail
 have HS : Hid (PartBox W6 X4 p4 ∧ W6.heap[w.heap.size]? = some (.cells p.cells 73 (0, 0))) := ⟨H4.out.1, HX.out.1⟩
 refine wp_region_held_drew (S := fun w' => PartBox w' X4 p4 ∧ w'.heap[w.heap.size]? = some (.cells p.cells 73 (0, 0))) (by kernel_rfl) HS.out (fun hHeld => ?_)
 refine wpAnyH_take (i := 0) (v := .agg #[.int .i64 p4.id, .int .i64 p4.next, .slice p4.procA p4.procs.length p4.procC, .slice p4.semA p4.sems.length p4.semC, .slice p4.eventA p4.events.length p4.eventC, .slice p4.boardA p4.boards.length p4.boardC, .slice p4.bufferA p4.buffers.length p4.bufferC, .slice p4.portA p4.ports.length p4.portC]) rfl (by kernel_rfl) (by kernel_rfl) (by kernel_rfl) (fun _ _ _ h => h) (yieldsIf_row (by rfl) 32 _ rfl X4 (by rfl) 32 _ _ (fun _ h => h.1) Tryz.underlying32 rfl (by kernel_rfl)) hHeld ?_
 simp only [List.getElem_toArray, List.getElem_cons_zero, Act.put, List.setIfInBounds_toArray, List.set_cons_zero, List.set_cons_succ]
 refine wpAnyH_take (i := 1) (v := .agg #[.int .i64 p.id, .int .i64 p.next, .slice p.procA p.procs.length p.procC, .slice p.semA p.sems.length p.semC, .slice p.eventA p.events.length p.eventC, .slice p.boardA p.boards.length p.boardC, .slice p.bufferA p.buffers.length p.bufferC, .slice p.portA p.ports.length p.portC]) rfl (by kernel_rfl) (by kernel_rfl) (by kernel_rfl) (fun _ _ _ h => h) (yieldsIf_row (by rfl) 73 _ rfl w.heap.size (by rfl) 73 _ _ (fun _ h => h.2) Tryz.underlying73 rfl (by kernel_rfl)) hHeld ?_
 simp only [List.getElem_toArray, List.getElem_cons_zero, List.getElem_cons_succ, Act.put, List.setIfInBounds_toArray, List.set_cons_zero, List.set_cons_succ]
 refine wpAnyH_ready (rs := [2]) (by kernel_rfl) (by simp) ?_
 refine AllReadyH.cons rfl (fun K hK => ?_) AllReadyH.nil
 simp only [List.getElem_toArray, List.getElem_cons_zero, List.getElem_cons_succ]
 rw [if_pos (by rfl)]
 go_wp2_with fail
 refine (toPart_l p W6.drew HSM.out.1 (HC.out.below HX.out.2.drew)).mono ?_
 rintro e W7 ⟨p6, rfl, ho, hp, hb2⟩
 have hb : Below W6.heap.size W6 W7 := below_undrew' hb2
 have H7 : Hid (PartD.At W7 p6 ∧ p6.pure = p4.pure) := ⟨ho.at, by rw [hp, HP4.out.1]⟩
 replace HX : Hid (SrcS p w W7) := HX.out.below hb
 replace H3 : Hid (ProcIs W7 X3 W2.heap.size r3) := H3.out.below hb
 replace H4 : Hid (PartIn W7 X4 W3.heap.size p4) := H4.out.below hb
 replace H5 : Hid (ProcIs W7 X5 W4.heap.size r5) := H5.out.below hb
 clear hb hb2 ho hp HS hHeld
 refine hK.out _ _ ⟨H4.out.1, HX.out.1⟩ (fun hHeld => ?_)
 clear hK K
 try simp only [List.getElem_toArray, List.getElem_cons_zero, List.getElem_cons_succ, Act.put, List.setIfInBounds_toArray, List.set_cons_zero, List.set_cons_succ]
 refine wpAnyH_ready (rs := [3]) (by kernel_rfl) (by simp) ?_
 refine AllReadyH.cons rfl (fun K hK => ?_) AllReadyH.nil
 simp only [List.getElem_toArray, List.getElem_cons_zero, List.getElem_cons_succ]
 rw [if_pos (by rfl)]
 go_wp2_with fail
 refine (eqPart_l p4 p6 W7 HP4.out.2.1 H7.out.2 H4.out.2.at H7.out.1).mono ?_
 rintro e W8 ⟨rfl, hb⟩
 replace HX : Hid (SrcS p w W8) := HX.out.below hb
 replace H3 : Hid (ProcIs W8 X3 W2.heap.size r3) := H3.out.below hb
 replace H4 : Hid (PartIn W8 X4 W3.heap.size p4) := H4.out.below hb
 replace H5 : Hid (ProcIs W8 X5 W4.heap.size r5) := H5.out.below hb
 clear hb H7
 refine hK.out _ _ ⟨H4.out.1, HX.out.1⟩ (fun hHeld => ?_)
 clear hK K
 try simp only [List.getElem_toArray, List.getElem_cons_zero, List.getElem_cons_succ, Act.put, List.setIfInBounds_toArray, List.set_cons_zero, List.set_cons_succ]
 refine wpAnyH_take (i := 4) (v := .bool false) rfl (by kernel_rfl) (by kernel_rfl) (by kernel_rfl) (fun _ _ _ h => h) (Or.inl ⟨by rfl, fun _ _ => rfl⟩) ⟨H4.out.1, HX.out.1⟩ ?_
 simp only [List.getElem_toArray, List.getElem_cons_zero, List.getElem_cons_succ, Act.put, List.setIfInBounds_toArray, List.set_cons_zero, List.set_cons_succ]
 refine wpAnyH_done (by kernel_rfl) ?_ _
 clear hHeld
 obtain ⟨b0, b1, b2, b3, b4, b5, b6, b7⟩ := H4.out.1.cells
 have HCT : Hid (1 + (cntPart p4 : Nat) ≤ (90000000 : Int)) := by have h5 := cnt_part p4; rw [HP4.out.1] at h5; have h6 := HSM.out.2.2; show (1 : Int) + _ ≤ _; omega
 go_wp2_with fail
 clear b0 b1 b2 b3 b4 b5 b6 b7
 refine (markPart_l p4 1 W8 W3.heap.size (small_cnt HP4.out.2.1) (by omega) HCT.out H4.out.2).mono ?_
 rintro e W9 ⟨rfl, -, hkb⟩
 have hrw := HR.out
 have hr4 := HP4.out.2.2
 have hr5 := HP5.out.2
 replace HX : Hid (SrcS p w W9) := HX.out.kept hkb fun g hg => by have := hr4.1 g hg; omega
 replace H3 : Hid (ProcIs W9 X3 W2.heap.size r3) := H3.out.kept hkb (fun hm => by have := hr4.1 _ hm; omega) (fun g hg hm => by have := hr4.1 g hm; have := hrw.1 g hg; omega)
 replace H5 : Hid (ProcIs W9 X5 W4.heap.size r5) := H5.out.kept hkb (fun hm => by have := hr4.1 _ hm; omega) (fun g hg hm => by have := hr4.1 g hm; have := hr5.1 g hg; omega)
 clear H4 hkb hrw hr4 hr5
 have nn : decide ((1 : Int) + (cntPart p4 : Nat) < 0) = false := decide_eq_false (by omega)
 obtain ⟨u0, u1, u2, u3, u4, u5, u6, u7, u8, u9, u10, u11⟩ := H5.out.1.cells
 obtain ⟨v0, v1, v2, v3, v4, v5, v6, v7, v8, v9, v10, v11⟩ := H3.out.1.cells
 go_wp2_with fail
 clear u0 u1 u2 u3 u4 u5 u6 u7 u8 u9 u10 u11
 clear v0 v1 v2 v3 v4 v5 v6 v7 v8 v9 v10 v11
 clear nn
 refine (eqProc_l r5 r3 W9 HE.out HL.out H5.out.2.row H3.out.2.row).mono ?_
 rintro e W10 ⟨rfl, hb⟩
 replace HX : Hid (SrcS p w W10) := HX.out.below hb
 replace H3 : Hid (ProcIs W10 X3 W2.heap.size r3) := H3.out.below hb
 replace H5 : Hid (ProcIs W10 X5 W4.heap.size r5) := H5.out.below hb
 clear hb
 obtain ⟨u0, u1, u2, u3, u4, u5, u6, u7, u8, u9, u10, u11⟩ := H5.out.1.cells
 go_wp2_with fail
 clear u0 u1 u2 u3 u4 u5 u6 u7 u8 u9 u10 u11
 have HCR : Hid (1 + (cntL (fun _ : OpD => 4) r5.prog : Nat) ≤ (90000000 : Int)) := by have h5 := cnt_op r5.prog; have h6 := HL.out; show (1 : Int) + _ ≤ _; omega
 refine (markProc_l r5 1 W10 W4.heap.size HL.out (by omega) HCR.out H5.out.2).mono ?_
 rintro e W11 ⟨rfl, hmk, hkb⟩
 have hrw := HR.out
 have hr4 := HP4.out.2.2
 have hr5 := HP5.out.2
 replace HX : Hid (SrcS p w W11) := HX.out.kept hkb fun g hg => by have := hr5.1 g hg; omega
 replace H3 : Hid (ProcIs W11 X3 W2.heap.size r3) := H3.out.kept hkb (fun hm => by have := hr5.1 _ hm; omega) (fun g hg hm => by have := hr5.1 g hm; have := hrw.1 g hg; omega)
 have HB5 : Hid (ProcBox W11 X5 r5) := (hkb.same _ H5.out.1.lt fun hm => by have := hr5.1 _ hm; omega).trans H5.out.1
 have HM : Hid (W11.ownsRow W4.heap.size 134 4 (.slice r5.progA r5.prog.length r5.progC) r5.prog.length (opK.flat (markL mkOp (fun _ => 4) 1 r5.prog))) := hmk
 clear H5 hkb hmk hrw hr4 hr5
 obtain ⟨u0, u1, u2, u3, u4, u5, u6, u7, u8, u9, u10, u11⟩ := HB5.out.cells
 go_wp2_with fail
 clear u0 u1 u2 u3 u4 u5 u6 u7 u8 u9 u10 u11
 refine (heldProc_l r5 1 W11 HL.out (by omega) HCR.out (own_row HM.out)).mono ?_
 rintro e W12 ⟨rfl, hb⟩
 replace HX : Hid (SrcS p w W12) := HX.out.below hb
 replace H3 : Hid (ProcIs W12 X3 W2.heap.size r3) := H3.out.below hb
 replace HB5 : Hid (ProcBox W12 X5 r5) := HB5.out.below hb
 replace HM : Hid (W12.ownsRow W4.heap.size 134 4 (.slice r5.progA r5.prog.length r5.progC) r5.prog.length (opK.flat (markL mkOp (fun _ => 4) 1 r5.prog))) := own_below HM.out hb
 clear hb
 have nq : ¬ (1 : Int) + (cntL (fun _ : OpD => 4) r5.prog : Nat) < 0 := by omega
 have nd : ((1 : Int) + (cntL (fun _ : OpD => 4) r5.prog : Nat) != 1 + (cntL (fun _ : OpD => 4) r5.prog : Nat)) = false := by simp
 obtain ⟨m0, m1, m2, m3, m4, m5, m6, m7⟩ := srcCells HX.out.1
 go_wp2_with fail
 clear m0 m1 m2 m3 m4 m5 m6 m7
 refine (toPart_l p W12 HSM.out.1 (HC.out.below HX.out.2)).mono ?_
 rintro e W13 ⟨p13, rfl, ho, hp, hb⟩
 have HQ : Hid (PartOwn W13 W12.heap.size p13 ∧ p13.pure = p.pure ∧ p13.pure.Small) := ⟨ho, hp, by rw [hp]; exact HSM.out.2.1⟩
 replace HX : Hid (SrcS p w W13) := HX.out.below hb
 replace H3 : Hid (ProcIs W13 X3 W2.heap.size r3) := H3.out.below hb
 replace HB5 : Hid (ProcBox W13 X5 r5) := HB5.out.below hb
 replace HM : Hid (W13.ownsRow W4.heap.size 134 4 (.slice r5.progA r5.prog.length r5.progC) r5.prog.length (opK.flat (markL mkOp (fun _ => 4) 1 r5.prog))) := own_below HM.out hb
 clear ho hp hb
 go_wp2_with fail
 refine (implProcOf_any p13 id W13 HWid.out (small_good HQ.out.2.2 HQ.out.1)).mono ?_
 rintro e V14 hE
 rw [HQ.out.2.1] at hE
 obtain ⟨r14, rfl, ho, hp14, hb⟩ := hE
 rw [HOK.out]
 have hb2 : Below W13.heap.size W13 (V14.alloc (.cells #[.int .i64 r14.id, .int .i64 r14.prio, .slice r14.progA r14.prog.length r14.progC, .int .i64 r14.state, .int .i64 r14.pc, .int .i64 r14.left, .int .i64 r14.wake, .int .i64 r14.on, .string r14.held, .string r14.got, .int .i64 r14.code, .int .i64 r14.since] 43)) := hb.alloc hb.size _
 have H14 : Hid (ProcIs (V14.alloc (.cells #[.int .i64 r14.id, .int .i64 r14.prio, .slice r14.progA r14.prog.length r14.progC, .int .i64 r14.state, .int .i64 r14.pc, .int .i64 r14.left, .int .i64 r14.wake, .int .i64 r14.on, .string r14.held, .string r14.got, .int .i64 r14.code, .int .i64 r14.since] 43)) V14.heap.size W13.heap.size r14) := ⟨heap_alloc_new _ _, mine_below ho ((Below.refl _ _).alloc (Nat.le_refl _) _)⟩
 have HE14 : Hid (r3.toProcP = r14.toProcP) := HP3.out.trans hp14.symm
 have HL14 : Hid (r14.prog.length ≤ 1048576) := by have h5 := procOf_len id HSM.out.2.1; rw [← hp14] at h5; exact h5
 clear ho hp14 HQ
 replace HX : Hid (SrcS p w (V14.alloc (.cells #[.int .i64 r14.id, .int .i64 r14.prio, .slice r14.progA r14.prog.length r14.progC, .int .i64 r14.state, .int .i64 r14.pc, .int .i64 r14.left, .int .i64 r14.wake, .int .i64 r14.on, .string r14.held, .string r14.got, .int .i64 r14.code, .int .i64 r14.since] 43))) := HX.out.below hb2
 replace H3 : Hid (ProcIs (V14.alloc (.cells #[.int .i64 r14.id, .int .i64 r14.prio, .slice r14.progA r14.prog.length r14.progC, .int .i64 r14.state, .int .i64 r14.pc, .int .i64 r14.left, .int .i64 r14.wake, .int .i64 r14.on, .string r14.held, .string r14.got, .int .i64 r14.code, .int .i64 r14.since] 43)) X3 W2.heap.size r3) := H3.out.below hb2
 replace HB5 : Hid (ProcBox (V14.alloc (.cells #[.int .i64 r14.id, .int .i64 r14.prio, .slice r14.progA r14.prog.length r14.progC, .int .i64 r14.state, .int .i64 r14.pc, .int .i64 r14.left, .int .i64 r14.wake, .int .i64 r14.on, .string r14.held, .string r14.got, .int .i64 r14.code, .int .i64 r14.since] 43)) X5 r5) := HB5.out.below hb2
 replace HM : Hid ((V14.alloc (.cells #[.int .i64 r14.id, .int .i64 r14.prio, .slice r14.progA r14.prog.length r14.progC, .int .i64 r14.state, .int .i64 r14.pc, .int .i64 r14.left, .int .i64 r14.wake, .int .i64 r14.on, .string r14.held, .string r14.got, .int .i64 r14.code, .int .i64 r14.since] 43)).ownsRow W4.heap.size 134 4 (.slice r5.progA r5.prog.length r5.progC) r5.prog.length (opK.flat (markL mkOp (fun _ => 4) 1 r5.prog))) := own_below HM.out hb2
 obtain ⟨v0, v1, v2, v3, v4, v5, v6, v7, v8, v9, v10, v11⟩ := H3.out.1.cells
 unfold procVs
 go_wp2_with fail
 clear v0 v1 v2 v3 v4 v5 v6 v7 v8 v9 v10 v11
 generalize V14.alloc (.cells #[.int .i64 r14.id, .int .i64 r14.prio, .slice r14.progA r14.prog.length r14.progC, .int .i64 r14.state, .int .i64 r14.pc, .int .i64 r14.left, .int .i64 r14.wake, .int .i64 r14.on, .string r14.held, .string r14.got, .int .i64 r14.code, .int .i64 r14.since] 43) = W14 at *
 generalize V14.heap.size = X14 at *
 clear hb2 hb
 refine (eqProc_l r14 r3 W14 HE14.out HL14.out H14.out.2.row H3.out.2.row).mono ?_
 rintro e W15 ⟨rfl, hb⟩
 replace HX : Hid (SrcS p w W15) := HX.out.below hb
 replace H3 : Hid (ProcIs W15 X3 W2.heap.size r3) := H3.out.below hb
 replace HB5 : Hid (ProcBox W15 X5 r5) := HB5.out.below hb
 replace HM : Hid (W15.ownsRow W4.heap.size 134 4 (.slice r5.progA r5.prog.length r5.progC) r5.prog.length (opK.flat (markL mkOp (fun _ => 4) 1 r5.prog))) := own_below HM.out hb
 clear hb
 obtain ⟨u0, u1, u2, u3, u4, u5, u6, u7, u8, u9, u10, u11⟩ := HB5.out.cells
 go_wp2_with fail
 clear u0 u1 u2 u3 u4 u5 u6 u7 u8 u9 u10 u11
 refine (heldProc_l r5 1 W15 HL.out (by omega) HCR.out (own_row HM.out)).mono ?_
 rintro e W16 ⟨rfl, hb⟩
 replace HX : Hid (SrcS p w W16) := HX.out.below hb
 replace H3 : Hid (ProcIs W16 X3 W2.heap.size r3) := H3.out.below hb
 replace HB5 : Hid (ProcBox W16 X5 r5) := HB5.out.below hb
 replace HM : Hid (W16.ownsRow W4.heap.size 134 4 (.slice r5.progA r5.prog.length r5.progC) r5.prog.length (opK.flat (markL mkOp (fun _ => 4) 1 r5.prog))) := own_below HM.out hb
 clear hb
 go_wp2
 go_ret
 exact ⟨rfl, HX.out.2⟩

end Go.Proofs.YtkbcplnlehdjfaaGreat

/- What comes in as a law's argument, opened: lists of things, and a partition. (Made by mkopenl.py.) -/
namespace Go.Proofs.YtkbcplnlehdjfaaGreat
open Go.RowKit Go.ChangeShapes Go.WideShapes Go.Joins Go.Deep

theorem list_of {α : Type} {p : Nat → α → Prop} : ∀ n, (∀ i, i < n → ∃ y, p i y) → ∃ l : List α, l.length = n ∧ ∀ i y, l[i]? = some y → p i y
 | 0, _ => ⟨[], rfl, fun i y h => by simp at h⟩
 | n + 1, h => by
  obtain ⟨l, hl, hp⟩ := list_of n fun i hi => h i (by omega)
  obtain ⟨y, hy⟩ := h n (by omega)
  refine ⟨l ++ [y], by simp [hl], fun i z hz => ?_⟩
  by_cases hi : i < l.length
  ·rw [List.getElem?_append_left hi] at hz
   exact hp i z hz
  ·rw [List.getElem?_append_right (by omega)] at hz
   have e : i - l.length = 0 := by
    have := (List.getElem?_eq_some_iff.1 hz).1
    simp at this
    omega
   rw [e] at hz
   simp only [List.getElem?_cons_zero, Option.some.injEq] at hz
   subst hz
   have : i = n := by omega
   subst this
   exact hy

section
variable {H : Type} {enc : TypeId × Value → H} {W : World}
/-- The fields of a struct of one-cell fields, each by itself. -/
theorem fields1 {t : TypeId} {fs : Array Field} {fuel : Nat} {cs : List Value} {x : DataW H × List MemPlace} (ht : Tryz.prog.underlying t = some (.struct fs)) (hone : oneCellFields Tryz.prog fs = true) (h : DataW.trod enc Tryz.prog W 0 (fun _ => true) true fuel t cs = some x) :
  cs.length = Tryz.prog.cellsOf t ∧ ∃ n, ∀ (i : Nat) (f : Field) (v : Value), fs[i]? = some f → cs[i]? = some v → ∃ y, DataW.trod enc Tryz.prog W 0 (fun _ => true) true n f.type [v] = some y := by
 obtain ⟨xs, n, _, _, hl, hlen, hf⟩ := DataW.trod_struct ht h
 refine ⟨hl, n, fun i f v hfi hv => ?_⟩
 obtain ⟨o1, o2⟩ := hone_of hone i f hfi
 have h1 := hf i f hfi
 have hi : i < xs.length := by rw [hlen]; exact (Array.getElem?_eq_some_iff.1 hfi).1
 rw [o1, o2, List.getElem?_eq_getElem hi] at h1
 have h2 : (cs.drop i).take 1 = [v] := by
  obtain ⟨hlt, rfl⟩ := List.getElem?_eq_some_iff.1 hv
  rw [List.drop_eq_getElem_cons hlt]
  rfl
 rw [h2] at h1
 exact ⟨_, h1⟩

/-- A list of things that came in. -/
theorem open_list {α : Type} (K : Kind α) (G : α → Prop) {t e : TypeId} (ht : Tryz.prog.underlying t = some (.slice e)) (hn : Tryz.prog.cellsOf e = K.n) (hel : ∀ n cs x, DataW.trod enc Tryz.prog W 0 (fun _ => true) true n e cs = some x → ∃ y, cs = K.vals y ∧ G y)
  {fuel : Nat} {v : Value} {x : DataW H × List MemPlace} (h : DataW.trod enc Tryz.prog W 0 (fun _ => true) true fuel t [v] = some x) :
  ∃ (a : Option Addr) (l : List α) (cap : Nat), v = .slice a l.length cap ∧ l.length ≤ maxLen ∧ Src W a (K.flat l) ∧ ∀ y ∈ l, G y := by
 rcases open_slice ht h with ⟨e1, _⟩ | ⟨a, len, cap, q, n, Dd, Pl, e1, _, hl, hm, hq, _, hx⟩
 ·simp only [List.cons.injEq, and_true] at e1
  exact ⟨none, [], 0, e1, Nat.zero_le _, (fun j u hu => by simp [Kind.flat] at hu), fun y hy => by cases hy⟩
 ·simp only [List.cons.injEq, and_true] at e1
  simp only [if_true] at hq
  have key : ∀ i, i < len → ∃ y, (∀ r, r < K.n → W.cell? (a.add (i * K.n + r)) = (K.vals y)[r]?) ∧ G y := fun i hi => by
   obtain ⟨cs', k1, k2⟩ := hx i (by omega)
   rw [hn] at k1
   obtain ⟨_, _, kc⟩ := World.cells?_some k1
   obtain ⟨y, rfl, hy⟩ := hel _ _ _ k2
   refine ⟨y, fun r hr => ?_, hy⟩
   have := kc r hr
   rw [add_add] at this
   exact this
  obtain ⟨l, hlen, hp⟩ := list_of len key
  refine ⟨some a, l, cap, by rw [hlen]; exact e1, by rw [hlen]; omega, fun j u hu => ?_, fun y hy => ?_⟩
  ·have hj : j < l.length * K.n := by
    rw [← K.flat_length]
    exact (List.getElem?_eq_some_iff.1 hu).1
   have hi : j / K.n < l.length := Nat.div_lt_of_lt_mul (by rw [Nat.mul_comm]; exact hj)
   have hr : j % K.n < K.n := Nat.mod_lt _ K.pos
   have ej : j / K.n * K.n + j % K.n = j := by rw [Nat.mul_comm]; exact Nat.div_add_mod j K.n
   obtain ⟨y, hy⟩ : ∃ y, l[j / K.n]? = some y := ⟨_, List.getElem?_eq_getElem hi⟩
   have h1 := (hp _ _ hy).1 (j % K.n) hr
   rw [← K.flat_get hy hr, ej, hu] at h1
   obtain ⟨b, off, spot⟩ := a
   have hspot : spot = none := by
    obtain ⟨y0, hy0⟩ : ∃ y, l[0]? = some y := ⟨_, List.getElem?_eq_getElem (Nat.lt_of_le_of_lt (Nat.zero_le _) hi)⟩
    have h2 := (hp _ _ hy0).1 0 K.pos
    rw [List.getElem?_eq_getElem (by rw [K.len]; exact K.pos)] at h2
    have := World.cell?_spot h2
    simpa [Addr.add] using this
   subst hspot
   rw [add_plain] at h1
   exact ⟨b, off, rfl, h1⟩
  ·obtain ⟨i, hi⟩ := List.mem_iff_getElem?.1 hy
   exact (hp _ _ hi).2

theorem cellsStr : Tryz.prog.cellsOf 9 = strK.n := by kernel_rfl
theorem openStr_in {fuel : Nat} {cs : List Value} {x : DataW H × List MemPlace} (h : DataW.trod enc Tryz.prog W 0 (fun _ => true) true fuel 9 cs = some x) : ∃ s : ByteArray, cs = strK.vals s ∧ s.size ≤ maxLen := by
 obtain ⟨s, e, -, hs⟩ := DataW.trod_string Tryz.underlying9 h
 exact ⟨s, e, hs⟩
theorem cellsOp : Tryz.prog.cellsOf 174 = 4 := by kernel_rfl
theorem openOp_in {fuel : Nat} {cs : List Value} {x : DataW H × List MemPlace} (h : DataW.trod enc Tryz.prog W 0 (fun _ => true) true fuel 174 cs = some x) : ∃ y, cs = opK.vals y ∧ (fun o : OpD => o.2.2.2.size ≤ maxLen) y := by
 obtain ⟨hlen, n, hf⟩ := fields1 Tryz.underlying174 (by kernel_rfl) h
 rw [cellsOp] at hlen
 match cs, hlen with
 | [v0, v1, v2, v3], _ =>
  obtain ⟨y0, h0⟩ := hf 0 _ v0 rfl rfl
  obtain ⟨a0, e0, -, w0⟩ := DataW.trod_int Tryz.underlying2 h0
  obtain ⟨y1, h1⟩ := hf 1 _ v1 rfl rfl
  obtain ⟨a1, e1, -, w1⟩ := DataW.trod_int Tryz.underlying2 h1
  obtain ⟨y2, h2⟩ := hf 2 _ v2 rfl rfl
  obtain ⟨a2, e2, -, w2⟩ := DataW.trod_int Tryz.underlying2 h2
  obtain ⟨y3, h3⟩ := hf 3 _ v3 rfl rfl
  obtain ⟨a3, e3, -, s3⟩ := DataW.trod_string Tryz.underlying9 h3
  simp only [List.cons.injEq, and_true] at e0 e1 e2 e3
  subst e0 e1 e2 e3
  exact ⟨(a0, a1, a2, a3), rfl, s3⟩

theorem cellsSem : Tryz.prog.cellsOf 83 = 3 := by kernel_rfl
theorem openSem_in {fuel : Nat} {cs : List Value} {x : DataW H × List MemPlace} (h : DataW.trod enc Tryz.prog W 0 (fun _ => true) true fuel 83 cs = some x) : ∃ y, cs = semK.vals y ∧ (fun y : SemD => (Lit.int .i64 y.id).wf = true) y := by
 obtain ⟨hlen, n, hf⟩ := fields1 Tryz.underlying83 (by kernel_rfl) h
 rw [cellsSem] at hlen
 match cs, hlen with
 | [v0, v1, v2], _ =>
  obtain ⟨y0, h0⟩ := hf 0 _ v0 rfl rfl
  obtain ⟨a0, e0, -, w0⟩ := DataW.trod_int Tryz.underlying2 h0
  obtain ⟨y1, h1⟩ := hf 1 _ v1 rfl rfl
  obtain ⟨a1, e1, -, w1⟩ := DataW.trod_int Tryz.underlying2 h1
  obtain ⟨y2, h2⟩ := hf 2 _ v2 rfl rfl
  obtain ⟨a2, e2, -, w2⟩ := DataW.trod_int Tryz.underlying2 h2
  simp only [List.cons.injEq, and_true] at e0 e1 e2
  subst e0 e1 e2
  exact ⟨⟨a0, a1, a2⟩, rfl, w0⟩

theorem cellsEvent : Tryz.prog.cellsOf 242 = 2 := by kernel_rfl
theorem openEvent_in {fuel : Nat} {cs : List Value} {x : DataW H × List MemPlace} (h : DataW.trod enc Tryz.prog W 0 (fun _ => true) true fuel 242 cs = some x) : ∃ y, cs = eventK.vals y ∧ (fun y : EventD => (Lit.int .i64 y.id).wf = true) y := by
 obtain ⟨hlen, n, hf⟩ := fields1 Tryz.underlying242 (by kernel_rfl) h
 rw [cellsEvent] at hlen
 match cs, hlen with
 | [v0, v1], _ =>
  obtain ⟨y0, h0⟩ := hf 0 _ v0 rfl rfl
  obtain ⟨a0, e0, -, w0⟩ := DataW.trod_int Tryz.underlying2 h0
  obtain ⟨y1, h1⟩ := hf 1 _ v1 rfl rfl
  obtain ⟨a1, e1, -⟩ := DataW.trod_bool Tryz.underlying4 h1
  simp only [List.cons.injEq, and_true] at e0 e1
  subst e0 e1
  exact ⟨⟨a0, a1⟩, rfl, w0⟩

theorem cellsBoard : Tryz.prog.cellsOf 237 = 3 := by kernel_rfl
theorem openBoard_in {fuel : Nat} {cs : List Value} {x : DataW H × List MemPlace} (h : DataW.trod enc Tryz.prog W 0 (fun _ => true) true fuel 237 cs = some x) : ∃ y, cs = boardK.vals y ∧ (fun y : BoardD => (Lit.int .i64 y.id).wf = true ∧ y.text.size ≤ maxLen) y := by
 obtain ⟨hlen, n, hf⟩ := fields1 Tryz.underlying237 (by kernel_rfl) h
 rw [cellsBoard] at hlen
 match cs, hlen with
 | [v0, v1, v2], _ =>
  obtain ⟨y0, h0⟩ := hf 0 _ v0 rfl rfl
  obtain ⟨a0, e0, -, w0⟩ := DataW.trod_int Tryz.underlying2 h0
  obtain ⟨y1, h1⟩ := hf 1 _ v1 rfl rfl
  obtain ⟨a1, e1, -⟩ := DataW.trod_bool Tryz.underlying4 h1
  obtain ⟨y2, h2⟩ := hf 2 _ v2 rfl rfl
  obtain ⟨a2, e2, -, s2⟩ := DataW.trod_string Tryz.underlying9 h2
  simp only [List.cons.injEq, and_true] at e0 e1 e2
  subst e0 e1 e2
  exact ⟨⟨a0, a1, a2⟩, rfl, w0, s2⟩

theorem cellsBuffer : Tryz.prog.cellsOf 239 = 3 := by kernel_rfl
theorem openBuffer_in {fuel : Nat} {cs : List Value} {x : DataW H × List MemPlace} (h : DataW.trod enc Tryz.prog W 0 (fun _ => true) true fuel 239 cs = some x) : ∃ y, cs = bufferK.vals y ∧ (fun y : BufferD => (Lit.int .i64 y.id).wf = true ∧ (y.items.length ≤ maxLen ∧ ∀ s ∈ y.items, s.size ≤ maxLen) ∧ Src W y.itemsA (strK.flat y.items)) y := by
 obtain ⟨hlen, n, hf⟩ := fields1 Tryz.underlying239 (by kernel_rfl) h
 rw [cellsBuffer] at hlen
 match cs, hlen with
 | [v0, v1, v2], _ =>
  obtain ⟨y0, h0⟩ := hf 0 _ v0 rfl rfl
  obtain ⟨a0, e0, -, w0⟩ := DataW.trod_int Tryz.underlying2 h0
  obtain ⟨y1, h1⟩ := hf 1 _ v1 rfl rfl
  obtain ⟨a1, e1, -, w1⟩ := DataW.trod_int Tryz.underlying2 h1
  obtain ⟨y2, h2⟩ := hf 2 _ v2 rfl rfl
  obtain ⟨b2, l2, c2, e2, z2, r2, g2⟩ := open_list strK (fun s => s.size ≤ maxLen) Tryz.underlying59 cellsStr (fun _ _ _ h => openStr_in h) h2
  simp only [List.cons.injEq, and_true] at e0 e1
  subst e0 e1 e2
  exact ⟨⟨⟨a0, a1, l2⟩, b2, c2⟩, rfl, w0, ⟨z2, g2⟩, r2⟩

theorem cellsPort : Tryz.prog.cellsOf 88 = 5 := by kernel_rfl
theorem openPort_in {fuel : Nat} {cs : List Value} {x : DataW H × List MemPlace} (h : DataW.trod enc Tryz.prog W 0 (fun _ => true) true fuel 88 cs = some x) : ∃ y, cs = portK.vals y ∧ (fun y : PortD => (Lit.int .i64 y.id).wf = true ∧ (y.items.length ≤ maxLen ∧ ∀ s ∈ y.items, s.size ≤ maxLen) ∧ Src W y.itemsA (strK.flat y.items)) y := by
 obtain ⟨hlen, n, hf⟩ := fields1 Tryz.underlying88 (by kernel_rfl) h
 rw [cellsPort] at hlen
 match cs, hlen with
 | [v0, v1, v2, v3, v4], _ =>
  obtain ⟨y0, h0⟩ := hf 0 _ v0 rfl rfl
  obtain ⟨a0, e0, -, w0⟩ := DataW.trod_int Tryz.underlying2 h0
  obtain ⟨y1, h1⟩ := hf 1 _ v1 rfl rfl
  obtain ⟨a1, e1, -⟩ := DataW.trod_bool Tryz.underlying4 h1
  obtain ⟨y2, h2⟩ := hf 2 _ v2 rfl rfl
  obtain ⟨a2, e2, -⟩ := DataW.trod_bool Tryz.underlying4 h2
  obtain ⟨y3, h3⟩ := hf 3 _ v3 rfl rfl
  obtain ⟨a3, e3, -, w3⟩ := DataW.trod_int Tryz.underlying2 h3
  obtain ⟨y4, h4⟩ := hf 4 _ v4 rfl rfl
  obtain ⟨b4, l4, c4, e4, z4, r4, g4⟩ := open_list strK (fun s => s.size ≤ maxLen) Tryz.underlying59 cellsStr (fun _ _ _ h => openStr_in h) h4
  simp only [List.cons.injEq, and_true] at e0 e1 e2 e3
  subst e0 e1 e2 e3 e4
  exact ⟨⟨⟨a0, a1, a2, a3, l4⟩, b4, c4⟩, rfl, w0, ⟨z4, g4⟩, r4⟩

theorem cellsProc : Tryz.prog.cellsOf 235 = 12 := by kernel_rfl
theorem openProc_in {fuel : Nat} {cs : List Value} {x : DataW H × List MemPlace} (h : DataW.trod enc Tryz.prog W 0 (fun _ => true) true fuel 235 cs = some x) : ∃ y, cs = procK.vals y ∧ (fun y : ProcD => y.Wf ∧ ((y.prog.length ≤ maxLen ∧ ∀ o ∈ y.prog, o.2.2.2.size ≤ maxLen) ∧ y.held.size ≤ maxLen ∧ y.got.size ≤ maxLen) ∧ Src W y.progA (opK.flat y.prog)) y := by
 obtain ⟨hlen, n, hf⟩ := fields1 Tryz.underlying235 (by kernel_rfl) h
 rw [cellsProc] at hlen
 match cs, hlen with
 | [v0, v1, v2, v3, v4, v5, v6, v7, v8, v9, v10, v11], _ =>
  obtain ⟨y0, h0⟩ := hf 0 _ v0 rfl rfl
  obtain ⟨a0, e0, -, w0⟩ := DataW.trod_int Tryz.underlying2 h0
  obtain ⟨y1, h1⟩ := hf 1 _ v1 rfl rfl
  obtain ⟨a1, e1, -, w1⟩ := DataW.trod_int Tryz.underlying2 h1
  obtain ⟨y2, h2⟩ := hf 2 _ v2 rfl rfl
  obtain ⟨b2, l2, c2, e2, z2, r2, g2⟩ := open_list opK (fun o => o.2.2.2.size ≤ maxLen) Tryz.underlying77 cellsOp (fun _ _ _ h => openOp_in h) h2
  obtain ⟨y3, h3⟩ := hf 3 _ v3 rfl rfl
  obtain ⟨a3, e3, -, w3⟩ := DataW.trod_int Tryz.underlying2 h3
  obtain ⟨y4, h4⟩ := hf 4 _ v4 rfl rfl
  obtain ⟨a4, e4, -, w4⟩ := DataW.trod_int Tryz.underlying2 h4
  obtain ⟨y5, h5⟩ := hf 5 _ v5 rfl rfl
  obtain ⟨a5, e5, -, w5⟩ := DataW.trod_int Tryz.underlying2 h5
  obtain ⟨y6, h6⟩ := hf 6 _ v6 rfl rfl
  obtain ⟨a6, e6, -, w6⟩ := DataW.trod_int Tryz.underlying2 h6
  obtain ⟨y7, h7⟩ := hf 7 _ v7 rfl rfl
  obtain ⟨a7, e7, -, w7⟩ := DataW.trod_int Tryz.underlying2 h7
  obtain ⟨y8, h8⟩ := hf 8 _ v8 rfl rfl
  obtain ⟨a8, e8, -, s8⟩ := DataW.trod_string Tryz.underlying9 h8
  obtain ⟨y9, h9⟩ := hf 9 _ v9 rfl rfl
  obtain ⟨a9, e9, -, s9⟩ := DataW.trod_string Tryz.underlying9 h9
  obtain ⟨y10, h10⟩ := hf 10 _ v10 rfl rfl
  obtain ⟨a10, e10, -, w10⟩ := DataW.trod_int Tryz.underlying2 h10
  obtain ⟨y11, h11⟩ := hf 11 _ v11 rfl rfl
  obtain ⟨a11, e11, -, w11⟩ := DataW.trod_int Tryz.underlying2 h11
  simp only [List.cons.injEq, and_true] at e0 e1 e3 e4 e5 e6 e7 e8 e9 e10 e11
  subst e0 e1 e3 e4 e5 e6 e7 e8 e9 e10 e11 e2
  exact ⟨⟨⟨a0, a1, l2, a3, a4, a5, a6, a7, a8, a9, a10, a11⟩, b2, c2⟩, rfl, ⟨w0, w7, w11⟩, ⟨⟨z2, g2⟩, s8, s9⟩, r2⟩

set_option maxRecDepth 100000 in
/-- A partition that came in. -/
theorem open_part_cells {fuel : Nat} {cs : List Value} {x : DataW H × List MemPlace} (h : DataW.trod enc Tryz.prog W 0 (fun _ => true) true fuel 73 cs = some x) : ∃ p : PartD, cs = p.cells.toList ∧ p.Big ∧ p.Came W ∧ p.Ints := by
 obtain ⟨hlen, n, hf⟩ := fields1 Tryz.underlying73 (by kernel_rfl) h
 rw [show Tryz.prog.cellsOf 73 = 8 by kernel_rfl] at hlen
 match cs, hlen with
 | [v0, v1, v2, v3, v4, v5, v6, v7], _ =>
  obtain ⟨y0, h0⟩ := hf 0 _ v0 rfl rfl
  obtain ⟨y1, h1⟩ := hf 1 _ v1 rfl rfl
  obtain ⟨a0, e0, -, -⟩ := DataW.trod_int Tryz.underlying2 h0
  obtain ⟨a1, e1, -, -⟩ := DataW.trod_int Tryz.underlying2 h1
  obtain ⟨y2, h2⟩ := hf 2 _ v2 rfl rfl
  obtain ⟨b2, l2, c2, e2, z2, r2, g2⟩ := open_list procK (fun y : ProcD => y.Wf ∧ ((y.prog.length ≤ maxLen ∧ ∀ o ∈ y.prog, o.2.2.2.size ≤ maxLen) ∧ y.held.size ≤ maxLen ∧ y.got.size ≤ maxLen) ∧ Src W y.progA (opK.flat y.prog)) Tryz.underlying66 (by kernel_rfl) (fun _ _ _ h => openProc_in h) h2
  obtain ⟨y3, h3⟩ := hf 3 _ v3 rfl rfl
  obtain ⟨b3, l3, c3, e3, z3, r3, g3⟩ := open_list semK (fun y : SemD => (Lit.int .i64 y.id).wf = true) Tryz.underlying67 (by kernel_rfl) (fun _ _ _ h => openSem_in h) h3
  obtain ⟨y4, h4⟩ := hf 4 _ v4 rfl rfl
  obtain ⟨b4, l4, c4, e4, z4, r4, g4⟩ := open_list eventK (fun y : EventD => (Lit.int .i64 y.id).wf = true) Tryz.underlying68 (by kernel_rfl) (fun _ _ _ h => openEvent_in h) h4
  obtain ⟨y5, h5⟩ := hf 5 _ v5 rfl rfl
  obtain ⟨b5, l5, c5, e5, z5, r5, g5⟩ := open_list boardK (fun y : BoardD => (Lit.int .i64 y.id).wf = true ∧ y.text.size ≤ maxLen) Tryz.underlying69 (by kernel_rfl) (fun _ _ _ h => openBoard_in h) h5
  obtain ⟨y6, h6⟩ := hf 6 _ v6 rfl rfl
  obtain ⟨b6, l6, c6, e6, z6, r6, g6⟩ := open_list bufferK (fun y : BufferD => (Lit.int .i64 y.id).wf = true ∧ (y.items.length ≤ maxLen ∧ ∀ s ∈ y.items, s.size ≤ maxLen) ∧ Src W y.itemsA (strK.flat y.items)) Tryz.underlying70 (by kernel_rfl) (fun _ _ _ h => openBuffer_in h) h6
  obtain ⟨y7, h7⟩ := hf 7 _ v7 rfl rfl
  obtain ⟨b7, l7, c7, e7, z7, r7, g7⟩ := open_list portK (fun y : PortD => (Lit.int .i64 y.id).wf = true ∧ (y.items.length ≤ maxLen ∧ ∀ s ∈ y.items, s.size ≤ maxLen) ∧ Src W y.itemsA (strK.flat y.items)) Tryz.underlying71 (by kernel_rfl) (fun _ _ _ h => openPort_in h) h7
  simp only [List.cons.injEq, and_true] at e0 e1
  subst e0 e1 e2 e3 e4 e5 e6 e7
  refine ⟨⟨a0, a1, l2, b2, c2, l3, b3, c3, l4, b4, c4, l5, b5, c5, l6, b6, c6, l7, b7, c7⟩, rfl, ⟨z2, z3, z4, z5, z6, z7, fun x hx => (g2 x hx).2.1, fun x hx => (g5 x hx).2, fun x hx => (g6 x hx).2.1, fun x hx => (g7 x hx).2.1⟩, ⟨⟨r2, fun x hx r hr => ?_⟩, ⟨r3, fun x hx r hr => ?_⟩, ⟨r4, fun x hx r hr => ?_⟩, ⟨r5, fun x hx r hr => ?_⟩, ⟨r6, fun x hx r hr => ?_⟩, ⟨r7, fun x hx r hr => ?_⟩⟩, ⟨fun x hx => (g2 x hx).1, g3, g4, fun x hx => (g5 x hx).1, fun x hx => (g6 x hx).1, fun x hx => (g7 x hx).1⟩⟩
  ·simp only [procK, List.mem_cons, List.not_mem_nil, or_false] at hr
   subst hr
   exact (g2 x hx).2.2
  ·simp [semK] at hr
  ·simp [eventK] at hr
  ·simp [boardK] at hr
  ·simp only [bufferK, List.mem_cons, List.not_mem_nil, or_false] at hr
   subst hr
   exact (g6 x hx).2.2
  ·simp only [portK, List.mem_cons, List.not_mem_nil, or_false] at hr
   subst hr
   exact (g7 x hx).2.2
set_option maxRecDepth 100000 in
theorem open_part {r : Reach} {b0 : Nat} {v : Value} {d : DataW H} {pl : List MemPlace} (hv : Value.okWide Tryz.prog W r b0 73 v) (h : DataW.Trod enc Tryz.prog W 0 (fun _ => true) true 73 v d pl) : ∃ p : PartD, v = .agg p.cells ∧ p.Big ∧ p.Came W ∧ p.Ints := by
 obtain ⟨cs, rfl, hsz⟩ := okWide_struct Tryz.underlying73 hv
 obtain ⟨fuel, hf⟩ := h
 obtain ⟨p, hp, h1, h2, h3⟩ := open_part_cells hf
 refine ⟨p, ?_, h1, h2, h3⟩
 have e : cs.toList = p.cells.toList := by simpa [Value.cells] using hp
 rw [Array.toList_inj.1 e]
end

end Go.Proofs.YtkbcplnlehdjfaaGreat
