/- What the proof leans on, part 4: LwProc, LwSem, LwEvent, LwBoard, LwStr, LwBuffer, LwPort, LwPart, LwBase, SrcCells, LawX, Wild. -/
import Derived.Deep.RegionHeld
import Derived.Test.YtkbcplnlehdjfaaGreatOwnQ0
import Derived.Test.YtkbcplnlehdjfaaGreatOwnQ1
import Derived.Test.YtkbcplnlehdjfaaGreatOwnQ2
import Derived.Test.YtkbcplnlehdjfaaGreatOwnQ3

namespace Go.Proofs.YtkbcplnlehdjfaaGreat
open Go.RowKit
attribute [local go_sem ↓] Go.wp_at_zero Go.wp_at_succ

set_option maxHeartbeats 2000000 in
theorem szProc_l (x : ProcD) (left : Int) (w : World) (hb : ((x.prog.length ≤ maxLen ∧ ∀ o ∈ x.prog, o.2.2.2.size ≤ maxLen) ∧ x.held.size ≤ maxLen ∧ x.got.size ≤ maxLen)) (hc : opK.Came w x.progA x.prog) (h0 : 0 ≤ left) (h1 : left ≤ 1048576) :
  Calls Tryz.prog 189 #[.agg #[.int .i64 x.id, .int .i64 x.prio, .slice x.progA x.prog.length x.progC, .int .i64 x.state, .int .i64 x.pc, .int .i64 x.left, .int .i64 x.wake, .int .i64 x.on, .string x.held, .string x.got, .int .i64 x.code, .int .i64 x.since], .int .i64 left] w fun e w' => SzEnds w left (x.prog.length) (x.Short) e w' := by
 have HB : Hid (((x.prog.length ≤ maxLen ∧ ∀ o ∈ x.prog, o.2.2.2.size ≤ maxLen) ∧ x.held.size ≤ maxLen ∧ x.got.size ≤ maxLen)) := hb
 have HC : Hid (opK.Came (w.alloc (.cells #[.int .i64 x.id, .int .i64 x.prio, .slice x.progA x.prog.length x.progC, .int .i64 x.state, .int .i64 x.pc, .int .i64 x.left, .int .i64 x.wake, .int .i64 x.on, .string x.held, .string x.got, .int .i64 x.code, .int .i64 x.since] 235)) x.progA x.prog) := hc.below ((Below.refl _ _).alloc (Nat.le_refl _) _)
 clear hc
 have HW : Hid (Below w.heap.size w (w.alloc (.cells #[.int .i64 x.id, .int .i64 x.prio, .slice x.progA x.prog.length x.progC, .int .i64 x.state, .int .i64 x.pc, .int .i64 x.left, .int .i64 x.wake, .int .i64 x.on, .string x.held, .string x.got, .int .i64 x.code, .int .i64 x.since] 235))) := (Below.refl _ _).alloc (Nat.le_refl _) _
 clear hb
 go_enter Tryz.func189, Tryz.ntmps189
 have HX : Hid ((w.alloc (.cells #[.int .i64 x.id, .int .i64 x.prio, .slice x.progA x.prog.length x.progC, .int .i64 x.state, .int .i64 x.pc, .int .i64 x.left, .int .i64 x.wake, .int .i64 x.on, .string x.held, .string x.got, .int .i64 x.code, .int .i64 x.since] 235)).heap[w.heap.size]? = some (.cells #[.int .i64 x.id, .int .i64 x.prio, .slice x.progA x.prog.length x.progC, .int .i64 x.state, .int .i64 x.pc, .int .i64 x.left, .int .i64 x.wake, .int .i64 x.on, .string x.held, .string x.got, .int .i64 x.code, .int .i64 x.since] 235 (0, 0))) := heap_alloc_new _ _
 go_wp2_with fail
 generalize w.alloc (.cells #[.int .i64 x.id, .int .i64 x.prio, .slice x.progA x.prog.length x.progC, .int .i64 x.state, .int .i64 x.pc, .int .i64 x.left, .int .i64 x.wake, .int .i64 x.on, .string x.held, .string x.got, .int .i64 x.code, .int .i64 x.since] 235) = W at *
 refine (szSOp_l x.progA x.prog x.progC left W HB.out.1.1 HC.out HB.out.1.2 h0 h1).mono ?_
 rintro e w1 ⟨r1, rfl, q0, q1, q2, hb1⟩
 have HB1 : Hid (Below w.heap.size w w1) := HW.out.trans (hb1.mono HW.out.size)
 have HX1 : Hid (w1.heap[w.heap.size]? = some (.cells #[.int .i64 x.id, .int .i64 x.prio, .slice x.progA x.prog.length x.progC, .int .i64 x.state, .int .i64 x.pc, .int .i64 x.left, .int .i64 x.wake, .int .i64 x.on, .string x.held, .string x.got, .int .i64 x.code, .int .i64 x.since] 235 (0, 0))) := (hb1.block _ (Array.getElem?_eq_some_iff.1 HX.out).1).trans HX.out
 have HQ : Hid (0 ≤ r1 → (x.prog.length ≤ 1048576 ∧ ∀ s ∈ x.prog, (s.2.2.2.size ≤ 1048576)) ∧ r1 + (x.prog.length : Nat) ≤ left) := q2
 clear hb1 HX q2
 by_cases hn : r1 < 0
 ·go_wp2
  go_ret
  exact szEnds_no HB1.out h0
 have k8 : w1.cell? ⟨w.heap.size, 8, none⟩ = some (.string x.held) := by have := HX1.out; simp [World.cell?, this]
 have k9 : w1.cell? ⟨w.heap.size, 9, none⟩ = some (.string x.got) := by have := HX1.out; simp [World.cell?, this]
 have z0 : x.held.size ≤ 9223372036854775807 := HB.out.2.1
 by_cases s0 : r1 - (x.held.size : Int) < 0
 ·go_wp2
  go_ret
  exact szEnds_no HB1.out h0
 have z1 : x.got.size ≤ 9223372036854775807 := HB.out.2.2
 by_cases s1 : r1 - (x.held.size : Int) - (x.got.size : Int) < 0
 ·go_wp2
  go_ret
  exact szEnds_no HB1.out h0
 go_wp2
 go_ret
 exact ⟨r1 - (x.held.size : Int) - (x.got.size : Int), rfl, by omega, by omega, fun _ => ⟨⟨(HQ.out (by omega)).1.1, (HQ.out (by omega)).1.2, by omega, by omega⟩, by have := (HQ.out (by omega)).2; omega⟩, HB1.out⟩

set_option maxHeartbeats 2000000 in
theorem szSProc_l (a : Option Addr) (l : List ProcD) (cap : Nat) (left : Int) (w : World) (hl : l.length ≤ maxLen) (hc : procK.Came w a l) (hs : ∀ x ∈ l, ((x.prog.length ≤ maxLen ∧ ∀ o ∈ x.prog, o.2.2.2.size ≤ maxLen) ∧ x.held.size ≤ maxLen ∧ x.got.size ≤ maxLen)) (h0 : 0 ≤ left) (h1 : left ≤ 1048576) :
  Calls Tryz.prog 107 #[.slice a l.length cap, .int .i64 left] w fun e w' => SzEnds w left (l.length + sumL (fun x : ProcD => x.prog.length) l) (l.length ≤ 1048576 ∧ ∀ x ∈ l, x.Short) e w' := by
 have hl' := hl
 unfold maxLen at hl'
 by_cases hn : left - (l.length : Int) < 0
 ·go_enter Tryz.func107, Tryz.ntmps107
  go_wp2
  go_ret
  exact szEnds_no (Below.refl _ _) h0
 have HC : Hid (procK.Came w a l ∧ ∀ x ∈ l, ((x.prog.length ≤ maxLen ∧ ∀ o ∈ x.prog, o.2.2.2.size ≤ maxLen) ∧ x.held.size ≤ maxLen ∧ x.got.size ≤ maxLen)) := ⟨hc, hs⟩
 clear hc hs hl
 go_enter Tryz.func107, Tryz.ntmps107
 go_wp2_with fail
 go_loopw [1, 5] (fun q i wr => ∃ (k : Nat) (r : Int), k ≤ l.length ∧ i = .int .i64 k ∧ q = .int .i64 r ∧ 0 ≤ r ∧ r ≤ left - (l.length : Int) ∧ Hid ((∀ x ∈ l.take k, x.Short) ∧ r + (sumL (fun x : ProcD => x.prog.length) (l.take k) : Nat) ≤ left - (l.length : Int) ∧ Below w.heap.size w wr)) (fun _ i _ => l.length - (intOf i).toNat)
 case atStart => exact ⟨0, left - (l.length : Int), Nat.zero_le _, rfl, rfl, by omega, by omega, ⟨by simp, by simp [sumL], Below.refl _ _⟩⟩
 case round =>
  obtain ⟨k, r, hk, rfl, rfl, r0, r1, HA⟩ := hrel
  by_cases hlt : k < l.length
  ·have i0 : (0 : Int) ≤ (k : Int) := by omega
   have i1 : (k : Int) < (l.length : Int) := by omega
   obtain ⟨x, hx⟩ : ∃ x, l[k]? = some x := ⟨_, List.getElem?_eq_getElem hlt⟩
   have hmem := List.mem_of_getElem? hx
   obtain ⟨b, off, rfl, hat⟩ := (HC.out.1.below HA.out.2.2).at hx
   have c0 : wr.cell? ⟨b, off + k * 12, none⟩ = some (.int .i64 x.id) := hat 0 _ rfl
   have c1 : wr.cell? ⟨b, off + k * 12 + 1, none⟩ = some (.int .i64 x.prio) := hat 1 _ rfl
   have c2 : wr.cell? ⟨b, off + k * 12 + 2, none⟩ = some (.slice x.progA x.prog.length x.progC) := hat 2 _ rfl
   have c3 : wr.cell? ⟨b, off + k * 12 + 3, none⟩ = some (.int .i64 x.state) := hat 3 _ rfl
   have c4 : wr.cell? ⟨b, off + k * 12 + 4, none⟩ = some (.int .i64 x.pc) := hat 4 _ rfl
   have c5 : wr.cell? ⟨b, off + k * 12 + 5, none⟩ = some (.int .i64 x.left) := hat 5 _ rfl
   have c6 : wr.cell? ⟨b, off + k * 12 + 6, none⟩ = some (.int .i64 x.wake) := hat 6 _ rfl
   have c7 : wr.cell? ⟨b, off + k * 12 + 7, none⟩ = some (.int .i64 x.on) := hat 7 _ rfl
   have c8 : wr.cell? ⟨b, off + k * 12 + 8, none⟩ = some (.string x.held) := hat 8 _ rfl
   have c9 : wr.cell? ⟨b, off + k * 12 + 9, none⟩ = some (.string x.got) := hat 9 _ rfl
   have c10 : wr.cell? ⟨b, off + k * 12 + 10, none⟩ = some (.int .i64 x.code) := hat 10 _ rfl
   have c11 : wr.cell? ⟨b, off + k * 12 + 11, none⟩ = some (.int .i64 x.since) := hat 11 _ rfl
   have HX : Hid (l[k]? = some x ∧ ((x.prog.length ≤ maxLen ∧ ∀ o ∈ x.prog, o.2.2.2.size ≤ maxLen) ∧ x.held.size ≤ maxLen ∧ x.got.size ≤ maxLen)) := ⟨hx, HC.out.2 x hmem⟩
   have HK : Hid (opK.Came wr x.progA x.prog) := ⟨((HC.out.1.below HA.out.2.2).kid hx (r := (x.progA, opK.flat x.prog)) (by simp [procK])), fun y _ r hr => by simp [opK] at hr⟩
   clear hx hmem hat
   go_wp2_with fail
   refine (szProc_l x r wr HX.out.2 HK.out r0 (by omega)).mono ?_
   rintro e w1 ⟨r2, rfl, q0, q1, q2, hb1⟩
   have HB1 : Hid (Below w.heap.size w w1 ∧ (0 ≤ r2 → x.Short ∧ r2 + (x.prog.length : Nat) ≤ r)) := ⟨HA.out.2.2.trans (hb1.mono HA.out.2.2.size), q2⟩
   clear hb1 q2 c0 c1 c2 c3 c4 c5 c6 c7 c8 c9 c10 c11
   by_cases hneg : r2 < 0
   ·go_wp2
    go_ret
    exact szEnds_no HB1.out.1 h0
   go_wp2
   go_roundw
   case rel => exact ⟨k + 1, r2, by omega, by go_num, rfl, by omega, by omega, ⟨all_up HX.out.1 HA.out.1 (HB1.out.2 (by omega)).1, by rw [sumL_up HX.out.1]; have h5 := (HB1.out.2 (by omega)).2; have h6 := HA.out.2.1; omega, HB1.out.1⟩⟩
   case measure => simp [intOf]; omega
  ·have i1 : ¬ (k : Int) < (l.length : Int) := by omega
   go_wp2
   go_ret
   exact ⟨r, rfl, by omega, by omega, fun _ => ⟨⟨by omega, all_end (by omega) HA.out.1⟩, by have h5 := HA.out.2.1; rw [List.take_of_length_le (by omega)] at h5; omega⟩, HA.out.2.2⟩

set_option maxRecDepth 100000 in
set_option maxHeartbeats 4000000 in
theorem toProc_l (x : ProcD) (w : World) (hl : x.prog.length ≤ 1048576) (hc : opK.Came w x.progA x.prog) :
  Calls Tryz.prog 192 #[.agg #[.int .i64 x.id, .int .i64 x.prio, .slice x.progA x.prog.length x.progC, .int .i64 x.state, .int .i64 x.pc, .int .i64 x.left, .int .i64 x.wake, .int .i64 x.on, .string x.held, .string x.got, .int .i64 x.code, .int .i64 x.since]] w fun e w' => ∃ a c, e = .returned (.agg (procVs (procN.set x a c))) ∧ procN.Mine w' (w.heap.size + 1) (procN.set x a c) ∧ Below w.heap.size w w' := by
 have HB : Hid (Below w.heap.size w (((w.alloc (.cells #[.int .i64 x.id, .int .i64 x.prio, .slice x.progA x.prog.length x.progC, .int .i64 x.state, .int .i64 x.pc, .int .i64 x.left, .int .i64 x.wake, .int .i64 x.on, .string x.held, .string x.got, .int .i64 x.code, .int .i64 x.since] 235)).alloc (.cells #[.int .i64 0, .int .i64 0, .slice none 0 0, .int .i64 0, .int .i64 0, .int .i64 0, .int .i64 0, .int .i64 0, .string ⟨#[]⟩, .string ⟨#[]⟩, .int .i64 0, .int .i64 0] 43)).alloc (.cells #[.int .i64 x.id, .int .i64 x.prio, .slice none 0 0, .int .i64 0, .int .i64 0, .int .i64 0, .int .i64 0, .int .i64 0, .string ⟨#[]⟩, .string ⟨#[]⟩, .int .i64 0, .int .i64 0] 43))) := alloc3_below _ _ _ _
 have HC : Hid (opK.Came (((w.alloc (.cells #[.int .i64 x.id, .int .i64 x.prio, .slice x.progA x.prog.length x.progC, .int .i64 x.state, .int .i64 x.pc, .int .i64 x.left, .int .i64 x.wake, .int .i64 x.on, .string x.held, .string x.got, .int .i64 x.code, .int .i64 x.since] 235)).alloc (.cells #[.int .i64 0, .int .i64 0, .slice none 0 0, .int .i64 0, .int .i64 0, .int .i64 0, .int .i64 0, .int .i64 0, .string ⟨#[]⟩, .string ⟨#[]⟩, .int .i64 0, .int .i64 0] 43)).alloc (.cells #[.int .i64 x.id, .int .i64 x.prio, .slice none 0 0, .int .i64 0, .int .i64 0, .int .i64 0, .int .i64 0, .int .i64 0, .string ⟨#[]⟩, .string ⟨#[]⟩, .int .i64 0, .int .i64 0] 43)) x.progA x.prog ∧ x.prog.length ≤ 1048576) := ⟨hc.below HB.out, hl⟩
 have HX : Hid ((((w.alloc (.cells #[.int .i64 x.id, .int .i64 x.prio, .slice x.progA x.prog.length x.progC, .int .i64 x.state, .int .i64 x.pc, .int .i64 x.left, .int .i64 x.wake, .int .i64 x.on, .string x.held, .string x.got, .int .i64 x.code, .int .i64 x.since] 235)).alloc (.cells #[.int .i64 0, .int .i64 0, .slice none 0 0, .int .i64 0, .int .i64 0, .int .i64 0, .int .i64 0, .int .i64 0, .string ⟨#[]⟩, .string ⟨#[]⟩, .int .i64 0, .int .i64 0] 43)).alloc (.cells #[.int .i64 x.id, .int .i64 x.prio, .slice none 0 0, .int .i64 0, .int .i64 0, .int .i64 0, .int .i64 0, .int .i64 0, .string ⟨#[]⟩, .string ⟨#[]⟩, .int .i64 0, .int .i64 0] 43)).heap[w.heap.size]? = some (.cells #[.int .i64 x.id, .int .i64 x.prio, .slice x.progA x.prog.length x.progC, .int .i64 x.state, .int .i64 x.pc, .int .i64 x.left, .int .i64 x.wake, .int .i64 x.on, .string x.held, .string x.got, .int .i64 x.code, .int .i64 x.since] 235 (0, 0)) ∧ (((w.alloc (.cells #[.int .i64 x.id, .int .i64 x.prio, .slice x.progA x.prog.length x.progC, .int .i64 x.state, .int .i64 x.pc, .int .i64 x.left, .int .i64 x.wake, .int .i64 x.on, .string x.held, .string x.got, .int .i64 x.code, .int .i64 x.since] 235)).alloc (.cells #[.int .i64 0, .int .i64 0, .slice none 0 0, .int .i64 0, .int .i64 0, .int .i64 0, .int .i64 0, .int .i64 0, .string ⟨#[]⟩, .string ⟨#[]⟩, .int .i64 0, .int .i64 0] 43)).alloc (.cells #[.int .i64 x.id, .int .i64 x.prio, .slice none 0 0, .int .i64 0, .int .i64 0, .int .i64 0, .int .i64 0, .int .i64 0, .string ⟨#[]⟩, .string ⟨#[]⟩, .int .i64 0, .int .i64 0] 43)).heap[w.heap.size + 1]? = some (.cells #[.int .i64 0, .int .i64 0, .slice none 0 0, .int .i64 0, .int .i64 0, .int .i64 0, .int .i64 0, .int .i64 0, .string ⟨#[]⟩, .string ⟨#[]⟩, .int .i64 0, .int .i64 0] 43 (0, 0)) ∧ (((w.alloc (.cells #[.int .i64 x.id, .int .i64 x.prio, .slice x.progA x.prog.length x.progC, .int .i64 x.state, .int .i64 x.pc, .int .i64 x.left, .int .i64 x.wake, .int .i64 x.on, .string x.held, .string x.got, .int .i64 x.code, .int .i64 x.since] 235)).alloc (.cells #[.int .i64 0, .int .i64 0, .slice none 0 0, .int .i64 0, .int .i64 0, .int .i64 0, .int .i64 0, .int .i64 0, .string ⟨#[]⟩, .string ⟨#[]⟩, .int .i64 0, .int .i64 0] 43)).alloc (.cells #[.int .i64 x.id, .int .i64 x.prio, .slice none 0 0, .int .i64 0, .int .i64 0, .int .i64 0, .int .i64 0, .int .i64 0, .string ⟨#[]⟩, .string ⟨#[]⟩, .int .i64 0, .int .i64 0] 43)).heap[w.heap.size + 1 + 1]? = some (.cells #[.int .i64 x.id, .int .i64 x.prio, .slice none 0 0, .int .i64 0, .int .i64 0, .int .i64 0, .int .i64 0, .int .i64 0, .string ⟨#[]⟩, .string ⟨#[]⟩, .int .i64 0, .int .i64 0] 43 (0, 0)) ∧ (((w.alloc (.cells #[.int .i64 x.id, .int .i64 x.prio, .slice x.progA x.prog.length x.progC, .int .i64 x.state, .int .i64 x.pc, .int .i64 x.left, .int .i64 x.wake, .int .i64 x.on, .string x.held, .string x.got, .int .i64 x.code, .int .i64 x.since] 235)).alloc (.cells #[.int .i64 0, .int .i64 0, .slice none 0 0, .int .i64 0, .int .i64 0, .int .i64 0, .int .i64 0, .int .i64 0, .string ⟨#[]⟩, .string ⟨#[]⟩, .int .i64 0, .int .i64 0] 43)).alloc (.cells #[.int .i64 x.id, .int .i64 x.prio, .slice none 0 0, .int .i64 0, .int .i64 0, .int .i64 0, .int .i64 0, .int .i64 0, .string ⟨#[]⟩, .string ⟨#[]⟩, .int .i64 0, .int .i64 0] 43)).heap.size = w.heap.size + 1 + 1 + 1) := alloc3_facts _ _ _ _
 clear hl hc
 go_enter Tryz.func192, Tryz.ntmps192
 go_wp2_with fail
 generalize ((w.alloc (.cells #[.int .i64 x.id, .int .i64 x.prio, .slice x.progA x.prog.length x.progC, .int .i64 x.state, .int .i64 x.pc, .int .i64 x.left, .int .i64 x.wake, .int .i64 x.on, .string x.held, .string x.got, .int .i64 x.code, .int .i64 x.since] 235)).alloc (.cells #[.int .i64 0, .int .i64 0, .slice none 0 0, .int .i64 0, .int .i64 0, .int .i64 0, .int .i64 0, .int .i64 0, .string ⟨#[]⟩, .string ⟨#[]⟩, .int .i64 0, .int .i64 0] 43)).alloc (.cells #[.int .i64 x.id, .int .i64 x.prio, .slice none 0 0, .int .i64 0, .int .i64 0, .int .i64 0, .int .i64 0, .int .i64 0, .string ⟨#[]⟩, .string ⟨#[]⟩, .int .i64 0, .int .i64 0] 43) = W at *
 refine (toSOp_l x.progA x.prog x.progC W HC.out.2 HC.out.1).mono ?_
 rintro e w1 ⟨rfl, hown, hb1⟩
 have HM : Hid (procN.Mine w1 W.heap.size (procN.set x (some ⟨W.heap.size, 0, none⟩) x.prog.length) ∧ Below w.heap.size w w1) := ⟨Nest.mine_set (N := procN) hown, HB.out.trans (hb1.mono HB.out.size)⟩
 have y0 : w1.heap[w.heap.size]? = some (.cells #[.int .i64 x.id, .int .i64 x.prio, .slice x.progA x.prog.length x.progC, .int .i64 x.state, .int .i64 x.pc, .int .i64 x.left, .int .i64 x.wake, .int .i64 x.on, .string x.held, .string x.got, .int .i64 x.code, .int .i64 x.since] 235 (0, 0)) := (hb1.block _ (by have := HX.out.2.2.2; omega)).trans HX.out.1
 have y1 : w1.heap[w.heap.size + 1]? = some (.cells #[.int .i64 0, .int .i64 0, .slice none 0 0, .int .i64 0, .int .i64 0, .int .i64 0, .int .i64 0, .int .i64 0, .string ⟨#[]⟩, .string ⟨#[]⟩, .int .i64 0, .int .i64 0] 43 (0, 0)) := (hb1.block _ (by have := HX.out.2.2.2; omega)).trans HX.out.2.1
 have y2 : w1.heap[w.heap.size + 1 + 1]? = some (.cells #[.int .i64 x.id, .int .i64 x.prio, .slice none 0 0, .int .i64 0, .int .i64 0, .int .i64 0, .int .i64 0, .int .i64 0, .string ⟨#[]⟩, .string ⟨#[]⟩, .int .i64 0, .int .i64 0] 43 (0, 0)) := (hb1.block _ (by have := HX.out.2.2.2; omega)).trans HX.out.2.2.1
 have t0 : w1.cell? ⟨w.heap.size + 1 + 1, 0, none⟩ = some (.int .i64 x.id) := by simp [World.cell?, y2]
 have u0 : w1.frozen? ⟨w.heap.size + 1 + 1, 0, none⟩ = false := by simp [World.frozen?, y2]
 have t1 : w1.cell? ⟨w.heap.size + 1 + 1, 1, none⟩ = some (.int .i64 x.prio) := by simp [World.cell?, y2]
 have u1 : w1.frozen? ⟨w.heap.size + 1 + 1, 1, none⟩ = false := by simp [World.frozen?, y2]
 have t2 : w1.cell? ⟨w.heap.size + 1 + 1, 2, none⟩ = some (.slice none 0 0) := by simp [World.cell?, y2]
 have u2 : w1.frozen? ⟨w.heap.size + 1 + 1, 2, none⟩ = false := by simp [World.frozen?, y2]
 have s3 : w1.cell? ⟨w.heap.size, 3, none⟩ = some (.int .i64 x.state) := by simp [World.cell?, y0]
 have t3 : w1.cell? ⟨w.heap.size + 1 + 1, 3, none⟩ = some (.int .i64 0) := by simp [World.cell?, y2]
 have u3 : w1.frozen? ⟨w.heap.size + 1 + 1, 3, none⟩ = false := by simp [World.frozen?, y2]
 have s4 : w1.cell? ⟨w.heap.size, 4, none⟩ = some (.int .i64 x.pc) := by simp [World.cell?, y0]
 have t4 : w1.cell? ⟨w.heap.size + 1 + 1, 4, none⟩ = some (.int .i64 0) := by simp [World.cell?, y2]
 have u4 : w1.frozen? ⟨w.heap.size + 1 + 1, 4, none⟩ = false := by simp [World.frozen?, y2]
 have s5 : w1.cell? ⟨w.heap.size, 5, none⟩ = some (.int .i64 x.left) := by simp [World.cell?, y0]
 have t5 : w1.cell? ⟨w.heap.size + 1 + 1, 5, none⟩ = some (.int .i64 0) := by simp [World.cell?, y2]
 have u5 : w1.frozen? ⟨w.heap.size + 1 + 1, 5, none⟩ = false := by simp [World.frozen?, y2]
 have s6 : w1.cell? ⟨w.heap.size, 6, none⟩ = some (.int .i64 x.wake) := by simp [World.cell?, y0]
 have t6 : w1.cell? ⟨w.heap.size + 1 + 1, 6, none⟩ = some (.int .i64 0) := by simp [World.cell?, y2]
 have u6 : w1.frozen? ⟨w.heap.size + 1 + 1, 6, none⟩ = false := by simp [World.frozen?, y2]
 have s7 : w1.cell? ⟨w.heap.size, 7, none⟩ = some (.int .i64 x.on) := by simp [World.cell?, y0]
 have t7 : w1.cell? ⟨w.heap.size + 1 + 1, 7, none⟩ = some (.int .i64 0) := by simp [World.cell?, y2]
 have u7 : w1.frozen? ⟨w.heap.size + 1 + 1, 7, none⟩ = false := by simp [World.frozen?, y2]
 have s8 : w1.cell? ⟨w.heap.size, 8, none⟩ = some (.string x.held) := by simp [World.cell?, y0]
 have t8 : w1.cell? ⟨w.heap.size + 1 + 1, 8, none⟩ = some (.string ⟨#[]⟩) := by simp [World.cell?, y2]
 have u8 : w1.frozen? ⟨w.heap.size + 1 + 1, 8, none⟩ = false := by simp [World.frozen?, y2]
 have s9 : w1.cell? ⟨w.heap.size, 9, none⟩ = some (.string x.got) := by simp [World.cell?, y0]
 have t9 : w1.cell? ⟨w.heap.size + 1 + 1, 9, none⟩ = some (.string ⟨#[]⟩) := by simp [World.cell?, y2]
 have u9 : w1.frozen? ⟨w.heap.size + 1 + 1, 9, none⟩ = false := by simp [World.frozen?, y2]
 have s10 : w1.cell? ⟨w.heap.size, 10, none⟩ = some (.int .i64 x.code) := by simp [World.cell?, y0]
 have t10 : w1.cell? ⟨w.heap.size + 1 + 1, 10, none⟩ = some (.int .i64 0) := by simp [World.cell?, y2]
 have u10 : w1.frozen? ⟨w.heap.size + 1 + 1, 10, none⟩ = false := by simp [World.frozen?, y2]
 have s11 : w1.cell? ⟨w.heap.size, 11, none⟩ = some (.int .i64 x.since) := by simp [World.cell?, y0]
 have t11 : w1.cell? ⟨w.heap.size + 1 + 1, 11, none⟩ = some (.int .i64 0) := by simp [World.cell?, y2]
 have u11 : w1.frozen? ⟨w.heap.size + 1 + 1, 11, none⟩ = false := by simp [World.frozen?, y2]
 have h5 := setAllW_heap (off := 2) [.slice (some ⟨W.heap.size, 0, none⟩) x.prog.length x.prog.length, .int .i64 x.state, .int .i64 x.pc, .int .i64 x.left, .int .i64 x.wake, .int .i64 x.on, .string x.held, .string x.got, .int .i64 x.code, .int .i64 x.since] y2
 have h6 := (setAllW_other (off := 2) [.slice (some ⟨W.heap.size, 0, none⟩) x.prog.length x.prog.length, .int .i64 x.state, .int .i64 x.pc, .int .i64 x.left, .int .i64 x.wake, .int .i64 x.on, .string x.held, .string x.got, .int .i64 x.code, .int .i64 x.since] (w := w1) (g := w.heap.size + 1 + 1) (k := w.heap.size + 1) (by omega)).trans y1
 have h7 : Below w.heap.size w (setAllW w1 (w.heap.size + 1 + 1) 2 [.slice (some ⟨W.heap.size, 0, none⟩) x.prog.length x.prog.length, .int .i64 x.state, .int .i64 x.pc, .int .i64 x.left, .int .i64 x.wake, .int .i64 x.on, .string x.held, .string x.got, .int .i64 x.code, .int .i64 x.since]) := setAllW_below _ (by omega) HM.out.2
 have h8 : procN.Mine (setAllW w1 (w.heap.size + 1 + 1) 2 [.slice (some ⟨W.heap.size, 0, none⟩) x.prog.length x.prog.length, .int .i64 x.state, .int .i64 x.pc, .int .i64 x.left, .int .i64 x.wake, .int .i64 x.on, .string x.held, .string x.got, .int .i64 x.code, .int .i64 x.since]) (w.heap.size + 1) (procN.set x (some ⟨W.heap.size, 0, none⟩) x.prog.length) := (HM.out.1.low (by have := HX.out.2.2.2; omega)).same fun g hg => by
  have := (HM.out.1.lt hg).1
  have := HX.out.2.2.2
  exact setAllW_other _ (by omega)
 simp only [setAllW, Nat.reduceAdd] at h5 h6 h7 h8
 have H5 : Hid (((((((((((w1.setCell ⟨w.heap.size + 1 + 1, 2, none⟩ (.slice (some ⟨W.heap.size, 0, none⟩) x.prog.length x.prog.length)).setCell ⟨w.heap.size + 1 + 1, 3, none⟩ (.int .i64 x.state)).setCell ⟨w.heap.size + 1 + 1, 4, none⟩ (.int .i64 x.pc)).setCell ⟨w.heap.size + 1 + 1, 5, none⟩ (.int .i64 x.left)).setCell ⟨w.heap.size + 1 + 1, 6, none⟩ (.int .i64 x.wake)).setCell ⟨w.heap.size + 1 + 1, 7, none⟩ (.int .i64 x.on)).setCell ⟨w.heap.size + 1 + 1, 8, none⟩ (.string x.held)).setCell ⟨w.heap.size + 1 + 1, 9, none⟩ (.string x.got)).setCell ⟨w.heap.size + 1 + 1, 10, none⟩ (.int .i64 x.code)).setCell ⟨w.heap.size + 1 + 1, 11, none⟩ (.int .i64 x.since)).heap[w.heap.size + 1 + 1]? = some (.cells #[.int .i64 x.id, .int .i64 x.prio, .slice (some ⟨W.heap.size, 0, none⟩) x.prog.length x.prog.length, .int .i64 x.state, .int .i64 x.pc, .int .i64 x.left, .int .i64 x.wake, .int .i64 x.on, .string x.held, .string x.got, .int .i64 x.code, .int .i64 x.since] 43 (0, 0))) := h5.trans (by simp [setAll])
 have H6 : Hid (((((((((((w1.setCell ⟨w.heap.size + 1 + 1, 2, none⟩ (.slice (some ⟨W.heap.size, 0, none⟩) x.prog.length x.prog.length)).setCell ⟨w.heap.size + 1 + 1, 3, none⟩ (.int .i64 x.state)).setCell ⟨w.heap.size + 1 + 1, 4, none⟩ (.int .i64 x.pc)).setCell ⟨w.heap.size + 1 + 1, 5, none⟩ (.int .i64 x.left)).setCell ⟨w.heap.size + 1 + 1, 6, none⟩ (.int .i64 x.wake)).setCell ⟨w.heap.size + 1 + 1, 7, none⟩ (.int .i64 x.on)).setCell ⟨w.heap.size + 1 + 1, 8, none⟩ (.string x.held)).setCell ⟨w.heap.size + 1 + 1, 9, none⟩ (.string x.got)).setCell ⟨w.heap.size + 1 + 1, 10, none⟩ (.int .i64 x.code)).setCell ⟨w.heap.size + 1 + 1, 11, none⟩ (.int .i64 x.since)).heap[w.heap.size + 1]? = some (.cells #[.int .i64 0, .int .i64 0, .slice none 0 0, .int .i64 0, .int .i64 0, .int .i64 0, .int .i64 0, .int .i64 0, .string ⟨#[]⟩, .string ⟨#[]⟩, .int .i64 0, .int .i64 0] 43 (0, 0))) := h6
 have H7 : Hid (Below w.heap.size w ((((((((((w1.setCell ⟨w.heap.size + 1 + 1, 2, none⟩ (.slice (some ⟨W.heap.size, 0, none⟩) x.prog.length x.prog.length)).setCell ⟨w.heap.size + 1 + 1, 3, none⟩ (.int .i64 x.state)).setCell ⟨w.heap.size + 1 + 1, 4, none⟩ (.int .i64 x.pc)).setCell ⟨w.heap.size + 1 + 1, 5, none⟩ (.int .i64 x.left)).setCell ⟨w.heap.size + 1 + 1, 6, none⟩ (.int .i64 x.wake)).setCell ⟨w.heap.size + 1 + 1, 7, none⟩ (.int .i64 x.on)).setCell ⟨w.heap.size + 1 + 1, 8, none⟩ (.string x.held)).setCell ⟨w.heap.size + 1 + 1, 9, none⟩ (.string x.got)).setCell ⟨w.heap.size + 1 + 1, 10, none⟩ (.int .i64 x.code)).setCell ⟨w.heap.size + 1 + 1, 11, none⟩ (.int .i64 x.since)) ∧ procN.Mine ((((((((((w1.setCell ⟨w.heap.size + 1 + 1, 2, none⟩ (.slice (some ⟨W.heap.size, 0, none⟩) x.prog.length x.prog.length)).setCell ⟨w.heap.size + 1 + 1, 3, none⟩ (.int .i64 x.state)).setCell ⟨w.heap.size + 1 + 1, 4, none⟩ (.int .i64 x.pc)).setCell ⟨w.heap.size + 1 + 1, 5, none⟩ (.int .i64 x.left)).setCell ⟨w.heap.size + 1 + 1, 6, none⟩ (.int .i64 x.wake)).setCell ⟨w.heap.size + 1 + 1, 7, none⟩ (.int .i64 x.on)).setCell ⟨w.heap.size + 1 + 1, 8, none⟩ (.string x.held)).setCell ⟨w.heap.size + 1 + 1, 9, none⟩ (.string x.got)).setCell ⟨w.heap.size + 1 + 1, 10, none⟩ (.int .i64 x.code)).setCell ⟨w.heap.size + 1 + 1, 11, none⟩ (.int .i64 x.since)) (w.heap.size + 1) (procN.set x (some ⟨W.heap.size, 0, none⟩) x.prog.length)) := ⟨h7, h8⟩
 clear y0 y1 y2 hb1 hown h5 h6 h7 h8
 dsimp only
 repeat (first | (go_big_may; refine wpList_store_mid rfl 43 (Operand.tmp 2) (Operand.tmp 41) rfl (w.heap.size + 1) 0 #[.int .i64 x.id, .int .i64 x.prio, .slice (some ⟨W.heap.size, 0, none⟩) x.prog.length x.prog.length, .int .i64 x.state, .int .i64 x.pc, .int .i64 x.left, .int .i64 x.wake, .int .i64 x.on, .string x.held, .string x.got, .int .i64 x.code, .int .i64 x.since] rfl rfl ?ht ?hi ?h1 ?_) | go_values | go_skip | go_guarded | go_step | go_upon | go_back)
 case ht => exact there_of H6.out (Nat.le_refl _)
 case hi => (show _ = some 12; kernel_rfl)
 case h1 => simp [Value.oneCell']
 generalize ((((((((((w1.setCell ⟨w.heap.size + 1 + 1, 2, none⟩ (.slice (some ⟨W.heap.size, 0, none⟩) x.prog.length x.prog.length)).setCell ⟨w.heap.size + 1 + 1, 3, none⟩ (.int .i64 x.state)).setCell ⟨w.heap.size + 1 + 1, 4, none⟩ (.int .i64 x.pc)).setCell ⟨w.heap.size + 1 + 1, 5, none⟩ (.int .i64 x.left)).setCell ⟨w.heap.size + 1 + 1, 6, none⟩ (.int .i64 x.wake)).setCell ⟨w.heap.size + 1 + 1, 7, none⟩ (.int .i64 x.on)).setCell ⟨w.heap.size + 1 + 1, 8, none⟩ (.string x.held)).setCell ⟨w.heap.size + 1 + 1, 9, none⟩ (.string x.got)).setCell ⟨w.heap.size + 1 + 1, 10, none⟩ (.int .i64 x.code)).setCell ⟨w.heap.size + 1 + 1, 11, none⟩ (.int .i64 x.since)) = WZ at *
 repeat (first | go_values | go_skip | go_guarded | go_step | go_upon)
 have h9 : (WZ.setCells (w.heap.size + 1) 0 [.int .i64 x.id, .int .i64 x.prio, .slice (some ⟨W.heap.size, 0, none⟩) x.prog.length x.prog.length, .int .i64 x.state, .int .i64 x.pc, .int .i64 x.left, .int .i64 x.wake, .int .i64 x.on, .string x.held, .string x.got, .int .i64 x.code, .int .i64 x.since]).heap[w.heap.size + 1]? = some (.cells #[.int .i64 x.id, .int .i64 x.prio, .slice (some ⟨W.heap.size, 0, none⟩) x.prog.length x.prog.length, .int .i64 x.state, .int .i64 x.pc, .int .i64 x.left, .int .i64 x.wake, .int .i64 x.on, .string x.held, .string x.got, .int .i64 x.code, .int .i64 x.since] 43 (0, 0)) := by rw [setCells_is]; exact setAllW_full H6.out rfl
 refine bodyPost_ret (v := .agg #[.int .i64 x.id, .int .i64 x.prio, .slice (some ⟨W.heap.size, 0, none⟩) x.prog.length x.prog.length, .int .i64 x.state, .int .i64 x.pc, .int .i64 x.left, .int .i64 x.wake, .int .i64 x.on, .string x.held, .string x.got, .int .i64 x.code, .int .i64 x.since]) (results_cell_row Tryz.results192 _ _ (w.heap.size + 1) _ _ (0, 0) _ rfl h9 Tryz.underlying43 rfl (by kernel_rfl)) rfl ?_
 refine ⟨some ⟨W.heap.size, 0, none⟩, x.prog.length, rfl, ?_, ?_⟩
 ·rw [setCells_is]
  exact H7.out.2.same fun g hg => setAllW_other _ (by have := (HM.out.1.lt hg).1; have := HX.out.2.2.2; omega)
 ·rw [setCells_is]
  exact setAllW_below _ (by omega) H7.out.1


theorem infoProc : (Tryz.prog.info? 43).map (fun i => (i.zero, i.size, decide (i.bytes ≤ 1000))) = some (some (.agg #[.int .i64 0, .int .i64 0, .slice none 0 0, .int .i64 0, .int .i64 0, .int .i64 0, .int .i64 0, .int .i64 0, .string ⟨#[]⟩, .string ⟨#[]⟩, .int .i64 0, .int .i64 0]), 12, true) := by kernel_rfl
theorem makeProc (n : Nat) (hn : n ≤ 1048576) (w : World) :
  (Instr.makeSlice 25 (.int .i64 (n : Int)) (.int .i64 (n : Int))).run Tryz.prog w = .ok (.slice (some ⟨w.heap.size, 0, none⟩) n n) (w.alloc (.cells (madeCells #[.int .i64 0, .int .i64 0, .slice none 0 0, .int .i64 0, .int .i64 0, .int .i64 0, .int .i64 0, .int .i64 0, .string ⟨#[]⟩, .string ⟨#[]⟩, .int .i64 0, .int .i64 0] (n * 12)) 43)) := by
 obtain ⟨i, hi, e⟩ := Option.map_eq_some_iff.1 infoProc
 simp only [Prod.mk.injEq, decide_eq_true_eq] at e
 obtain ⟨e1, e2, e3⟩ := e
 have hby : n * i.bytes ≤ 1048576 * 1000 := Nat.mul_le_mul hn e3
 have := run_make (P := Tryz.prog) w 25 43 i _ Tryz.underlying25 hi e1 .i64 .i64 n n (by omega) (by omega) (by rw [Nat.mul_comm] at hby; first | omega | (rw [Nat.mul_comm]; omega)) (by omega)
 rw [this, e2]
 simp [Value.cells]

set_option maxRecDepth 100000 in
set_option maxHeartbeats 4000000 in
theorem toSProc_l (a : Option Addr) (l : List ProcD) (cap : Nat) (w : World) (hl : l.length ≤ 1048576) (hk : ∀ x ∈ l, x.prog.length ≤ 1048576) (hc : procK.Came w a l) :
  Calls Tryz.prog 113 #[.slice a l.length cap] w fun e w' => e = .returned (.slice (some ⟨w.heap.size, 0, none⟩) l.length l.length) ∧ ∃ out, CopyIs procN procK w w' l.length l out := by
 have hmk := makeProc l.length hl
 have HC : Hid (procK.Came w a l) := hc
 have HKL : Hid (∀ x ∈ l, x.prog.length ≤ 1048576) := hk
 clear hk
 have HF : Hid (Fill procK 43 w (w.alloc (.cells (madeCells #[.int .i64 0, .int .i64 0, .slice none 0 0, .int .i64 0, .int .i64 0, .int .i64 0, .int .i64 0, .int .i64 0, .string ⟨#[]⟩, .string ⟨#[]⟩, .int .i64 0, .int .i64 0] (l.length * 12)) 43)) l.length []) := Fill.start (by rw [size_madeCells]; rfl)
 clear hc
 go_enter Tryz.func113, Tryz.ntmps113
 go_wp2_with fail
 go_loopw [4] (fun i wr => ∃ k : Nat, k ≤ l.length ∧ i = .int .i64 k ∧ ∃ out, Hid (FillN procN procK w wr l out k)) (fun i _ => l.length - (intOf i).toNat)
 case atStart => exact ⟨0, Nat.zero_le _, rfl, [], FillN.start HF.out⟩
 case round =>
  clear hmk HF
  obtain ⟨k, hk, rfl, out, HR⟩ := hrel
  by_cases hlt : k < l.length
  ·have i0 : (0 : Int) ≤ (k : Int) := by omega
   have i1 : (k : Int) < (l.length : Int) := by omega
   obtain ⟨x, hx⟩ : ∃ x, l[k]? = some x := ⟨_, List.getElem?_eq_getElem hlt⟩
   obtain ⟨b, off, rfl, hat⟩ := (HC.out.below HR.out.fill.bel).at hx
   have c0 : wr.cell? ⟨b, off + k * 12, none⟩ = some (.int .i64 x.id) := hat 0 _ rfl
   have c1 : wr.cell? ⟨b, off + k * 12 + 1, none⟩ = some (.int .i64 x.prio) := hat 1 _ rfl
   have c2 : wr.cell? ⟨b, off + k * 12 + 2, none⟩ = some (.slice x.progA x.prog.length x.progC) := hat 2 _ rfl
   have c3 : wr.cell? ⟨b, off + k * 12 + 3, none⟩ = some (.int .i64 x.state) := hat 3 _ rfl
   have c4 : wr.cell? ⟨b, off + k * 12 + 4, none⟩ = some (.int .i64 x.pc) := hat 4 _ rfl
   have c5 : wr.cell? ⟨b, off + k * 12 + 5, none⟩ = some (.int .i64 x.left) := hat 5 _ rfl
   have c6 : wr.cell? ⟨b, off + k * 12 + 6, none⟩ = some (.int .i64 x.wake) := hat 6 _ rfl
   have c7 : wr.cell? ⟨b, off + k * 12 + 7, none⟩ = some (.int .i64 x.on) := hat 7 _ rfl
   have c8 : wr.cell? ⟨b, off + k * 12 + 8, none⟩ = some (.string x.held) := hat 8 _ rfl
   have c9 : wr.cell? ⟨b, off + k * 12 + 9, none⟩ = some (.string x.got) := hat 9 _ rfl
   have c10 : wr.cell? ⟨b, off + k * 12 + 10, none⟩ = some (.int .i64 x.code) := hat 10 _ rfl
   have c11 : wr.cell? ⟨b, off + k * 12 + 11, none⟩ = some (.int .i64 x.since) := hat 11 _ rfl
   have HX : Hid (l[k]? = some x) := hx
   have HK : Hid (opK.Came wr x.progA x.prog ∧ x.prog.length ≤ 1048576) := ⟨⟨((HC.out.below HR.out.fill.bel).kid hx (r := (x.progA, opK.flat x.prog)) (by simp [procK])), fun y _ r hr => by simp [opK] at hr⟩, HKL.out x (List.mem_of_getElem? hx)⟩
   have hfl := HR.out.fill.lt
   clear hx hat
   go_wp2_with fail
   refine (toProc_l x wr HK.out.2 HK.out.1).mono ?_
   rintro e w1 ⟨a1, cp1, rfl, hmine, hb1⟩
   have HR1 : Hid (FillN procN procK w w1 l out k) := HR.out.below hb1
   have HB1 : Hid (wr.heap.size ≤ w1.heap.size) := hb1.size
   obtain ⟨⟨u, hu⟩, hf⟩ := HR1.out.fill.at
   have d0 := hu (k * 12) (by show k * 12 < l.length * 12; omega)
   have f0 := hf (k * 12)
   have d1 := hu (k * 12 + 1) (by show k * 12 + 1 < l.length * 12; omega)
   have f1 := hf (k * 12 + 1)
   have d2 := hu (k * 12 + 2) (by show k * 12 + 2 < l.length * 12; omega)
   have f2 := hf (k * 12 + 2)
   have d3 := hu (k * 12 + 3) (by show k * 12 + 3 < l.length * 12; omega)
   have f3 := hf (k * 12 + 3)
   have d4 := hu (k * 12 + 4) (by show k * 12 + 4 < l.length * 12; omega)
   have f4 := hf (k * 12 + 4)
   have d5 := hu (k * 12 + 5) (by show k * 12 + 5 < l.length * 12; omega)
   have f5 := hf (k * 12 + 5)
   have d6 := hu (k * 12 + 6) (by show k * 12 + 6 < l.length * 12; omega)
   have f6 := hf (k * 12 + 6)
   have d7 := hu (k * 12 + 7) (by show k * 12 + 7 < l.length * 12; omega)
   have f7 := hf (k * 12 + 7)
   have d8 := hu (k * 12 + 8) (by show k * 12 + 8 < l.length * 12; omega)
   have f8 := hf (k * 12 + 8)
   have d9 := hu (k * 12 + 9) (by show k * 12 + 9 < l.length * 12; omega)
   have f9 := hf (k * 12 + 9)
   have d10 := hu (k * 12 + 10) (by show k * 12 + 10 < l.length * 12; omega)
   have f10 := hf (k * 12 + 10)
   have d11 := hu (k * 12 + 11) (by show k * 12 + 11 < l.length * 12; omega)
   have f11 := hf (k * 12 + 11)
   have h5 := HR1.out.more hlt HX.out (hmine.low (by have := hfl; omega)) (fun g hg => by have := (hmine.lt hg).1; omega) HR.out
   rw [show procK.vals (procN.set x a1 cp1) = [.int .i64 x.id, .int .i64 x.prio, .slice a1 x.prog.length cp1, .int .i64 x.state, .int .i64 x.pc, .int .i64 x.left, .int .i64 x.wake, .int .i64 x.on, .string x.held, .string x.got, .int .i64 x.code, .int .i64 x.since] from rfl, show procK.n = 12 from rfl] at h5
   simp only [setAllW, Nat.add_assoc, Nat.reduceAdd] at h5
   have HS : Hid (FillN procN procK w ((((((((((((w1.setCell ⟨w.heap.size, k * 12, none⟩ (.int .i64 x.id)).setCell ⟨w.heap.size, k * 12 + 1, none⟩ (.int .i64 x.prio)).setCell ⟨w.heap.size, k * 12 + 2, none⟩ (.slice a1 x.prog.length cp1)).setCell ⟨w.heap.size, k * 12 + 3, none⟩ (.int .i64 x.state)).setCell ⟨w.heap.size, k * 12 + 4, none⟩ (.int .i64 x.pc)).setCell ⟨w.heap.size, k * 12 + 5, none⟩ (.int .i64 x.left)).setCell ⟨w.heap.size, k * 12 + 6, none⟩ (.int .i64 x.wake)).setCell ⟨w.heap.size, k * 12 + 7, none⟩ (.int .i64 x.on)).setCell ⟨w.heap.size, k * 12 + 8, none⟩ (.string x.held)).setCell ⟨w.heap.size, k * 12 + 9, none⟩ (.string x.got)).setCell ⟨w.heap.size, k * 12 + 10, none⟩ (.int .i64 x.code)).setCell ⟨w.heap.size, k * 12 + 11, none⟩ (.int .i64 x.since)) l (out ++ [procN.set x a1 cp1]) (k + 1)) := h5
   clear h5
   unfold procVs
   clear hu hf hb1 HR HR1 hmine c0 c1 c2 c3 c4 c5 c6 c7 c8 c9 c10 c11
   go_wp2
   go_roundw
   case rel => exact ⟨k + 1, by omega, by go_num, _, HS.out⟩
   case measure => simp [intOf]; omega
  ·have i1 : ¬ (k : Int) < (l.length : Int) := by omega
   have ek : k = l.length := by omega
   subst ek
   go_wp2
   go_ret
   exact ⟨rfl, out, HR.out.done (by unfold maxLen; omega)⟩

set_option maxRecDepth 100000 in
set_option maxHeartbeats 4000000 in
theorem eqProc_l (x y : ProcD) (w : World) (hp : y.toProcP = x.toProcP) (hl : x.prog.length ≤ 1048576) (hx : Row w x.progA (opK.flat x.prog)) (hy : Row w y.progA (opK.flat y.prog)) :
  Calls Tryz.prog 73 #[.agg #[.int .i64 x.id, .int .i64 x.prio, .slice x.progA x.prog.length x.progC, .int .i64 x.state, .int .i64 x.pc, .int .i64 x.left, .int .i64 x.wake, .int .i64 x.on, .string x.held, .string x.got, .int .i64 x.code, .int .i64 x.since], .agg #[.int .i64 y.id, .int .i64 y.prio, .slice y.progA y.prog.length y.progC, .int .i64 y.state, .int .i64 y.pc, .int .i64 y.left, .int .i64 y.wake, .int .i64 y.on, .string y.held, .string y.got, .int .i64 y.code, .int .i64 y.since]] w fun e w' => e = .returned (.bool true) ∧ Below w.heap.size w w' := by
 obtain ⟨p, xa, xc⟩ := x
 obtain ⟨p', ya, yc⟩ := y
 simp only at hp
 subst hp
 obtain ⟨v0, v1, v2, v3, v4, v5, v6, v7, v8, v9, v10, v11⟩ := p'
 simp only at hl hx hy
 have HB : Hid (Below w.heap.size w ((w.alloc (.cells #[.int .i64 v0, .int .i64 v1, .slice xa v2.length xc, .int .i64 v3, .int .i64 v4, .int .i64 v5, .int .i64 v6, .int .i64 v7, .string v8, .string v9, .int .i64 v10, .int .i64 v11] 43)).alloc (.cells #[.int .i64 v0, .int .i64 v1, .slice ya v2.length yc, .int .i64 v3, .int .i64 v4, .int .i64 v5, .int .i64 v6, .int .i64 v7, .string v8, .string v9, .int .i64 v10, .int .i64 v11] 43))) := alloc2_below _ _ _
 have HR : Hid (Row ((w.alloc (.cells #[.int .i64 v0, .int .i64 v1, .slice xa v2.length xc, .int .i64 v3, .int .i64 v4, .int .i64 v5, .int .i64 v6, .int .i64 v7, .string v8, .string v9, .int .i64 v10, .int .i64 v11] 43)).alloc (.cells #[.int .i64 v0, .int .i64 v1, .slice ya v2.length yc, .int .i64 v3, .int .i64 v4, .int .i64 v5, .int .i64 v6, .int .i64 v7, .string v8, .string v9, .int .i64 v10, .int .i64 v11] 43)) xa (opK.flat v2) ∧ Row ((w.alloc (.cells #[.int .i64 v0, .int .i64 v1, .slice xa v2.length xc, .int .i64 v3, .int .i64 v4, .int .i64 v5, .int .i64 v6, .int .i64 v7, .string v8, .string v9, .int .i64 v10, .int .i64 v11] 43)).alloc (.cells #[.int .i64 v0, .int .i64 v1, .slice ya v2.length yc, .int .i64 v3, .int .i64 v4, .int .i64 v5, .int .i64 v6, .int .i64 v7, .string v8, .string v9, .int .i64 v10, .int .i64 v11] 43)) ya (opK.flat v2) ∧ v2.length ≤ 1048576) := ⟨hx.below HB.out, hy.below HB.out, hl⟩
 have HX : Hid (((w.alloc (.cells #[.int .i64 v0, .int .i64 v1, .slice xa v2.length xc, .int .i64 v3, .int .i64 v4, .int .i64 v5, .int .i64 v6, .int .i64 v7, .string v8, .string v9, .int .i64 v10, .int .i64 v11] 43)).alloc (.cells #[.int .i64 v0, .int .i64 v1, .slice ya v2.length yc, .int .i64 v3, .int .i64 v4, .int .i64 v5, .int .i64 v6, .int .i64 v7, .string v8, .string v9, .int .i64 v10, .int .i64 v11] 43)).heap[w.heap.size]? = some (.cells #[.int .i64 v0, .int .i64 v1, .slice xa v2.length xc, .int .i64 v3, .int .i64 v4, .int .i64 v5, .int .i64 v6, .int .i64 v7, .string v8, .string v9, .int .i64 v10, .int .i64 v11] 43 (0, 0)) ∧ ((w.alloc (.cells #[.int .i64 v0, .int .i64 v1, .slice xa v2.length xc, .int .i64 v3, .int .i64 v4, .int .i64 v5, .int .i64 v6, .int .i64 v7, .string v8, .string v9, .int .i64 v10, .int .i64 v11] 43)).alloc (.cells #[.int .i64 v0, .int .i64 v1, .slice ya v2.length yc, .int .i64 v3, .int .i64 v4, .int .i64 v5, .int .i64 v6, .int .i64 v7, .string v8, .string v9, .int .i64 v10, .int .i64 v11] 43)).heap[w.heap.size + 1]? = some (.cells #[.int .i64 v0, .int .i64 v1, .slice ya v2.length yc, .int .i64 v3, .int .i64 v4, .int .i64 v5, .int .i64 v6, .int .i64 v7, .string v8, .string v9, .int .i64 v10, .int .i64 v11] 43 (0, 0))) := alloc2_facts _ _ _
 clear hx hy hl
 go_enter Tryz.func73, Tryz.ntmps73
 go_wp2_with fail
 generalize (w.alloc (.cells #[.int .i64 v0, .int .i64 v1, .slice xa v2.length xc, .int .i64 v3, .int .i64 v4, .int .i64 v5, .int .i64 v6, .int .i64 v7, .string v8, .string v9, .int .i64 v10, .int .i64 v11] 43)).alloc (.cells #[.int .i64 v0, .int .i64 v1, .slice ya v2.length yc, .int .i64 v3, .int .i64 v4, .int .i64 v5, .int .i64 v6, .int .i64 v7, .string v8, .string v9, .int .i64 v10, .int .i64 v11] 43) = W at *
 refine (eqSOp_l xa ya v2 xc yc W HR.out.2.2 ⟨HR.out.1, fun _ _ r hr => by simp [opK] at hr⟩ ⟨HR.out.2.1, fun _ _ r hr => by simp [opK] at hr⟩).mono ?_
 rintro e w1 ⟨rfl, hb1⟩
 have HB1 : Hid (Below w.heap.size w w1) := HB.out.trans (hb1.mono HB.out.size)
 have x0 := (hb1.block _ (Array.getElem?_eq_some_iff.1 HX.out.1).1).trans HX.out.1
 have x1 := (hb1.block _ (Array.getElem?_eq_some_iff.1 HX.out.2).1).trans HX.out.2
 have a3 : w1.cell? ⟨w.heap.size, 3, none⟩ = some (.int .i64 v3) := by simp [World.cell?, x0]
 have b3 : w1.cell? ⟨w.heap.size + 1, 3, none⟩ = some (.int .i64 v3) := by simp [World.cell?, x1]
 have a4 : w1.cell? ⟨w.heap.size, 4, none⟩ = some (.int .i64 v4) := by simp [World.cell?, x0]
 have b4 : w1.cell? ⟨w.heap.size + 1, 4, none⟩ = some (.int .i64 v4) := by simp [World.cell?, x1]
 have a5 : w1.cell? ⟨w.heap.size, 5, none⟩ = some (.int .i64 v5) := by simp [World.cell?, x0]
 have b5 : w1.cell? ⟨w.heap.size + 1, 5, none⟩ = some (.int .i64 v5) := by simp [World.cell?, x1]
 have a6 : w1.cell? ⟨w.heap.size, 6, none⟩ = some (.int .i64 v6) := by simp [World.cell?, x0]
 have b6 : w1.cell? ⟨w.heap.size + 1, 6, none⟩ = some (.int .i64 v6) := by simp [World.cell?, x1]
 have a7 : w1.cell? ⟨w.heap.size, 7, none⟩ = some (.int .i64 v7) := by simp [World.cell?, x0]
 have b7 : w1.cell? ⟨w.heap.size + 1, 7, none⟩ = some (.int .i64 v7) := by simp [World.cell?, x1]
 have a8 : w1.cell? ⟨w.heap.size, 8, none⟩ = some (.string v8) := by simp [World.cell?, x0]
 have b8 : w1.cell? ⟨w.heap.size + 1, 8, none⟩ = some (.string v8) := by simp [World.cell?, x1]
 have a9 : w1.cell? ⟨w.heap.size, 9, none⟩ = some (.string v9) := by simp [World.cell?, x0]
 have b9 : w1.cell? ⟨w.heap.size + 1, 9, none⟩ = some (.string v9) := by simp [World.cell?, x1]
 have a10 : w1.cell? ⟨w.heap.size, 10, none⟩ = some (.int .i64 v10) := by simp [World.cell?, x0]
 have b10 : w1.cell? ⟨w.heap.size + 1, 10, none⟩ = some (.int .i64 v10) := by simp [World.cell?, x1]
 have a11 : w1.cell? ⟨w.heap.size, 11, none⟩ = some (.int .i64 v11) := by simp [World.cell?, x0]
 have b11 : w1.cell? ⟨w.heap.size + 1, 11, none⟩ = some (.int .i64 v11) := by simp [World.cell?, x1]
 clear hb1 HX HR x0 x1
 go_wp2
 go_ret
 exact ⟨rfl, HB1.out⟩

def EqSProc (w : World) (a a' : Option Addr) (l l' : List ProcD) (x y : ProcD) (g g' k : Nat) (w' : World) : Prop := ((w'.cell? ⟨g, k * 12, none⟩ = some (.int .i64 x.id) ∧ w'.cell? ⟨g, k * 12 + 1, none⟩ = some (.int .i64 x.prio) ∧ w'.cell? ⟨g, k * 12 + 2, none⟩ = some (.slice x.progA x.prog.length x.progC) ∧ w'.cell? ⟨g, k * 12 + 3, none⟩ = some (.int .i64 x.state) ∧ w'.cell? ⟨g, k * 12 + 4, none⟩ = some (.int .i64 x.pc) ∧ w'.cell? ⟨g, k * 12 + 5, none⟩ = some (.int .i64 x.left) ∧ w'.cell? ⟨g, k * 12 + 6, none⟩ = some (.int .i64 x.wake) ∧ w'.cell? ⟨g, k * 12 + 7, none⟩ = some (.int .i64 x.on) ∧ w'.cell? ⟨g, k * 12 + 8, none⟩ = some (.string x.held) ∧ w'.cell? ⟨g, k * 12 + 9, none⟩ = some (.string x.got) ∧ w'.cell? ⟨g, k * 12 + 10, none⟩ = some (.int .i64 x.code) ∧ w'.cell? ⟨g, k * 12 + 11, none⟩ = some (.int .i64 x.since)) ∧ (w'.cell? ⟨g', k * 12, none⟩ = some (.int .i64 y.id) ∧ w'.cell? ⟨g', k * 12 + 1, none⟩ = some (.int .i64 y.prio) ∧ w'.cell? ⟨g', k * 12 + 2, none⟩ = some (.slice y.progA y.prog.length y.progC) ∧ w'.cell? ⟨g', k * 12 + 3, none⟩ = some (.int .i64 y.state) ∧ w'.cell? ⟨g', k * 12 + 4, none⟩ = some (.int .i64 y.pc) ∧ w'.cell? ⟨g', k * 12 + 5, none⟩ = some (.int .i64 y.left) ∧ w'.cell? ⟨g', k * 12 + 6, none⟩ = some (.int .i64 y.wake) ∧ w'.cell? ⟨g', k * 12 + 7, none⟩ = some (.int .i64 y.on) ∧ w'.cell? ⟨g', k * 12 + 8, none⟩ = some (.string y.held) ∧ w'.cell? ⟨g', k * 12 + 9, none⟩ = some (.string y.got) ∧ w'.cell? ⟨g', k * 12 + 10, none⟩ = some (.int .i64 y.code) ∧ w'.cell? ⟨g', k * 12 + 11, none⟩ = some (.int .i64 y.since))) ∧ Hid (procK.Lies w' a l ∧ procK.Lies w' a' l' ∧ Below w.heap.size w w')
theorem eqSProc_of {w w' : World} {a a' : Option Addr} {l l' : List ProcD} {x y : ProcD} {g g' k : Nat} (ha : a = some ⟨g, 0, none⟩) (ha' : a' = some ⟨g', 0, none⟩) (hx : l[k]? = some x) (hy : l'[k]? = some y) (h : procK.Lies w' a l ∧ procK.Lies w' a' l' ∧ Below w.heap.size w w') : EqSProc w a a' l l' x y g g' k w' := by
 obtain ⟨g1, e1, h1⟩ := h.1.at hx
 obtain ⟨g2, e2, h2⟩ := h.2.1.at hy
 rw [ha] at e1
 rw [ha'] at e2
 cases e1
 cases e2
 exact ⟨⟨⟨h1 0 _ rfl, h1 1 _ rfl, h1 2 _ rfl, h1 3 _ rfl, h1 4 _ rfl, h1 5 _ rfl, h1 6 _ rfl, h1 7 _ rfl, h1 8 _ rfl, h1 9 _ rfl, h1 10 _ rfl, h1 11 _ rfl⟩, ⟨h2 0 _ rfl, h2 1 _ rfl, h2 2 _ rfl, h2 3 _ rfl, h2 4 _ rfl, h2 5 _ rfl, h2 6 _ rfl, h2 7 _ rfl, h2 8 _ rfl, h2 9 _ rfl, h2 10 _ rfl, h2 11 _ rfl⟩⟩, h⟩
set_option maxRecDepth 100000 in
set_option maxHeartbeats 4000000 in
theorem eqSProc_l (a a' : Option Addr) (l l' : List ProcD) (cap cap' : Nat) (w : World) (hl : l.length ≤ 1048576) (hk : ∀ x ∈ l, x.prog.length ≤ 1048576) (hp : l'.map (·.toProcP) = l.map (·.toProcP)) (h : procK.Lies w a l) (h' : procK.Lies w a' l') :
  Calls Tryz.prog 119 #[.slice a l.length cap, .slice a' l.length cap'] w fun e w' => e = .returned (.bool true) ∧ Below w.heap.size w w' := by
 have HL : Hid (procK.Lies w a l ∧ procK.Lies w a' l' ∧ (∀ x ∈ l, x.prog.length ≤ 1048576) ∧ l'.map (·.toProcP) = l.map (·.toProcP)) := ⟨h, h', hk, hp⟩
 clear h h' hk hp
 go_enter Tryz.func119, Tryz.ntmps119
 go_wp2_with fail
 go_loopw [5] (fun i wr => ∃ k : Nat, k ≤ l.length ∧ i = .int .i64 k ∧ Hid (Below w.heap.size w wr)) (fun i _ => l.length - (intOf i).toNat)
 case atStart => exact ⟨0, Nat.zero_le _, rfl, Below.refl _ _⟩
 case round =>
  obtain ⟨k, hk, rfl, HB⟩ := hrel
  by_cases hlt : k < l.length
  ·have i0 : (0 : Int) ≤ (k : Int) := by omega
   have i1 : (k : Int) < (l.length : Int) := by omega
   obtain ⟨x, hx⟩ : ∃ x, l[k]? = some x := ⟨_, List.getElem?_eq_getElem hlt⟩
   obtain ⟨g, ha, -⟩ := HL.out.1.at hx
   obtain ⟨y, hy, hpy⟩ := map_same HL.out.2.2.2 hx
   obtain ⟨g', ha', -⟩ := HL.out.2.1.at hy
   have HX : Hid (a = some ⟨g, 0, none⟩ ∧ a' = some ⟨g', 0, none⟩ ∧ l[k]? = some x ∧ l'[k]? = some y ∧ y.toProcP = x.toProcP ∧ x.prog.length ≤ 1048576) := ⟨ha, ha', hx, hy, hpy, HL.out.2.2.1 x (List.mem_of_getElem? hx)⟩
   have HS : Hid (EqSProc w a a' l l' x y g g' k wr) := eqSProc_of ha ha' hx hy ⟨HL.out.1.below HB.out, HL.out.2.1.below HB.out, HB.out⟩
   clear hx hy hpy
   rw [ha, ha']
   clear ha ha'
   go_wp2_with fail
   refine tame_region (EqSProc w a a' l l' x y g g' k) (by kernel_rfl) (eqSProc_of HX.out.1 HX.out.2.1 HX.out.2.2.1 HX.out.2.2.2.1 ⟨HS.out.2.out.1.below (Below.refl _ _).drew, HS.out.2.out.2.1.below (Below.refl _ _).drew, HS.out.2.out.2.2.drew⟩) ?_
   iterate 8 (refine yl (v := ?_) ?_ ?_; rotate_left; (intro w0 hS0; obtain ⟨⟨⟨q0, q1, q2, q3, q4, q5, q6, q7, q8, q9, q10, q11⟩, ⟨r0, r1, r2, r3, r4, r5, r6, r7, r8, r9, r10, r11⟩⟩, hH⟩ := hS0; go_simp; try with_reducible rfl); simp only [pt, sb, s0, s1])
   refine cl (.bool true) 73 #[.agg #[.int .i64 x.id, .int .i64 x.prio, .slice x.progA x.prog.length x.progC, .int .i64 x.state, .int .i64 x.pc, .int .i64 x.left, .int .i64 x.wake, .int .i64 x.on, .string x.held, .string x.got, .int .i64 x.code, .int .i64 x.since], .agg #[.int .i64 y.id, .int .i64 y.prio, .slice y.progA y.prog.length y.progC, .int .i64 y.state, .int .i64 y.pc, .int .i64 y.left, .int .i64 y.wake, .int .i64 y.on, .string y.held, .string y.got, .int .i64 y.code, .int .i64 y.since]] ?_ ?_ ?_
   ·intro w0 hS0
    obtain ⟨⟨⟨q0, q1, q2, q3, q4, q5, q6, q7, q8, q9, q10, q11⟩, ⟨r0, r1, r2, r3, r4, r5, r6, r7, r8, r9, r10, r11⟩⟩, hH⟩ := hS0
    go_simp
    try with_reducible rfl
   ·intro w0 hS0
    refine (eqProc_l x y w0 HX.out.2.2.2.2.1 HX.out.2.2.2.2.2 (hS0.2.out.1.kid HX.out.2.2.1 (r := (x.progA, opK.flat x.prog)) (by simp [procK])) (hS0.2.out.2.1.kid HX.out.2.2.2.1 (r := (y.progA, opK.flat y.prog)) (by simp [procK]))).mono ?_
    rintro e w2 ⟨rfl, hb2⟩
    exact ⟨rfl, eqSProc_of HX.out.1 HX.out.2.1 HX.out.2.2.1 HX.out.2.2.2.1 ⟨hS0.2.out.1.below hb2, hS0.2.out.2.1.below hb2, hS0.2.out.2.2.trans (hb2.mono hS0.2.out.2.2.size)⟩⟩
   simp only [pt, sb, s0, s1]
   (refine yl (v := ?_) ?_ ?_; rotate_left; (intro w0 hS0; obtain ⟨⟨⟨q0, q1, q2, q3, q4, q5, q6, q7, q8, q9, q10, q11⟩, ⟨r0, r1, r2, r3, r4, r5, r6, r7, r8, r9, r10, r11⟩⟩, hH⟩ := hS0; go_simp; try with_reducible rfl); simp only [pt, sb, s0, s1])
   refine tame_done (by kernel_rfl) ?_ _
   intro w1 hS1
   have HZ : Hid (Below w.heap.size w w1) := hS1.2.out.2.2
   clear hS1
   go_wp2
   go_roundw
   case rel => exact ⟨k + 1, by omega, by go_num, HZ.out⟩
   case measure => simp [intOf]; omega
  ·have i1 : ¬ (k : Int) < (l.length : Int) := by omega
   go_wp2
   go_ret
   exact ⟨rfl, HB.out⟩

end Go.Proofs.YtkbcplnlehdjfaaGreat

/- The laws' functions on things of the kind Sem: measured, copied, held against each other. (Made by mklw.py.) -/
namespace Go.Proofs.YtkbcplnlehdjfaaGreat
open Go.RowKit
attribute [local go_sem ↓] Go.wp_at_zero Go.wp_at_succ

set_option maxHeartbeats 2000000 in
theorem szSSem_l (a : Option Addr) (l : List SemD) (cap : Nat) (left : Int) (w : World) (hl : l.length ≤ maxLen) (h0 : 0 ≤ left) (h1 : left ≤ 1048576) :
  Calls Tryz.prog 108 #[.slice a l.length cap, .int .i64 left] w fun e w' => SzEnds w left (l.length) (l.length ≤ 1048576) e w' := by
 have hl' := hl
 unfold maxLen at hl'
 by_cases hn : left - (l.length : Int) < 0
 ·go_enter Tryz.func108, Tryz.ntmps108
  go_wp2
  go_ret
  exact szEnds_no (Below.refl _ _) h0
 go_enter Tryz.func108, Tryz.ntmps108
 go_wp2
 go_ret
 exact ⟨left - (l.length : Int), rfl, by omega, by omega, fun _ => ⟨by omega, by omega⟩, Below.refl _ _⟩

set_option maxRecDepth 100000 in
set_option maxHeartbeats 4000000 in
theorem toSem_l (x : SemD) (w : World) : Calls Tryz.prog 67 #[.agg #[.int .i64 x.id, .int .i64 x.n, .int .i64 x.max]] w fun e w' => e = .returned (.agg #[.int .i64 x.id, .int .i64 x.n, .int .i64 x.max]) ∧ Below w.heap.size w w' := by
 go_enter Tryz.func67, Tryz.ntmps67
 go_wp2
 exact bodyPost_ret (v := .agg #[.int .i64 x.id, .int .i64 x.n, .int .i64 x.max]) (by simp [results, Tryz.results67, go_sem]) rfl ⟨rfl, by go_grown⟩


theorem infoSem : (Tryz.prog.info? 49).map (fun i => (i.zero, i.size, decide (i.bytes ≤ 1000))) = some (some (.agg #[.int .i64 0, .int .i64 0, .int .i64 0]), 3, true) := by kernel_rfl
theorem makeSem (n : Nat) (hn : n ≤ 1048576) (w : World) :
  (Instr.makeSlice 26 (.int .i64 (n : Int)) (.int .i64 (n : Int))).run Tryz.prog w = .ok (.slice (some ⟨w.heap.size, 0, none⟩) n n) (w.alloc (.cells (madeCells #[.int .i64 0, .int .i64 0, .int .i64 0] (n * 3)) 49)) := by
 obtain ⟨i, hi, e⟩ := Option.map_eq_some_iff.1 infoSem
 simp only [Prod.mk.injEq, decide_eq_true_eq] at e
 obtain ⟨e1, e2, e3⟩ := e
 have hby : n * i.bytes ≤ 1048576 * 1000 := Nat.mul_le_mul hn e3
 have := run_make (P := Tryz.prog) w 26 49 i _ Tryz.underlying26 hi e1 .i64 .i64 n n (by omega) (by omega) (by rw [Nat.mul_comm] at hby; first | omega | (rw [Nat.mul_comm]; omega)) (by omega)
 rw [this, e2]
 simp [Value.cells]

set_option maxRecDepth 100000 in
set_option maxHeartbeats 4000000 in
theorem toSSem_l (a : Option Addr) (l : List SemD) (cap : Nat) (w : World) (hl : l.length ≤ 1048576) (hc : semK.Came w a l) :
  Calls Tryz.prog 114 #[.slice a l.length cap] w fun e w' => e = .returned (.slice (some ⟨w.heap.size, 0, none⟩) l.length l.length) ∧ w'.ownsRow w.heap.size 49 3 (.slice (some ⟨w.heap.size, 0, none⟩) l.length l.length) l.length (semK.flat l) ∧ Below w.heap.size w w' := by
 have hmk := makeSem l.length hl
 have HC : Hid (semK.Came w a l) := hc
 have HF : Hid (Fill semK 49 w (w.alloc (.cells (madeCells #[.int .i64 0, .int .i64 0, .int .i64 0] (l.length * 3)) 49)) l.length []) := Fill.start (by rw [size_madeCells]; rfl)
 clear hc
 go_enter Tryz.func114, Tryz.ntmps114
 go_wp2_with fail
 go_loopw [4] (fun i wr => ∃ k : Nat, k ≤ l.length ∧ i = .int .i64 k ∧ Hid (Fill semK 49 w wr l.length (l.take k))) (fun i _ => l.length - (intOf i).toNat)
 case atStart => exact ⟨0, Nat.zero_le _, rfl, HF.out⟩
 case round =>
  clear hmk HF
  obtain ⟨k, hk, rfl, HR⟩ := hrel
  by_cases hlt : k < l.length
  ·have i0 : (0 : Int) ≤ (k : Int) := by omega
   have i1 : (k : Int) < (l.length : Int) := by omega
   obtain ⟨x, hx⟩ : ∃ x, l[k]? = some x := ⟨_, List.getElem?_eq_getElem hlt⟩
   obtain ⟨b, off, rfl, hat⟩ := (HC.out.below HR.out.bel).at hx
   have c0 : wr.cell? ⟨b, off + k * 3, none⟩ = some (.int .i64 x.id) := hat 0 _ rfl
   have c1 : wr.cell? ⟨b, off + k * 3 + 1, none⟩ = some (.int .i64 x.n) := hat 1 _ rfl
   have c2 : wr.cell? ⟨b, off + k * 3 + 2, none⟩ = some (.int .i64 x.max) := hat 2 _ rfl
   have HX : Hid (l[k]? = some x) := hx
   have hfl := HR.out.lt
   clear hx hat
   go_wp2_with fail
   refine (toSem_l x wr).mono ?_
   rintro e w1 ⟨rfl, hb1⟩
   have HR1 : Hid (Fill semK 49 w w1 l.length (l.take k)) := HR.out.below hb1
   obtain ⟨⟨u, hu⟩, hf⟩ := HR1.out.at
   have d0 := hu (k * 3) (by show k * 3 < l.length * 3; omega)
   have f0 := hf (k * 3)
   have d1 := hu (k * 3 + 1) (by show k * 3 + 1 < l.length * 3; omega)
   have f1 := hf (k * 3 + 1)
   have d2 := hu (k * 3 + 2) (by show k * 3 + 2 < l.length * 3; omega)
   have f2 := hf (k * 3 + 2)
   have HS : Hid (Fill semK 49 w (((w1.setCell ⟨w.heap.size, k * 3, none⟩ (.int .i64 x.id)).setCell ⟨w.heap.size, k * 3 + 1, none⟩ (.int .i64 x.n)).setCell ⟨w.heap.size, k * 3 + 2, none⟩ (.int .i64 x.max)) l.length (l.take (k + 1))) := by
    have h5 := HR1.out.more (by rw [List.length_take]; omega) x
    rw [← take_up HX.out, List.length_take, Nat.min_eq_left hk, show semK.vals x = [.int .i64 x.id, .int .i64 x.n, .int .i64 x.max] from rfl, show semK.n = 3 from rfl] at h5
    simp only [setAllW, Nat.add_assoc, Nat.reduceAdd] at h5
    exact h5
   clear hu hf hb1 HR HR1 c0 c1 c2
   go_wp2
   go_roundw
   case rel => exact ⟨k + 1, by omega, by go_num, HS.out⟩
   case measure => simp [intOf]; omega
  ·have i1 : ¬ (k : Int) < (l.length : Int) := by omega
   have ek : k = l.length := by omega
   subst ek
   go_wp2
   go_ret
   have h6 := HR.out.done (by rw [List.length_take]; omega) (by unfold maxLen; omega)
   rw [List.take_length] at h6
   exact ⟨rfl, h6, HR.out.bel⟩

set_option maxRecDepth 100000 in
set_option maxHeartbeats 4000000 in
theorem eqSem_l (x : SemD) (w : World) : Calls Tryz.prog 196 #[.agg #[.int .i64 x.id, .int .i64 x.n, .int .i64 x.max], .agg #[.int .i64 x.id, .int .i64 x.n, .int .i64 x.max]] w fun e w' => e = .returned (.bool true) ∧ Below w.heap.size w w' := by
 go_enter Tryz.func196, Tryz.ntmps196
 go_wp2
 go_ret
 exact ⟨ret_bool (by simp), by go_grown⟩

def EqSSem (w : World) (a a' : Option Addr) (l : List SemD) (x : SemD) (g g' k : Nat) (w' : World) : Prop := ((w'.cell? ⟨g, k * 3, none⟩ = some (.int .i64 x.id) ∧ w'.cell? ⟨g, k * 3 + 1, none⟩ = some (.int .i64 x.n) ∧ w'.cell? ⟨g, k * 3 + 2, none⟩ = some (.int .i64 x.max)) ∧ (w'.cell? ⟨g', k * 3, none⟩ = some (.int .i64 x.id) ∧ w'.cell? ⟨g', k * 3 + 1, none⟩ = some (.int .i64 x.n) ∧ w'.cell? ⟨g', k * 3 + 2, none⟩ = some (.int .i64 x.max))) ∧ Hid (semK.Lies w' a l ∧ semK.Lies w' a' l ∧ Below w.heap.size w w')
theorem eqSSem_of {w w' : World} {a a' : Option Addr} {l : List SemD} {x : SemD} {g g' k : Nat} (ha : a = some ⟨g, 0, none⟩) (ha' : a' = some ⟨g', 0, none⟩) (hx : l[k]? = some x) (h : semK.Lies w' a l ∧ semK.Lies w' a' l ∧ Below w.heap.size w w') : EqSSem w a a' l x g g' k w' := by
 obtain ⟨g1, e1, h1⟩ := h.1.at hx
 obtain ⟨g2, e2, h2⟩ := h.2.1.at hx
 rw [ha] at e1
 rw [ha'] at e2
 cases e1
 cases e2
 exact ⟨⟨⟨h1 0 _ rfl, h1 1 _ rfl, h1 2 _ rfl⟩, ⟨h2 0 _ rfl, h2 1 _ rfl, h2 2 _ rfl⟩⟩, h⟩
set_option maxRecDepth 100000 in
set_option maxHeartbeats 4000000 in
theorem eqSSem_l (a a' : Option Addr) (l : List SemD) (cap cap' : Nat) (w : World) (hl : l.length ≤ 1048576) (h : semK.Lies w a l) (h' : semK.Lies w a' l) :
  Calls Tryz.prog 120 #[.slice a l.length cap, .slice a' l.length cap'] w fun e w' => e = .returned (.bool true) ∧ Below w.heap.size w w' := by
 have HL : Hid (semK.Lies w a l ∧ semK.Lies w a' l) := ⟨h, h'⟩
 clear h h'
 go_enter Tryz.func120, Tryz.ntmps120
 go_wp2_with fail
 go_loopw [5] (fun i wr => ∃ k : Nat, k ≤ l.length ∧ i = .int .i64 k ∧ Hid (Below w.heap.size w wr)) (fun i _ => l.length - (intOf i).toNat)
 case atStart => exact ⟨0, Nat.zero_le _, rfl, Below.refl _ _⟩
 case round =>
  obtain ⟨k, hk, rfl, HB⟩ := hrel
  by_cases hlt : k < l.length
  ·have i0 : (0 : Int) ≤ (k : Int) := by omega
   have i1 : (k : Int) < (l.length : Int) := by omega
   obtain ⟨x, hx⟩ : ∃ x, l[k]? = some x := ⟨_, List.getElem?_eq_getElem hlt⟩
   obtain ⟨g, ha, -⟩ := HL.out.1.at hx
   obtain ⟨g', ha', -⟩ := HL.out.2.at hx
   have HX : Hid (a = some ⟨g, 0, none⟩ ∧ a' = some ⟨g', 0, none⟩ ∧ l[k]? = some x) := ⟨ha, ha', hx⟩
   have HS : Hid (EqSSem w a a' l x g g' k wr) := eqSSem_of ha ha' hx ⟨HL.out.1.below HB.out, HL.out.2.below HB.out, HB.out⟩
   clear hx
   rw [ha, ha']
   clear ha ha'
   go_wp2_with fail
   refine tame_region (EqSSem w a a' l x g g' k) (by kernel_rfl) (eqSSem_of HX.out.1 HX.out.2.1 HX.out.2.2 ⟨HS.out.2.out.1.below (Below.refl _ _).drew, HS.out.2.out.2.1.below (Below.refl _ _).drew, HS.out.2.out.2.2.drew⟩) ?_
   iterate 8 (refine yl (v := ?_) ?_ ?_; rotate_left; (intro w0 hS0; obtain ⟨⟨⟨q0, q1, q2⟩, ⟨r0, r1, r2⟩⟩, hH⟩ := hS0; go_simp; try with_reducible rfl); simp only [pt, sb, s0, s1])
   refine cl (.bool true) 196 #[.agg #[.int .i64 x.id, .int .i64 x.n, .int .i64 x.max], .agg #[.int .i64 x.id, .int .i64 x.n, .int .i64 x.max]] ?_ ?_ ?_
   ·intro w0 hS0
    obtain ⟨⟨⟨q0, q1, q2⟩, ⟨r0, r1, r2⟩⟩, hH⟩ := hS0
    go_simp
    try with_reducible rfl
   ·intro w0 hS0
    refine (eqSem_l x w0).mono ?_
    rintro e w2 ⟨rfl, hb2⟩
    exact ⟨rfl, eqSSem_of HX.out.1 HX.out.2.1 HX.out.2.2 ⟨hS0.2.out.1.below hb2, hS0.2.out.2.1.below hb2, hS0.2.out.2.2.trans (hb2.mono hS0.2.out.2.2.size)⟩⟩
   simp only [pt, sb, s0, s1]
   (refine yl (v := ?_) ?_ ?_; rotate_left; (intro w0 hS0; obtain ⟨⟨⟨q0, q1, q2⟩, ⟨r0, r1, r2⟩⟩, hH⟩ := hS0; go_simp; try with_reducible rfl); simp only [pt, sb, s0, s1])
   refine tame_done (by kernel_rfl) ?_ _
   intro w1 hS1
   have HZ : Hid (Below w.heap.size w w1) := hS1.2.out.2.2
   clear hS1
   go_wp2
   go_roundw
   case rel => exact ⟨k + 1, by omega, by go_num, HZ.out⟩
   case measure => simp [intOf]; omega
  ·have i1 : ¬ (k : Int) < (l.length : Int) := by omega
   go_wp2
   go_ret
   exact ⟨rfl, HB.out⟩

end Go.Proofs.YtkbcplnlehdjfaaGreat

/- The laws' functions on things of the kind Event: measured, copied, held against each other. (Made by mklw.py.) -/
namespace Go.Proofs.YtkbcplnlehdjfaaGreat
open Go.RowKit
attribute [local go_sem ↓] Go.wp_at_zero Go.wp_at_succ

set_option maxHeartbeats 2000000 in
theorem szSEvent_l (a : Option Addr) (l : List EventD) (cap : Nat) (left : Int) (w : World) (hl : l.length ≤ maxLen) (h0 : 0 ≤ left) (h1 : left ≤ 1048576) :
  Calls Tryz.prog 109 #[.slice a l.length cap, .int .i64 left] w fun e w' => SzEnds w left (l.length) (l.length ≤ 1048576) e w' := by
 have hl' := hl
 unfold maxLen at hl'
 by_cases hn : left - (l.length : Int) < 0
 ·go_enter Tryz.func109, Tryz.ntmps109
  go_wp2
  go_ret
  exact szEnds_no (Below.refl _ _) h0
 go_enter Tryz.func109, Tryz.ntmps109
 go_wp2
 go_ret
 exact ⟨left - (l.length : Int), rfl, by omega, by omega, fun _ => ⟨by omega, by omega⟩, Below.refl _ _⟩

set_option maxRecDepth 100000 in
set_option maxHeartbeats 4000000 in
theorem toEvent_l (x : EventD) (w : World) : Calls Tryz.prog 193 #[.agg #[.int .i64 x.id, .bool x.up]] w fun e w' => e = .returned (.agg #[.int .i64 x.id, .bool x.up]) ∧ Below w.heap.size w w' := by
 go_enter Tryz.func193, Tryz.ntmps193
 go_wp2
 exact bodyPost_ret (v := .agg #[.int .i64 x.id, .bool x.up]) (by simp [results, Tryz.results193, go_sem]) rfl ⟨rfl, by go_grown⟩


theorem infoEvent : (Tryz.prog.info? 138).map (fun i => (i.zero, i.size, decide (i.bytes ≤ 1000))) = some (some (.agg #[.int .i64 0, .bool false]), 2, true) := by kernel_rfl
theorem makeEvent (n : Nat) (hn : n ≤ 1048576) (w : World) :
  (Instr.makeSlice 27 (.int .i64 (n : Int)) (.int .i64 (n : Int))).run Tryz.prog w = .ok (.slice (some ⟨w.heap.size, 0, none⟩) n n) (w.alloc (.cells (madeCells #[.int .i64 0, .bool false] (n * 2)) 138)) := by
 obtain ⟨i, hi, e⟩ := Option.map_eq_some_iff.1 infoEvent
 simp only [Prod.mk.injEq, decide_eq_true_eq] at e
 obtain ⟨e1, e2, e3⟩ := e
 have hby : n * i.bytes ≤ 1048576 * 1000 := Nat.mul_le_mul hn e3
 have := run_make (P := Tryz.prog) w 27 138 i _ Tryz.underlying27 hi e1 .i64 .i64 n n (by omega) (by omega) (by rw [Nat.mul_comm] at hby; first | omega | (rw [Nat.mul_comm]; omega)) (by omega)
 rw [this, e2]
 simp [Value.cells]

set_option maxRecDepth 100000 in
set_option maxHeartbeats 4000000 in
theorem toSEvent_l (a : Option Addr) (l : List EventD) (cap : Nat) (w : World) (hl : l.length ≤ 1048576) (hc : eventK.Came w a l) :
  Calls Tryz.prog 115 #[.slice a l.length cap] w fun e w' => e = .returned (.slice (some ⟨w.heap.size, 0, none⟩) l.length l.length) ∧ w'.ownsRow w.heap.size 138 2 (.slice (some ⟨w.heap.size, 0, none⟩) l.length l.length) l.length (eventK.flat l) ∧ Below w.heap.size w w' := by
 have hmk := makeEvent l.length hl
 have HC : Hid (eventK.Came w a l) := hc
 have HF : Hid (Fill eventK 138 w (w.alloc (.cells (madeCells #[.int .i64 0, .bool false] (l.length * 2)) 138)) l.length []) := Fill.start (by rw [size_madeCells]; rfl)
 clear hc
 go_enter Tryz.func115, Tryz.ntmps115
 go_wp2_with fail
 go_loopw [4] (fun i wr => ∃ k : Nat, k ≤ l.length ∧ i = .int .i64 k ∧ Hid (Fill eventK 138 w wr l.length (l.take k))) (fun i _ => l.length - (intOf i).toNat)
 case atStart => exact ⟨0, Nat.zero_le _, rfl, HF.out⟩
 case round =>
  clear hmk HF
  obtain ⟨k, hk, rfl, HR⟩ := hrel
  by_cases hlt : k < l.length
  ·have i0 : (0 : Int) ≤ (k : Int) := by omega
   have i1 : (k : Int) < (l.length : Int) := by omega
   obtain ⟨x, hx⟩ : ∃ x, l[k]? = some x := ⟨_, List.getElem?_eq_getElem hlt⟩
   obtain ⟨b, off, rfl, hat⟩ := (HC.out.below HR.out.bel).at hx
   have c0 : wr.cell? ⟨b, off + k * 2, none⟩ = some (.int .i64 x.id) := hat 0 _ rfl
   have c1 : wr.cell? ⟨b, off + k * 2 + 1, none⟩ = some (.bool x.up) := hat 1 _ rfl
   have HX : Hid (l[k]? = some x) := hx
   have hfl := HR.out.lt
   clear hx hat
   go_wp2_with fail
   refine (toEvent_l x wr).mono ?_
   rintro e w1 ⟨rfl, hb1⟩
   have HR1 : Hid (Fill eventK 138 w w1 l.length (l.take k)) := HR.out.below hb1
   obtain ⟨⟨u, hu⟩, hf⟩ := HR1.out.at
   have d0 := hu (k * 2) (by show k * 2 < l.length * 2; omega)
   have f0 := hf (k * 2)
   have d1 := hu (k * 2 + 1) (by show k * 2 + 1 < l.length * 2; omega)
   have f1 := hf (k * 2 + 1)
   have HS : Hid (Fill eventK 138 w ((w1.setCell ⟨w.heap.size, k * 2, none⟩ (.int .i64 x.id)).setCell ⟨w.heap.size, k * 2 + 1, none⟩ (.bool x.up)) l.length (l.take (k + 1))) := by
    have h5 := HR1.out.more (by rw [List.length_take]; omega) x
    rw [← take_up HX.out, List.length_take, Nat.min_eq_left hk, show eventK.vals x = [.int .i64 x.id, .bool x.up] from rfl, show eventK.n = 2 from rfl] at h5
    simp only [setAllW] at h5
    exact h5
   clear hu hf hb1 HR HR1 c0 c1
   go_wp2
   go_roundw
   case rel => exact ⟨k + 1, by omega, by go_num, HS.out⟩
   case measure => simp [intOf]; omega
  ·have i1 : ¬ (k : Int) < (l.length : Int) := by omega
   have ek : k = l.length := by omega
   subst ek
   go_wp2
   go_ret
   have h6 := HR.out.done (by rw [List.length_take]; omega) (by unfold maxLen; omega)
   rw [List.take_length] at h6
   exact ⟨rfl, h6, HR.out.bel⟩

set_option maxRecDepth 100000 in
set_option maxHeartbeats 4000000 in
theorem eqEvent_l (x : EventD) (w : World) : Calls Tryz.prog 197 #[.agg #[.int .i64 x.id, .bool x.up], .agg #[.int .i64 x.id, .bool x.up]] w fun e w' => e = .returned (.bool true) ∧ Below w.heap.size w w' := by
 go_enter Tryz.func197, Tryz.ntmps197
 go_wp2
 go_ret
 exact ⟨ret_bool (by simp), by go_grown⟩

def EqSEvent (w : World) (a a' : Option Addr) (l : List EventD) (x : EventD) (g g' k : Nat) (w' : World) : Prop := ((w'.cell? ⟨g, k * 2, none⟩ = some (.int .i64 x.id) ∧ w'.cell? ⟨g, k * 2 + 1, none⟩ = some (.bool x.up)) ∧ (w'.cell? ⟨g', k * 2, none⟩ = some (.int .i64 x.id) ∧ w'.cell? ⟨g', k * 2 + 1, none⟩ = some (.bool x.up))) ∧ Hid (eventK.Lies w' a l ∧ eventK.Lies w' a' l ∧ Below w.heap.size w w')
theorem eqSEvent_of {w w' : World} {a a' : Option Addr} {l : List EventD} {x : EventD} {g g' k : Nat} (ha : a = some ⟨g, 0, none⟩) (ha' : a' = some ⟨g', 0, none⟩) (hx : l[k]? = some x) (h : eventK.Lies w' a l ∧ eventK.Lies w' a' l ∧ Below w.heap.size w w') : EqSEvent w a a' l x g g' k w' := by
 obtain ⟨g1, e1, h1⟩ := h.1.at hx
 obtain ⟨g2, e2, h2⟩ := h.2.1.at hx
 rw [ha] at e1
 rw [ha'] at e2
 cases e1
 cases e2
 exact ⟨⟨⟨h1 0 _ rfl, h1 1 _ rfl⟩, ⟨h2 0 _ rfl, h2 1 _ rfl⟩⟩, h⟩
set_option maxRecDepth 100000 in
set_option maxHeartbeats 4000000 in
theorem eqSEvent_l (a a' : Option Addr) (l : List EventD) (cap cap' : Nat) (w : World) (hl : l.length ≤ 1048576) (h : eventK.Lies w a l) (h' : eventK.Lies w a' l) :
  Calls Tryz.prog 121 #[.slice a l.length cap, .slice a' l.length cap'] w fun e w' => e = .returned (.bool true) ∧ Below w.heap.size w w' := by
 have HL : Hid (eventK.Lies w a l ∧ eventK.Lies w a' l) := ⟨h, h'⟩
 clear h h'
 go_enter Tryz.func121, Tryz.ntmps121
 go_wp2_with fail
 go_loopw [5] (fun i wr => ∃ k : Nat, k ≤ l.length ∧ i = .int .i64 k ∧ Hid (Below w.heap.size w wr)) (fun i _ => l.length - (intOf i).toNat)
 case atStart => exact ⟨0, Nat.zero_le _, rfl, Below.refl _ _⟩
 case round =>
  obtain ⟨k, hk, rfl, HB⟩ := hrel
  by_cases hlt : k < l.length
  ·have i0 : (0 : Int) ≤ (k : Int) := by omega
   have i1 : (k : Int) < (l.length : Int) := by omega
   obtain ⟨x, hx⟩ : ∃ x, l[k]? = some x := ⟨_, List.getElem?_eq_getElem hlt⟩
   obtain ⟨g, ha, -⟩ := HL.out.1.at hx
   obtain ⟨g', ha', -⟩ := HL.out.2.at hx
   have HX : Hid (a = some ⟨g, 0, none⟩ ∧ a' = some ⟨g', 0, none⟩ ∧ l[k]? = some x) := ⟨ha, ha', hx⟩
   have HS : Hid (EqSEvent w a a' l x g g' k wr) := eqSEvent_of ha ha' hx ⟨HL.out.1.below HB.out, HL.out.2.below HB.out, HB.out⟩
   clear hx
   rw [ha, ha']
   clear ha ha'
   go_wp2_with fail
   refine tame_region (EqSEvent w a a' l x g g' k) (by kernel_rfl) (eqSEvent_of HX.out.1 HX.out.2.1 HX.out.2.2 ⟨HS.out.2.out.1.below (Below.refl _ _).drew, HS.out.2.out.2.1.below (Below.refl _ _).drew, HS.out.2.out.2.2.drew⟩) ?_
   iterate 8 (refine yl (v := ?_) ?_ ?_; rotate_left; (intro w0 hS0; obtain ⟨⟨⟨q0, q1⟩, ⟨r0, r1⟩⟩, hH⟩ := hS0; go_simp; try with_reducible rfl); simp only [pt, sb, s0, s1])
   refine cl (.bool true) 197 #[.agg #[.int .i64 x.id, .bool x.up], .agg #[.int .i64 x.id, .bool x.up]] ?_ ?_ ?_
   ·intro w0 hS0
    obtain ⟨⟨⟨q0, q1⟩, ⟨r0, r1⟩⟩, hH⟩ := hS0
    go_simp
    try with_reducible rfl
   ·intro w0 hS0
    refine (eqEvent_l x w0).mono ?_
    rintro e w2 ⟨rfl, hb2⟩
    exact ⟨rfl, eqSEvent_of HX.out.1 HX.out.2.1 HX.out.2.2 ⟨hS0.2.out.1.below hb2, hS0.2.out.2.1.below hb2, hS0.2.out.2.2.trans (hb2.mono hS0.2.out.2.2.size)⟩⟩
   simp only [pt, sb, s0, s1]
   (refine yl (v := ?_) ?_ ?_; rotate_left; (intro w0 hS0; obtain ⟨⟨⟨q0, q1⟩, ⟨r0, r1⟩⟩, hH⟩ := hS0; go_simp; try with_reducible rfl); simp only [pt, sb, s0, s1])
   refine tame_done (by kernel_rfl) ?_ _
   intro w1 hS1
   have HZ : Hid (Below w.heap.size w w1) := hS1.2.out.2.2
   clear hS1
   go_wp2
   go_roundw
   case rel => exact ⟨k + 1, by omega, by go_num, HZ.out⟩
   case measure => simp [intOf]; omega
  ·have i1 : ¬ (k : Int) < (l.length : Int) := by omega
   go_wp2
   go_ret
   exact ⟨rfl, HB.out⟩

end Go.Proofs.YtkbcplnlehdjfaaGreat

/- The laws' functions on things of the kind Board: measured, copied, held against each other. (Made by mklw.py.) -/
namespace Go.Proofs.YtkbcplnlehdjfaaGreat
open Go.RowKit
attribute [local go_sem ↓] Go.wp_at_zero Go.wp_at_succ

set_option maxHeartbeats 2000000 in
theorem szBoard_l (x : BoardD) (left : Int) (w : World) (hb : (x.text.size ≤ maxLen)) (h0 : 0 ≤ left) (h1 : left ≤ 1048576) :
  Calls Tryz.prog 190 #[.agg #[.int .i64 x.id, .bool x.shown, .string x.text], .int .i64 left] w fun e w' => SzEnds w left (0) ((x.text.size ≤ 1048576)) e w' := by
 have HB : Hid ((x.text.size ≤ maxLen)) := hb
 have HW : Hid (Below w.heap.size w (w.alloc (.cells #[.int .i64 x.id, .bool x.shown, .string x.text] 237))) := (Below.refl _ _).alloc (Nat.le_refl _) _
 clear hb
 go_enter Tryz.func190, Tryz.ntmps190
 have z0 : x.text.size ≤ 9223372036854775807 := HB.out
 by_cases s0 : left - (x.text.size : Int) < 0
 ·go_wp2
  go_ret
  exact szEnds_no HW.out h0
 go_wp2
 go_ret
 exact ⟨left - (x.text.size : Int), rfl, by omega, by omega, fun _ => ⟨by omega, by omega⟩, HW.out⟩

set_option maxHeartbeats 2000000 in
theorem szSBoard_l (a : Option Addr) (l : List BoardD) (cap : Nat) (left : Int) (w : World) (hl : l.length ≤ maxLen) (hc : boardK.Came w a l) (hs : ∀ x ∈ l, (x.text.size ≤ maxLen)) (h0 : 0 ≤ left) (h1 : left ≤ 1048576) :
  Calls Tryz.prog 110 #[.slice a l.length cap, .int .i64 left] w fun e w' => SzEnds w left (l.length) (l.length ≤ 1048576 ∧ ∀ x ∈ l, (x.text.size ≤ 1048576)) e w' := by
 have hl' := hl
 unfold maxLen at hl'
 by_cases hn : left - (l.length : Int) < 0
 ·go_enter Tryz.func110, Tryz.ntmps110
  go_wp2
  go_ret
  exact szEnds_no (Below.refl _ _) h0
 have HC : Hid (boardK.Came w a l ∧ ∀ x ∈ l, (x.text.size ≤ maxLen)) := ⟨hc, hs⟩
 clear hc hs hl
 go_enter Tryz.func110, Tryz.ntmps110
 go_wp2_with fail
 go_loopw [1, 5] (fun q i wr => ∃ (k : Nat) (r : Int), k ≤ l.length ∧ i = .int .i64 k ∧ q = .int .i64 r ∧ 0 ≤ r ∧ r ≤ left - (l.length : Int) ∧ Hid ((∀ x ∈ l.take k, (x.text.size ≤ 1048576)) ∧ Below w.heap.size w wr)) (fun _ i _ => l.length - (intOf i).toNat)
 case atStart => exact ⟨0, left - (l.length : Int), Nat.zero_le _, rfl, rfl, by omega, by omega, ⟨by simp, Below.refl _ _⟩⟩
 case round =>
  obtain ⟨k, r, hk, rfl, rfl, r0, r1, HA⟩ := hrel
  by_cases hlt : k < l.length
  ·have i0 : (0 : Int) ≤ (k : Int) := by omega
   have i1 : (k : Int) < (l.length : Int) := by omega
   obtain ⟨x, hx⟩ : ∃ x, l[k]? = some x := ⟨_, List.getElem?_eq_getElem hlt⟩
   have hmem := List.mem_of_getElem? hx
   obtain ⟨b, off, rfl, hat⟩ := (HC.out.1.below HA.out.2).at hx
   have c0 : wr.cell? ⟨b, off + k * 3, none⟩ = some (.int .i64 x.id) := hat 0 _ rfl
   have c1 : wr.cell? ⟨b, off + k * 3 + 1, none⟩ = some (.bool x.shown) := hat 1 _ rfl
   have c2 : wr.cell? ⟨b, off + k * 3 + 2, none⟩ = some (.string x.text) := hat 2 _ rfl
   have HX : Hid (l[k]? = some x ∧ (x.text.size ≤ maxLen)) := ⟨hx, HC.out.2 x hmem⟩
   clear hx hmem hat
   go_wp2_with fail
   refine (szBoard_l x r wr HX.out.2 r0 (by omega)).mono ?_
   rintro e w1 ⟨r2, rfl, q0, q1, q2, hb1⟩
   have HB1 : Hid (Below w.heap.size w w1 ∧ (0 ≤ r2 → (x.text.size ≤ 1048576) ∧ r2 + (0 : Nat) ≤ r)) := ⟨HA.out.2.trans (hb1.mono HA.out.2.size), q2⟩
   clear hb1 q2 c0 c1 c2
   by_cases hneg : r2 < 0
   ·go_wp2
    go_ret
    exact szEnds_no HB1.out.1 h0
   go_wp2
   go_roundw
   case rel => exact ⟨k + 1, r2, by omega, by go_num, rfl, by omega, by omega, ⟨all_up HX.out.1 HA.out.1 (HB1.out.2 (by omega)).1, HB1.out.1⟩⟩
   case measure => simp [intOf]; omega
  ·have i1 : ¬ (k : Int) < (l.length : Int) := by omega
   go_wp2
   go_ret
   exact ⟨r, rfl, by omega, by omega, fun _ => ⟨⟨by omega, all_end (by omega) HA.out.1⟩, by omega⟩, HA.out.2⟩

set_option maxRecDepth 100000 in
set_option maxHeartbeats 4000000 in
theorem toBoard_l (x : BoardD) (w : World) : Calls Tryz.prog 194 #[.agg #[.int .i64 x.id, .bool x.shown, .string x.text]] w fun e w' => e = .returned (.agg #[.int .i64 x.id, .bool x.shown, .string x.text]) ∧ Below w.heap.size w w' := by
 go_enter Tryz.func194, Tryz.ntmps194
 go_wp2
 exact bodyPost_ret (v := .agg #[.int .i64 x.id, .bool x.shown, .string x.text]) (by simp [results, Tryz.results194, go_sem]) rfl ⟨rfl, by go_grown⟩


theorem infoBoard : (Tryz.prog.info? 141).map (fun i => (i.zero, i.size, decide (i.bytes ≤ 1000))) = some (some (.agg #[.int .i64 0, .bool false, .string ⟨#[]⟩]), 3, true) := by kernel_rfl
theorem makeBoard (n : Nat) (hn : n ≤ 1048576) (w : World) :
  (Instr.makeSlice 28 (.int .i64 (n : Int)) (.int .i64 (n : Int))).run Tryz.prog w = .ok (.slice (some ⟨w.heap.size, 0, none⟩) n n) (w.alloc (.cells (madeCells #[.int .i64 0, .bool false, .string ⟨#[]⟩] (n * 3)) 141)) := by
 obtain ⟨i, hi, e⟩ := Option.map_eq_some_iff.1 infoBoard
 simp only [Prod.mk.injEq, decide_eq_true_eq] at e
 obtain ⟨e1, e2, e3⟩ := e
 have hby : n * i.bytes ≤ 1048576 * 1000 := Nat.mul_le_mul hn e3
 have := run_make (P := Tryz.prog) w 28 141 i _ Tryz.underlying28 hi e1 .i64 .i64 n n (by omega) (by omega) (by rw [Nat.mul_comm] at hby; first | omega | (rw [Nat.mul_comm]; omega)) (by omega)
 rw [this, e2]
 simp [Value.cells]

set_option maxRecDepth 100000 in
set_option maxHeartbeats 4000000 in
theorem toSBoard_l (a : Option Addr) (l : List BoardD) (cap : Nat) (w : World) (hl : l.length ≤ 1048576) (hc : boardK.Came w a l) :
  Calls Tryz.prog 116 #[.slice a l.length cap] w fun e w' => e = .returned (.slice (some ⟨w.heap.size, 0, none⟩) l.length l.length) ∧ w'.ownsRow w.heap.size 141 3 (.slice (some ⟨w.heap.size, 0, none⟩) l.length l.length) l.length (boardK.flat l) ∧ Below w.heap.size w w' := by
 have hmk := makeBoard l.length hl
 have HC : Hid (boardK.Came w a l) := hc
 have HF : Hid (Fill boardK 141 w (w.alloc (.cells (madeCells #[.int .i64 0, .bool false, .string ⟨#[]⟩] (l.length * 3)) 141)) l.length []) := Fill.start (by rw [size_madeCells]; rfl)
 clear hc
 go_enter Tryz.func116, Tryz.ntmps116
 go_wp2_with fail
 go_loopw [4] (fun i wr => ∃ k : Nat, k ≤ l.length ∧ i = .int .i64 k ∧ Hid (Fill boardK 141 w wr l.length (l.take k))) (fun i _ => l.length - (intOf i).toNat)
 case atStart => exact ⟨0, Nat.zero_le _, rfl, HF.out⟩
 case round =>
  clear hmk HF
  obtain ⟨k, hk, rfl, HR⟩ := hrel
  by_cases hlt : k < l.length
  ·have i0 : (0 : Int) ≤ (k : Int) := by omega
   have i1 : (k : Int) < (l.length : Int) := by omega
   obtain ⟨x, hx⟩ : ∃ x, l[k]? = some x := ⟨_, List.getElem?_eq_getElem hlt⟩
   obtain ⟨b, off, rfl, hat⟩ := (HC.out.below HR.out.bel).at hx
   have c0 : wr.cell? ⟨b, off + k * 3, none⟩ = some (.int .i64 x.id) := hat 0 _ rfl
   have c1 : wr.cell? ⟨b, off + k * 3 + 1, none⟩ = some (.bool x.shown) := hat 1 _ rfl
   have c2 : wr.cell? ⟨b, off + k * 3 + 2, none⟩ = some (.string x.text) := hat 2 _ rfl
   have HX : Hid (l[k]? = some x) := hx
   have hfl := HR.out.lt
   clear hx hat
   go_wp2_with fail
   refine (toBoard_l x wr).mono ?_
   rintro e w1 ⟨rfl, hb1⟩
   have HR1 : Hid (Fill boardK 141 w w1 l.length (l.take k)) := HR.out.below hb1
   obtain ⟨⟨u, hu⟩, hf⟩ := HR1.out.at
   have d0 := hu (k * 3) (by show k * 3 < l.length * 3; omega)
   have f0 := hf (k * 3)
   have d1 := hu (k * 3 + 1) (by show k * 3 + 1 < l.length * 3; omega)
   have f1 := hf (k * 3 + 1)
   have d2 := hu (k * 3 + 2) (by show k * 3 + 2 < l.length * 3; omega)
   have f2 := hf (k * 3 + 2)
   have HS : Hid (Fill boardK 141 w (((w1.setCell ⟨w.heap.size, k * 3, none⟩ (.int .i64 x.id)).setCell ⟨w.heap.size, k * 3 + 1, none⟩ (.bool x.shown)).setCell ⟨w.heap.size, k * 3 + 2, none⟩ (.string x.text)) l.length (l.take (k + 1))) := by
    have h5 := HR1.out.more (by rw [List.length_take]; omega) x
    rw [← take_up HX.out, List.length_take, Nat.min_eq_left hk, show boardK.vals x = [.int .i64 x.id, .bool x.shown, .string x.text] from rfl, show boardK.n = 3 from rfl] at h5
    simp only [setAllW, Nat.add_assoc, Nat.reduceAdd] at h5
    exact h5
   clear hu hf hb1 HR HR1 c0 c1 c2
   go_wp2
   go_roundw
   case rel => exact ⟨k + 1, by omega, by go_num, HS.out⟩
   case measure => simp [intOf]; omega
  ·have i1 : ¬ (k : Int) < (l.length : Int) := by omega
   have ek : k = l.length := by omega
   subst ek
   go_wp2
   go_ret
   have h6 := HR.out.done (by rw [List.length_take]; omega) (by unfold maxLen; omega)
   rw [List.take_length] at h6
   exact ⟨rfl, h6, HR.out.bel⟩

set_option maxRecDepth 100000 in
set_option maxHeartbeats 4000000 in
theorem eqBoard_l (x : BoardD) (w : World) : Calls Tryz.prog 198 #[.agg #[.int .i64 x.id, .bool x.shown, .string x.text], .agg #[.int .i64 x.id, .bool x.shown, .string x.text]] w fun e w' => e = .returned (.bool true) ∧ Below w.heap.size w w' := by
 go_enter Tryz.func198, Tryz.ntmps198
 go_wp2
 go_ret
 exact ⟨ret_bool (by simp), by go_grown⟩

def EqSBoard (w : World) (a a' : Option Addr) (l : List BoardD) (x : BoardD) (g g' k : Nat) (w' : World) : Prop := ((w'.cell? ⟨g, k * 3, none⟩ = some (.int .i64 x.id) ∧ w'.cell? ⟨g, k * 3 + 1, none⟩ = some (.bool x.shown) ∧ w'.cell? ⟨g, k * 3 + 2, none⟩ = some (.string x.text)) ∧ (w'.cell? ⟨g', k * 3, none⟩ = some (.int .i64 x.id) ∧ w'.cell? ⟨g', k * 3 + 1, none⟩ = some (.bool x.shown) ∧ w'.cell? ⟨g', k * 3 + 2, none⟩ = some (.string x.text))) ∧ Hid (boardK.Lies w' a l ∧ boardK.Lies w' a' l ∧ Below w.heap.size w w')
theorem eqSBoard_of {w w' : World} {a a' : Option Addr} {l : List BoardD} {x : BoardD} {g g' k : Nat} (ha : a = some ⟨g, 0, none⟩) (ha' : a' = some ⟨g', 0, none⟩) (hx : l[k]? = some x) (h : boardK.Lies w' a l ∧ boardK.Lies w' a' l ∧ Below w.heap.size w w') : EqSBoard w a a' l x g g' k w' := by
 obtain ⟨g1, e1, h1⟩ := h.1.at hx
 obtain ⟨g2, e2, h2⟩ := h.2.1.at hx
 rw [ha] at e1
 rw [ha'] at e2
 cases e1
 cases e2
 exact ⟨⟨⟨h1 0 _ rfl, h1 1 _ rfl, h1 2 _ rfl⟩, ⟨h2 0 _ rfl, h2 1 _ rfl, h2 2 _ rfl⟩⟩, h⟩
set_option maxRecDepth 100000 in
set_option maxHeartbeats 4000000 in
theorem eqSBoard_l (a a' : Option Addr) (l : List BoardD) (cap cap' : Nat) (w : World) (hl : l.length ≤ 1048576) (h : boardK.Lies w a l) (h' : boardK.Lies w a' l) :
  Calls Tryz.prog 122 #[.slice a l.length cap, .slice a' l.length cap'] w fun e w' => e = .returned (.bool true) ∧ Below w.heap.size w w' := by
 have HL : Hid (boardK.Lies w a l ∧ boardK.Lies w a' l) := ⟨h, h'⟩
 clear h h'
 go_enter Tryz.func122, Tryz.ntmps122
 go_wp2_with fail
 go_loopw [5] (fun i wr => ∃ k : Nat, k ≤ l.length ∧ i = .int .i64 k ∧ Hid (Below w.heap.size w wr)) (fun i _ => l.length - (intOf i).toNat)
 case atStart => exact ⟨0, Nat.zero_le _, rfl, Below.refl _ _⟩
 case round =>
  obtain ⟨k, hk, rfl, HB⟩ := hrel
  by_cases hlt : k < l.length
  ·have i0 : (0 : Int) ≤ (k : Int) := by omega
   have i1 : (k : Int) < (l.length : Int) := by omega
   obtain ⟨x, hx⟩ : ∃ x, l[k]? = some x := ⟨_, List.getElem?_eq_getElem hlt⟩
   obtain ⟨g, ha, -⟩ := HL.out.1.at hx
   obtain ⟨g', ha', -⟩ := HL.out.2.at hx
   have HX : Hid (a = some ⟨g, 0, none⟩ ∧ a' = some ⟨g', 0, none⟩ ∧ l[k]? = some x) := ⟨ha, ha', hx⟩
   have HS : Hid (EqSBoard w a a' l x g g' k wr) := eqSBoard_of ha ha' hx ⟨HL.out.1.below HB.out, HL.out.2.below HB.out, HB.out⟩
   clear hx
   rw [ha, ha']
   clear ha ha'
   go_wp2_with fail
   refine tame_region (EqSBoard w a a' l x g g' k) (by kernel_rfl) (eqSBoard_of HX.out.1 HX.out.2.1 HX.out.2.2 ⟨HS.out.2.out.1.below (Below.refl _ _).drew, HS.out.2.out.2.1.below (Below.refl _ _).drew, HS.out.2.out.2.2.drew⟩) ?_
   iterate 8 (refine yl (v := ?_) ?_ ?_; rotate_left; (intro w0 hS0; obtain ⟨⟨⟨q0, q1, q2⟩, ⟨r0, r1, r2⟩⟩, hH⟩ := hS0; go_simp; try with_reducible rfl); simp only [pt, sb, s0, s1])
   refine cl (.bool true) 198 #[.agg #[.int .i64 x.id, .bool x.shown, .string x.text], .agg #[.int .i64 x.id, .bool x.shown, .string x.text]] ?_ ?_ ?_
   ·intro w0 hS0
    obtain ⟨⟨⟨q0, q1, q2⟩, ⟨r0, r1, r2⟩⟩, hH⟩ := hS0
    go_simp
    try with_reducible rfl
   ·intro w0 hS0
    refine (eqBoard_l x w0).mono ?_
    rintro e w2 ⟨rfl, hb2⟩
    exact ⟨rfl, eqSBoard_of HX.out.1 HX.out.2.1 HX.out.2.2 ⟨hS0.2.out.1.below hb2, hS0.2.out.2.1.below hb2, hS0.2.out.2.2.trans (hb2.mono hS0.2.out.2.2.size)⟩⟩
   simp only [pt, sb, s0, s1]
   (refine yl (v := ?_) ?_ ?_; rotate_left; (intro w0 hS0; obtain ⟨⟨⟨q0, q1, q2⟩, ⟨r0, r1, r2⟩⟩, hH⟩ := hS0; go_simp; try with_reducible rfl); simp only [pt, sb, s0, s1])
   refine tame_done (by kernel_rfl) ?_ _
   intro w1 hS1
   have HZ : Hid (Below w.heap.size w w1) := hS1.2.out.2.2
   clear hS1
   go_wp2
   go_roundw
   case rel => exact ⟨k + 1, by omega, by go_num, HZ.out⟩
   case measure => simp [intOf]; omega
  ·have i1 : ¬ (k : Int) < (l.length : Int) := by omega
   go_wp2
   go_ret
   exact ⟨rfl, HB.out⟩

end Go.Proofs.YtkbcplnlehdjfaaGreat

/- The laws' functions on things of the kind Str: measured, copied, held against each other. (Made by mklw.py.) -/
namespace Go.Proofs.YtkbcplnlehdjfaaGreat
open Go.RowKit
attribute [local go_sem ↓] Go.wp_at_zero Go.wp_at_succ

set_option maxHeartbeats 2000000 in
theorem szSStr_l (a : Option Addr) (l : List ByteArray) (cap : Nat) (left : Int) (w : World) (hl : l.length ≤ maxLen) (hc : strK.Came w a l) (hs : ∀ x ∈ l, (x.size ≤ maxLen)) (h0 : 0 ≤ left) (h1 : left ≤ 1048576) :
  Calls Tryz.prog 141 #[.slice a l.length cap, .int .i64 left] w fun e w' => SzEnds w left (l.length) (l.length ≤ 1048576 ∧ ∀ x ∈ l, (x.size ≤ 1048576)) e w' := by
 have hl' := hl
 unfold maxLen at hl'
 by_cases hn : left - (l.length : Int) < 0
 ·go_enter Tryz.func141, Tryz.ntmps141
  go_wp2
  go_ret
  exact szEnds_no (Below.refl _ _) h0
 have HC : Hid (strK.Came w a l ∧ ∀ x ∈ l, (x.size ≤ maxLen)) := ⟨hc, hs⟩
 clear hc hs hl
 go_enter Tryz.func141, Tryz.ntmps141
 go_wp2_with fail
 go_loopw [1, 5] (fun q i wr => ∃ (k : Nat) (r : Int), k ≤ l.length ∧ i = .int .i64 k ∧ q = .int .i64 r ∧ 0 ≤ r ∧ r ≤ left - (l.length : Int) ∧ Hid ((∀ x ∈ l.take k, (x.size ≤ 1048576)) ∧ Below w.heap.size w wr)) (fun _ i _ => l.length - (intOf i).toNat)
 case atStart => exact ⟨0, left - (l.length : Int), Nat.zero_le _, rfl, rfl, by omega, by omega, ⟨by simp, Below.refl _ _⟩⟩
 case round =>
  obtain ⟨k, r, hk, rfl, rfl, r0, r1, HA⟩ := hrel
  by_cases hlt : k < l.length
  ·have i0 : (0 : Int) ≤ (k : Int) := by omega
   have i1 : (k : Int) < (l.length : Int) := by omega
   obtain ⟨x, hx⟩ : ∃ x, l[k]? = some x := ⟨_, List.getElem?_eq_getElem hlt⟩
   have hmem := List.mem_of_getElem? hx
   obtain ⟨b, off, rfl, hat⟩ := (HC.out.1.below HA.out.2).at hx
   have c0 : wr.cell? ⟨b, off + k, none⟩ = some (.string x) := by have := hat 0 _ rfl; rw [show off + k * strK.n + 0 = off + k by show off + k * 1 + 0 = off + k; omega] at this; exact this
   have HX : Hid (l[k]? = some x ∧ (x.size ≤ maxLen)) := ⟨hx, HC.out.2 x hmem⟩
   clear hx hmem hat
   have z0 : x.size ≤ 9223372036854775807 := HX.out.2
   by_cases hneg : r - (x.size : Int) < 0
   ·go_wp2
    go_ret
    exact szEnds_no HA.out.2 h0
   go_wp2
   go_roundw
   case rel => exact ⟨k + 1, r - (x.size : Int), by omega, by go_num, rfl, by omega, by omega, ⟨all_up HX.out.1 HA.out.1 (by omega), HA.out.2⟩⟩
   case measure => simp [intOf]; omega
  ·have i1 : ¬ (k : Int) < (l.length : Int) := by omega
   go_wp2
   go_ret
   exact ⟨r, rfl, by omega, by omega, fun _ => ⟨⟨by omega, all_end (by omega) HA.out.1⟩, by omega⟩, HA.out.2⟩


theorem infoStr : (Tryz.prog.info? 9).map (fun i => (i.zero, i.size, decide (i.bytes ≤ 1000))) = some (some (.string ⟨#[]⟩), 1, true) := by kernel_rfl
theorem makeStr (n : Nat) (hn : n ≤ 1048576) (w : World) :
  (Instr.makeSlice 59 (.int .i64 (n : Int)) (.int .i64 (n : Int))).run Tryz.prog w = .ok (.slice (some ⟨w.heap.size, 0, none⟩) n n) (w.alloc (.cells (madeCells #[.string ⟨#[]⟩] (n * 1)) 9)) := by
 obtain ⟨i, hi, e⟩ := Option.map_eq_some_iff.1 infoStr
 simp only [Prod.mk.injEq, decide_eq_true_eq] at e
 obtain ⟨e1, e2, e3⟩ := e
 have hby : n * i.bytes ≤ 1048576 * 1000 := Nat.mul_le_mul hn e3
 have := run_make (P := Tryz.prog) w 59 9 i _ Tryz.underlying59 hi e1 .i64 .i64 n n (by omega) (by omega) (by rw [Nat.mul_comm] at hby; first | omega | (rw [Nat.mul_comm]; omega)) (by omega)
 rw [this, e2]
 simp [Value.cells]

set_option maxRecDepth 100000 in
set_option maxHeartbeats 4000000 in
theorem toSStr_l (a : Option Addr) (l : List ByteArray) (cap : Nat) (w : World) (hl : l.length ≤ 1048576) (hc : strK.Came w a l) :
  Calls Tryz.prog 142 #[.slice a l.length cap] w fun e w' => e = .returned (.slice (some ⟨w.heap.size, 0, none⟩) l.length l.length) ∧ w'.ownsRow w.heap.size 9 1 (.slice (some ⟨w.heap.size, 0, none⟩) l.length l.length) l.length (strK.flat l) ∧ Below w.heap.size w w' := by
 have hmk := makeStr l.length hl
 have HC : Hid (strK.Came w a l) := hc
 have HF : Hid (Fill strK 9 w (w.alloc (.cells (madeCells #[.string ⟨#[]⟩] (l.length * 1)) 9)) l.length []) := Fill.start (by rw [size_madeCells]; rfl)
 clear hc
 go_enter Tryz.func142, Tryz.ntmps142
 go_wp2_with fail
 go_loopw [4] (fun i wr => ∃ k : Nat, k ≤ l.length ∧ i = .int .i64 k ∧ Hid (Fill strK 9 w wr l.length (l.take k))) (fun i _ => l.length - (intOf i).toNat)
 case atStart => exact ⟨0, Nat.zero_le _, rfl, (by have h5 := HF.out; rw [Nat.mul_one] at h5; exact h5)⟩
 case round =>
  clear hmk HF
  obtain ⟨k, hk, rfl, HR⟩ := hrel
  by_cases hlt : k < l.length
  ·have i0 : (0 : Int) ≤ (k : Int) := by omega
   have i1 : (k : Int) < (l.length : Int) := by omega
   obtain ⟨x, hx⟩ : ∃ x, l[k]? = some x := ⟨_, List.getElem?_eq_getElem hlt⟩
   obtain ⟨b, off, rfl, hat⟩ := (HC.out.below HR.out.bel).at hx
   have c0 : wr.cell? ⟨b, off + k, none⟩ = some (.string x) := by have := hat 0 _ rfl; rw [show off + k * strK.n + 0 = off + k by show off + k * 1 + 0 = off + k; omega] at this; exact this
   have HX : Hid (l[k]? = some x) := hx
   have hfl := HR.out.lt
   clear hx hat
   obtain ⟨⟨u, hu⟩, hf⟩ := HR.out.at
   have d0 := hu k (by show k < l.length * 1; omega)
   have f0 := hf k
   have HS : Hid (Fill strK 9 w (wr.setCell ⟨w.heap.size, k, none⟩ (.string x)) l.length (l.take (k + 1))) := by
    have h5 := HR.out.more (by rw [List.length_take]; omega) x
    rw [← take_up HX.out, List.length_take, Nat.min_eq_left hk, show k * strK.n = k from Nat.mul_one k] at h5
    exact h5
   clear hu hf
   go_wp2
   go_roundw
   case rel => exact ⟨k + 1, by omega, by go_num, HS.out⟩
   case measure => simp [intOf]; omega
  ·have i1 : ¬ (k : Int) < (l.length : Int) := by omega
   have ek : k = l.length := by omega
   subst ek
   go_wp2
   go_ret
   have h6 := HR.out.done (by rw [List.length_take]; omega) (by unfold maxLen; omega)
   rw [List.take_length] at h6
   exact ⟨rfl, h6, HR.out.bel⟩

def EqSStr (w : World) (a a' : Option Addr) (l : List ByteArray) (x : ByteArray) (g g' k : Nat) (w' : World) : Prop := ((w'.cell? ⟨g, k, none⟩ = some (.string x)) ∧ (w'.cell? ⟨g', k, none⟩ = some (.string x))) ∧ Hid (strK.Lies w' a l ∧ strK.Lies w' a' l ∧ Below w.heap.size w w')
theorem eqSStr_of {w w' : World} {a a' : Option Addr} {l : List ByteArray} {x : ByteArray} {g g' k : Nat} (ha : a = some ⟨g, 0, none⟩) (ha' : a' = some ⟨g', 0, none⟩) (hx : l[k]? = some x) (h : strK.Lies w' a l ∧ strK.Lies w' a' l ∧ Below w.heap.size w w') : EqSStr w a a' l x g g' k w' := by
 obtain ⟨g1, e1, h1⟩ := h.1.at hx
 obtain ⟨g2, e2, h2⟩ := h.2.1.at hx
 rw [ha] at e1
 rw [ha'] at e2
 cases e1
 cases e2
 have h3 := h1 0 _ rfl
 have h4 := h2 0 _ rfl
 rw [show k * strK.n + 0 = k by show k * 1 + 0 = k; omega] at h3 h4
 exact ⟨⟨h3, h4⟩, h⟩
set_option maxRecDepth 100000 in
set_option maxHeartbeats 4000000 in
theorem eqSStr_l (a a' : Option Addr) (l : List ByteArray) (cap cap' : Nat) (w : World) (hl : l.length ≤ 1048576) (h : strK.Lies w a l) (h' : strK.Lies w a' l) :
  Calls Tryz.prog 143 #[.slice a l.length cap, .slice a' l.length cap'] w fun e w' => e = .returned (.bool true) ∧ Below w.heap.size w w' := by
 have HL : Hid (strK.Lies w a l ∧ strK.Lies w a' l) := ⟨h, h'⟩
 clear h h'
 go_enter Tryz.func143, Tryz.ntmps143
 go_wp2_with fail
 go_loopw [5] (fun i wr => ∃ k : Nat, k ≤ l.length ∧ i = .int .i64 k ∧ Hid (Below w.heap.size w wr)) (fun i _ => l.length - (intOf i).toNat)
 case atStart => exact ⟨0, Nat.zero_le _, rfl, Below.refl _ _⟩
 case round =>
  obtain ⟨k, hk, rfl, HB⟩ := hrel
  by_cases hlt : k < l.length
  ·have i0 : (0 : Int) ≤ (k : Int) := by omega
   have i1 : (k : Int) < (l.length : Int) := by omega
   obtain ⟨x, hx⟩ : ∃ x, l[k]? = some x := ⟨_, List.getElem?_eq_getElem hlt⟩
   obtain ⟨g, ha, -⟩ := HL.out.1.at hx
   obtain ⟨g', ha', -⟩ := HL.out.2.at hx
   have HX : Hid (a = some ⟨g, 0, none⟩ ∧ a' = some ⟨g', 0, none⟩ ∧ l[k]? = some x) := ⟨ha, ha', hx⟩
   have HS : Hid (EqSStr w a a' l x g g' k wr) := eqSStr_of ha ha' hx ⟨HL.out.1.below HB.out, HL.out.2.below HB.out, HB.out⟩
   clear hx
   rw [ha, ha']
   clear ha ha'
   obtain ⟨⟨c0, d0⟩, -⟩ := HS.out
   go_wp2_with fail
   go_quiet (fail)
   go_wp2
   go_roundw
   case rel => exact ⟨k + 1, by omega, by go_num, below_drewN' HB.out _⟩
   case measure => simp [intOf]; omega
  ·have i1 : ¬ (k : Int) < (l.length : Int) := by omega
   go_wp2
   go_ret
   exact ⟨rfl, HB.out⟩

end Go.Proofs.YtkbcplnlehdjfaaGreat

/- The laws' functions on things of the kind Buffer: measured, copied, held against each other. (Made by mklw.py.) -/
namespace Go.Proofs.YtkbcplnlehdjfaaGreat
open Go.RowKit
attribute [local go_sem ↓] Go.wp_at_zero Go.wp_at_succ

set_option maxHeartbeats 2000000 in
theorem szBuffer_l (x : BufferD) (left : Int) (w : World) (hb : (x.items.length ≤ maxLen ∧ ∀ s ∈ x.items, s.size ≤ maxLen)) (hc : strK.Came w x.itemsA x.items) (h0 : 0 ≤ left) (h1 : left ≤ 1048576) :
  Calls Tryz.prog 191 #[.agg #[.int .i64 x.id, .int .i64 x.max, .slice x.itemsA x.items.length x.itemsC], .int .i64 left] w fun e w' => SzEnds w left (x.items.length) ((x.items.length ≤ 1048576 ∧ ∀ s ∈ x.items, s.size ≤ 1048576)) e w' := by
 have HB : Hid ((x.items.length ≤ maxLen ∧ ∀ s ∈ x.items, s.size ≤ maxLen)) := hb
 have HC : Hid (strK.Came (w.alloc (.cells #[.int .i64 x.id, .int .i64 x.max, .slice x.itemsA x.items.length x.itemsC] 239)) x.itemsA x.items) := hc.below ((Below.refl _ _).alloc (Nat.le_refl _) _)
 clear hc
 have HW : Hid (Below w.heap.size w (w.alloc (.cells #[.int .i64 x.id, .int .i64 x.max, .slice x.itemsA x.items.length x.itemsC] 239))) := (Below.refl _ _).alloc (Nat.le_refl _) _
 clear hb
 go_enter Tryz.func191, Tryz.ntmps191
 have HX : Hid ((w.alloc (.cells #[.int .i64 x.id, .int .i64 x.max, .slice x.itemsA x.items.length x.itemsC] 239)).heap[w.heap.size]? = some (.cells #[.int .i64 x.id, .int .i64 x.max, .slice x.itemsA x.items.length x.itemsC] 239 (0, 0))) := heap_alloc_new _ _
 go_wp2_with fail
 generalize w.alloc (.cells #[.int .i64 x.id, .int .i64 x.max, .slice x.itemsA x.items.length x.itemsC] 239) = W at *
 refine (szSStr_l x.itemsA x.items x.itemsC left W HB.out.1 HC.out HB.out.2 h0 h1).mono ?_
 rintro e w1 ⟨r1, rfl, q0, q1, q2, hb1⟩
 have HB1 : Hid (Below w.heap.size w w1) := HW.out.trans (hb1.mono HW.out.size)
 have HX1 : Hid (w1.heap[w.heap.size]? = some (.cells #[.int .i64 x.id, .int .i64 x.max, .slice x.itemsA x.items.length x.itemsC] 239 (0, 0))) := (hb1.block _ (Array.getElem?_eq_some_iff.1 HX.out).1).trans HX.out
 have HQ : Hid (0 ≤ r1 → (x.items.length ≤ 1048576 ∧ ∀ s ∈ x.items, s.size ≤ 1048576) ∧ r1 + (x.items.length : Nat) ≤ left) := q2
 clear hb1 HX q2
 by_cases hn : r1 < 0
 ·go_wp2
  go_ret
  exact szEnds_no HB1.out h0
 go_wp2
 go_ret
 exact ⟨r1, rfl, by omega, by omega, fun _ => HQ.out (by omega), HB1.out⟩

set_option maxHeartbeats 2000000 in
theorem szSBuffer_l (a : Option Addr) (l : List BufferD) (cap : Nat) (left : Int) (w : World) (hl : l.length ≤ maxLen) (hc : bufferK.Came w a l) (hs : ∀ x ∈ l, (x.items.length ≤ maxLen ∧ ∀ s ∈ x.items, s.size ≤ maxLen)) (h0 : 0 ≤ left) (h1 : left ≤ 1048576) :
  Calls Tryz.prog 111 #[.slice a l.length cap, .int .i64 left] w fun e w' => SzEnds w left (l.length + sumL (fun x : BufferD => x.items.length) l) (l.length ≤ 1048576 ∧ ∀ x ∈ l, (x.items.length ≤ 1048576 ∧ ∀ s ∈ x.items, s.size ≤ 1048576)) e w' := by
 have hl' := hl
 unfold maxLen at hl'
 by_cases hn : left - (l.length : Int) < 0
 ·go_enter Tryz.func111, Tryz.ntmps111
  go_wp2
  go_ret
  exact szEnds_no (Below.refl _ _) h0
 have HC : Hid (bufferK.Came w a l ∧ ∀ x ∈ l, (x.items.length ≤ maxLen ∧ ∀ s ∈ x.items, s.size ≤ maxLen)) := ⟨hc, hs⟩
 clear hc hs hl
 go_enter Tryz.func111, Tryz.ntmps111
 go_wp2_with fail
 go_loopw [1, 5] (fun q i wr => ∃ (k : Nat) (r : Int), k ≤ l.length ∧ i = .int .i64 k ∧ q = .int .i64 r ∧ 0 ≤ r ∧ r ≤ left - (l.length : Int) ∧ Hid ((∀ x ∈ l.take k, (x.items.length ≤ 1048576 ∧ ∀ s ∈ x.items, s.size ≤ 1048576)) ∧ r + (sumL (fun x : BufferD => x.items.length) (l.take k) : Nat) ≤ left - (l.length : Int) ∧ Below w.heap.size w wr)) (fun _ i _ => l.length - (intOf i).toNat)
 case atStart => exact ⟨0, left - (l.length : Int), Nat.zero_le _, rfl, rfl, by omega, by omega, ⟨by simp, by simp [sumL], Below.refl _ _⟩⟩
 case round =>
  obtain ⟨k, r, hk, rfl, rfl, r0, r1, HA⟩ := hrel
  by_cases hlt : k < l.length
  ·have i0 : (0 : Int) ≤ (k : Int) := by omega
   have i1 : (k : Int) < (l.length : Int) := by omega
   obtain ⟨x, hx⟩ : ∃ x, l[k]? = some x := ⟨_, List.getElem?_eq_getElem hlt⟩
   have hmem := List.mem_of_getElem? hx
   obtain ⟨b, off, rfl, hat⟩ := (HC.out.1.below HA.out.2.2).at hx
   have c0 : wr.cell? ⟨b, off + k * 3, none⟩ = some (.int .i64 x.id) := hat 0 _ rfl
   have c1 : wr.cell? ⟨b, off + k * 3 + 1, none⟩ = some (.int .i64 x.max) := hat 1 _ rfl
   have c2 : wr.cell? ⟨b, off + k * 3 + 2, none⟩ = some (.slice x.itemsA x.items.length x.itemsC) := hat 2 _ rfl
   have HX : Hid (l[k]? = some x ∧ (x.items.length ≤ maxLen ∧ ∀ s ∈ x.items, s.size ≤ maxLen)) := ⟨hx, HC.out.2 x hmem⟩
   have HK : Hid (strK.Came wr x.itemsA x.items) := ⟨((HC.out.1.below HA.out.2.2).kid hx (r := (x.itemsA, strK.flat x.items)) (by simp [bufferK])), fun y _ r hr => by simp [strK] at hr⟩
   clear hx hmem hat
   go_wp2_with fail
   refine (szBuffer_l x r wr HX.out.2 HK.out r0 (by omega)).mono ?_
   rintro e w1 ⟨r2, rfl, q0, q1, q2, hb1⟩
   have HB1 : Hid (Below w.heap.size w w1 ∧ (0 ≤ r2 → (x.items.length ≤ 1048576 ∧ ∀ s ∈ x.items, s.size ≤ 1048576) ∧ r2 + (x.items.length : Nat) ≤ r)) := ⟨HA.out.2.2.trans (hb1.mono HA.out.2.2.size), q2⟩
   clear hb1 q2 c0 c1 c2
   by_cases hneg : r2 < 0
   ·go_wp2
    go_ret
    exact szEnds_no HB1.out.1 h0
   go_wp2
   go_roundw
   case rel => exact ⟨k + 1, r2, by omega, by go_num, rfl, by omega, by omega, ⟨all_up HX.out.1 HA.out.1 (HB1.out.2 (by omega)).1, by rw [sumL_up HX.out.1]; have h5 := (HB1.out.2 (by omega)).2; have h6 := HA.out.2.1; omega, HB1.out.1⟩⟩
   case measure => simp [intOf]; omega
  ·have i1 : ¬ (k : Int) < (l.length : Int) := by omega
   go_wp2
   go_ret
   exact ⟨r, rfl, by omega, by omega, fun _ => ⟨⟨by omega, all_end (by omega) HA.out.1⟩, by have h5 := HA.out.2.1; rw [List.take_of_length_le (by omega)] at h5; omega⟩, HA.out.2.2⟩

set_option maxRecDepth 100000 in
set_option maxHeartbeats 4000000 in
theorem toBuffer_l (x : BufferD) (w : World) (hl : x.items.length ≤ 1048576) (hc : strK.Came w x.itemsA x.items) :
  Calls Tryz.prog 195 #[.agg #[.int .i64 x.id, .int .i64 x.max, .slice x.itemsA x.items.length x.itemsC]] w fun e w' => ∃ a c, e = .returned (.agg (bufferVs (bufferN.set x a c))) ∧ bufferN.Mine w' (w.heap.size + 1) (bufferN.set x a c) ∧ Below w.heap.size w w' := by
 have HB : Hid (Below w.heap.size w (((w.alloc (.cells #[.int .i64 x.id, .int .i64 x.max, .slice x.itemsA x.items.length x.itemsC] 239)).alloc (.cells #[.int .i64 0, .int .i64 0, .slice none 0 0] 144)).alloc (.cells #[.int .i64 x.id, .int .i64 x.max, .slice none 0 0] 144))) := alloc3_below _ _ _ _
 have HC : Hid (strK.Came (((w.alloc (.cells #[.int .i64 x.id, .int .i64 x.max, .slice x.itemsA x.items.length x.itemsC] 239)).alloc (.cells #[.int .i64 0, .int .i64 0, .slice none 0 0] 144)).alloc (.cells #[.int .i64 x.id, .int .i64 x.max, .slice none 0 0] 144)) x.itemsA x.items ∧ x.items.length ≤ 1048576) := ⟨hc.below HB.out, hl⟩
 have HX : Hid ((((w.alloc (.cells #[.int .i64 x.id, .int .i64 x.max, .slice x.itemsA x.items.length x.itemsC] 239)).alloc (.cells #[.int .i64 0, .int .i64 0, .slice none 0 0] 144)).alloc (.cells #[.int .i64 x.id, .int .i64 x.max, .slice none 0 0] 144)).heap[w.heap.size]? = some (.cells #[.int .i64 x.id, .int .i64 x.max, .slice x.itemsA x.items.length x.itemsC] 239 (0, 0)) ∧ (((w.alloc (.cells #[.int .i64 x.id, .int .i64 x.max, .slice x.itemsA x.items.length x.itemsC] 239)).alloc (.cells #[.int .i64 0, .int .i64 0, .slice none 0 0] 144)).alloc (.cells #[.int .i64 x.id, .int .i64 x.max, .slice none 0 0] 144)).heap[w.heap.size + 1]? = some (.cells #[.int .i64 0, .int .i64 0, .slice none 0 0] 144 (0, 0)) ∧ (((w.alloc (.cells #[.int .i64 x.id, .int .i64 x.max, .slice x.itemsA x.items.length x.itemsC] 239)).alloc (.cells #[.int .i64 0, .int .i64 0, .slice none 0 0] 144)).alloc (.cells #[.int .i64 x.id, .int .i64 x.max, .slice none 0 0] 144)).heap[w.heap.size + 1 + 1]? = some (.cells #[.int .i64 x.id, .int .i64 x.max, .slice none 0 0] 144 (0, 0)) ∧ (((w.alloc (.cells #[.int .i64 x.id, .int .i64 x.max, .slice x.itemsA x.items.length x.itemsC] 239)).alloc (.cells #[.int .i64 0, .int .i64 0, .slice none 0 0] 144)).alloc (.cells #[.int .i64 x.id, .int .i64 x.max, .slice none 0 0] 144)).heap.size = w.heap.size + 1 + 1 + 1) := alloc3_facts _ _ _ _
 clear hl hc
 go_enter Tryz.func195, Tryz.ntmps195
 go_wp2_with fail
 generalize ((w.alloc (.cells #[.int .i64 x.id, .int .i64 x.max, .slice x.itemsA x.items.length x.itemsC] 239)).alloc (.cells #[.int .i64 0, .int .i64 0, .slice none 0 0] 144)).alloc (.cells #[.int .i64 x.id, .int .i64 x.max, .slice none 0 0] 144) = W at *
 refine (toSStr_l x.itemsA x.items x.itemsC W HC.out.2 HC.out.1).mono ?_
 rintro e w1 ⟨rfl, hown, hb1⟩
 have HM : Hid (bufferN.Mine w1 W.heap.size (bufferN.set x (some ⟨W.heap.size, 0, none⟩) x.items.length) ∧ Below w.heap.size w w1) := ⟨Nest.mine_set (N := bufferN) hown, HB.out.trans (hb1.mono HB.out.size)⟩
 have y0 : w1.heap[w.heap.size]? = some (.cells #[.int .i64 x.id, .int .i64 x.max, .slice x.itemsA x.items.length x.itemsC] 239 (0, 0)) := (hb1.block _ (by have := HX.out.2.2.2; omega)).trans HX.out.1
 have y1 : w1.heap[w.heap.size + 1]? = some (.cells #[.int .i64 0, .int .i64 0, .slice none 0 0] 144 (0, 0)) := (hb1.block _ (by have := HX.out.2.2.2; omega)).trans HX.out.2.1
 have y2 : w1.heap[w.heap.size + 1 + 1]? = some (.cells #[.int .i64 x.id, .int .i64 x.max, .slice none 0 0] 144 (0, 0)) := (hb1.block _ (by have := HX.out.2.2.2; omega)).trans HX.out.2.2.1
 have t0 : w1.cell? ⟨w.heap.size + 1 + 1, 0, none⟩ = some (.int .i64 x.id) := by simp [World.cell?, y2]
 have u0 : w1.frozen? ⟨w.heap.size + 1 + 1, 0, none⟩ = false := by simp [World.frozen?, y2]
 have o0 : w1.cell? ⟨w.heap.size + 1, 0, none⟩ = some (.int .i64 0) := by simp [World.cell?, y1]
 have p0 : w1.frozen? ⟨w.heap.size + 1, 0, none⟩ = false := by simp [World.frozen?, y1]
 have t1 : w1.cell? ⟨w.heap.size + 1 + 1, 1, none⟩ = some (.int .i64 x.max) := by simp [World.cell?, y2]
 have u1 : w1.frozen? ⟨w.heap.size + 1 + 1, 1, none⟩ = false := by simp [World.frozen?, y2]
 have o1 : w1.cell? ⟨w.heap.size + 1, 1, none⟩ = some (.int .i64 0) := by simp [World.cell?, y1]
 have p1 : w1.frozen? ⟨w.heap.size + 1, 1, none⟩ = false := by simp [World.frozen?, y1]
 have t2 : w1.cell? ⟨w.heap.size + 1 + 1, 2, none⟩ = some (.slice none 0 0) := by simp [World.cell?, y2]
 have u2 : w1.frozen? ⟨w.heap.size + 1 + 1, 2, none⟩ = false := by simp [World.frozen?, y2]
 have o2 : w1.cell? ⟨w.heap.size + 1, 2, none⟩ = some (.slice none 0 0) := by simp [World.cell?, y1]
 have p2 : w1.frozen? ⟨w.heap.size + 1, 2, none⟩ = false := by simp [World.frozen?, y1]
 clear y0 y1 y2 hb1 hown
 dsimp only
 go_wp2
 refine bodyPost_ret (v := .agg #[.int .i64 x.id, .int .i64 x.max, .slice (some ⟨W.heap.size, 0, none⟩) x.items.length x.items.length]) (by simp [results, Tryz.results195, go_sem, *]) rfl ?_
 have hX := HX.out.2.2.2
 have h7 : Below w.heap.size w (setAllW (setAllW w1 (w.heap.size + 1 + 1) 2 [.slice (some ⟨W.heap.size, 0, none⟩) x.items.length x.items.length]) (w.heap.size + 1) 0 [.int .i64 x.id, .int .i64 x.max, .slice (some ⟨W.heap.size, 0, none⟩) x.items.length x.items.length]) := setAllW_below _ (by omega) (setAllW_below _ (by omega) HM.out.2)
 have h8 : bufferN.Mine (setAllW (setAllW w1 (w.heap.size + 1 + 1) 2 [.slice (some ⟨W.heap.size, 0, none⟩) x.items.length x.items.length]) (w.heap.size + 1) 0 [.int .i64 x.id, .int .i64 x.max, .slice (some ⟨W.heap.size, 0, none⟩) x.items.length x.items.length]) (w.heap.size + 1) (bufferN.set x (some ⟨W.heap.size, 0, none⟩) x.items.length) := (HM.out.1.low (by omega)).same fun g hg => by
  have := (HM.out.1.lt hg).1
  exact (setAllW_other _ (by omega)).trans (setAllW_other _ (by omega))
 simp only [setAllW, Nat.reduceAdd, Nat.zero_add] at h7 h8
 exact ⟨_, _, rfl, h8, h7⟩


theorem infoBuffer : (Tryz.prog.info? 144).map (fun i => (i.zero, i.size, decide (i.bytes ≤ 1000))) = some (some (.agg #[.int .i64 0, .int .i64 0, .slice none 0 0]), 3, true) := by kernel_rfl
theorem makeBuffer (n : Nat) (hn : n ≤ 1048576) (w : World) :
  (Instr.makeSlice 29 (.int .i64 (n : Int)) (.int .i64 (n : Int))).run Tryz.prog w = .ok (.slice (some ⟨w.heap.size, 0, none⟩) n n) (w.alloc (.cells (madeCells #[.int .i64 0, .int .i64 0, .slice none 0 0] (n * 3)) 144)) := by
 obtain ⟨i, hi, e⟩ := Option.map_eq_some_iff.1 infoBuffer
 simp only [Prod.mk.injEq, decide_eq_true_eq] at e
 obtain ⟨e1, e2, e3⟩ := e
 have hby : n * i.bytes ≤ 1048576 * 1000 := Nat.mul_le_mul hn e3
 have := run_make (P := Tryz.prog) w 29 144 i _ Tryz.underlying29 hi e1 .i64 .i64 n n (by omega) (by omega) (by rw [Nat.mul_comm] at hby; first | omega | (rw [Nat.mul_comm]; omega)) (by omega)
 rw [this, e2]
 simp [Value.cells]

set_option maxRecDepth 100000 in
set_option maxHeartbeats 4000000 in
theorem toSBuffer_l (a : Option Addr) (l : List BufferD) (cap : Nat) (w : World) (hl : l.length ≤ 1048576) (hk : ∀ x ∈ l, x.items.length ≤ 1048576) (hc : bufferK.Came w a l) :
  Calls Tryz.prog 117 #[.slice a l.length cap] w fun e w' => e = .returned (.slice (some ⟨w.heap.size, 0, none⟩) l.length l.length) ∧ ∃ out, CopyIs bufferN bufferK w w' l.length l out := by
 have hmk := makeBuffer l.length hl
 have HC : Hid (bufferK.Came w a l) := hc
 have HKL : Hid (∀ x ∈ l, x.items.length ≤ 1048576) := hk
 clear hk
 have HF : Hid (Fill bufferK 144 w (w.alloc (.cells (madeCells #[.int .i64 0, .int .i64 0, .slice none 0 0] (l.length * 3)) 144)) l.length []) := Fill.start (by rw [size_madeCells]; rfl)
 clear hc
 go_enter Tryz.func117, Tryz.ntmps117
 go_wp2_with fail
 go_loopw [4] (fun i wr => ∃ k : Nat, k ≤ l.length ∧ i = .int .i64 k ∧ ∃ out, Hid (FillN bufferN bufferK w wr l out k)) (fun i _ => l.length - (intOf i).toNat)
 case atStart => exact ⟨0, Nat.zero_le _, rfl, [], FillN.start HF.out⟩
 case round =>
  clear hmk HF
  obtain ⟨k, hk, rfl, out, HR⟩ := hrel
  by_cases hlt : k < l.length
  ·have i0 : (0 : Int) ≤ (k : Int) := by omega
   have i1 : (k : Int) < (l.length : Int) := by omega
   obtain ⟨x, hx⟩ : ∃ x, l[k]? = some x := ⟨_, List.getElem?_eq_getElem hlt⟩
   obtain ⟨b, off, rfl, hat⟩ := (HC.out.below HR.out.fill.bel).at hx
   have c0 : wr.cell? ⟨b, off + k * 3, none⟩ = some (.int .i64 x.id) := hat 0 _ rfl
   have c1 : wr.cell? ⟨b, off + k * 3 + 1, none⟩ = some (.int .i64 x.max) := hat 1 _ rfl
   have c2 : wr.cell? ⟨b, off + k * 3 + 2, none⟩ = some (.slice x.itemsA x.items.length x.itemsC) := hat 2 _ rfl
   have HX : Hid (l[k]? = some x) := hx
   have HK : Hid (strK.Came wr x.itemsA x.items ∧ x.items.length ≤ 1048576) := ⟨⟨((HC.out.below HR.out.fill.bel).kid hx (r := (x.itemsA, strK.flat x.items)) (by simp [bufferK])), fun y _ r hr => by simp [strK] at hr⟩, HKL.out x (List.mem_of_getElem? hx)⟩
   have hfl := HR.out.fill.lt
   clear hx hat
   go_wp2_with fail
   refine (toBuffer_l x wr HK.out.2 HK.out.1).mono ?_
   rintro e w1 ⟨a1, cp1, rfl, hmine, hb1⟩
   have HR1 : Hid (FillN bufferN bufferK w w1 l out k) := HR.out.below hb1
   have HB1 : Hid (wr.heap.size ≤ w1.heap.size) := hb1.size
   obtain ⟨⟨u, hu⟩, hf⟩ := HR1.out.fill.at
   have d0 := hu (k * 3) (by show k * 3 < l.length * 3; omega)
   have f0 := hf (k * 3)
   have d1 := hu (k * 3 + 1) (by show k * 3 + 1 < l.length * 3; omega)
   have f1 := hf (k * 3 + 1)
   have d2 := hu (k * 3 + 2) (by show k * 3 + 2 < l.length * 3; omega)
   have f2 := hf (k * 3 + 2)
   have h5 := HR1.out.more hlt HX.out (hmine.low (by have := hfl; omega)) (fun g hg => by have := (hmine.lt hg).1; omega) HR.out
   rw [show bufferK.vals (bufferN.set x a1 cp1) = [.int .i64 x.id, .int .i64 x.max, .slice a1 x.items.length cp1] from rfl, show bufferK.n = 3 from rfl] at h5
   simp only [setAllW, Nat.add_assoc, Nat.reduceAdd] at h5
   have HS : Hid (FillN bufferN bufferK w (((w1.setCell ⟨w.heap.size, k * 3, none⟩ (.int .i64 x.id)).setCell ⟨w.heap.size, k * 3 + 1, none⟩ (.int .i64 x.max)).setCell ⟨w.heap.size, k * 3 + 2, none⟩ (.slice a1 x.items.length cp1)) l (out ++ [bufferN.set x a1 cp1]) (k + 1)) := h5
   clear h5
   unfold bufferVs
   clear hu hf hb1 HR HR1 hmine c0 c1 c2
   go_wp2
   go_roundw
   case rel => exact ⟨k + 1, by omega, by go_num, _, HS.out⟩
   case measure => simp [intOf]; omega
  ·have i1 : ¬ (k : Int) < (l.length : Int) := by omega
   have ek : k = l.length := by omega
   subst ek
   go_wp2
   go_ret
   exact ⟨rfl, out, HR.out.done (by unfold maxLen; omega)⟩

set_option maxRecDepth 100000 in
set_option maxHeartbeats 4000000 in
theorem eqBuffer_l (x y : BufferD) (w : World) (hp : y.toBufferP = x.toBufferP) (hl : x.items.length ≤ 1048576) (hx : Row w x.itemsA (strK.flat x.items)) (hy : Row w y.itemsA (strK.flat y.items)) :
  Calls Tryz.prog 199 #[.agg #[.int .i64 x.id, .int .i64 x.max, .slice x.itemsA x.items.length x.itemsC], .agg #[.int .i64 y.id, .int .i64 y.max, .slice y.itemsA y.items.length y.itemsC]] w fun e w' => e = .returned (.bool true) ∧ Below w.heap.size w w' := by
 obtain ⟨p, xa, xc⟩ := x
 obtain ⟨p', ya, yc⟩ := y
 simp only at hp
 subst hp
 obtain ⟨v0, v1, v2⟩ := p'
 simp only at hl hx hy
 have HB : Hid (Below w.heap.size w ((w.alloc (.cells #[.int .i64 v0, .int .i64 v1, .slice xa v2.length xc] 144)).alloc (.cells #[.int .i64 v0, .int .i64 v1, .slice ya v2.length yc] 144))) := alloc2_below _ _ _
 have HR : Hid (Row ((w.alloc (.cells #[.int .i64 v0, .int .i64 v1, .slice xa v2.length xc] 144)).alloc (.cells #[.int .i64 v0, .int .i64 v1, .slice ya v2.length yc] 144)) xa (strK.flat v2) ∧ Row ((w.alloc (.cells #[.int .i64 v0, .int .i64 v1, .slice xa v2.length xc] 144)).alloc (.cells #[.int .i64 v0, .int .i64 v1, .slice ya v2.length yc] 144)) ya (strK.flat v2) ∧ v2.length ≤ 1048576) := ⟨hx.below HB.out, hy.below HB.out, hl⟩
 have HX : Hid (((w.alloc (.cells #[.int .i64 v0, .int .i64 v1, .slice xa v2.length xc] 144)).alloc (.cells #[.int .i64 v0, .int .i64 v1, .slice ya v2.length yc] 144)).heap[w.heap.size]? = some (.cells #[.int .i64 v0, .int .i64 v1, .slice xa v2.length xc] 144 (0, 0)) ∧ ((w.alloc (.cells #[.int .i64 v0, .int .i64 v1, .slice xa v2.length xc] 144)).alloc (.cells #[.int .i64 v0, .int .i64 v1, .slice ya v2.length yc] 144)).heap[w.heap.size + 1]? = some (.cells #[.int .i64 v0, .int .i64 v1, .slice ya v2.length yc] 144 (0, 0))) := alloc2_facts _ _ _
 clear hx hy hl
 go_enter Tryz.func199, Tryz.ntmps199
 go_wp2_with fail
 generalize (w.alloc (.cells #[.int .i64 v0, .int .i64 v1, .slice xa v2.length xc] 144)).alloc (.cells #[.int .i64 v0, .int .i64 v1, .slice ya v2.length yc] 144) = W at *
 refine (eqSStr_l xa ya v2 xc yc W HR.out.2.2 ⟨HR.out.1, fun _ _ r hr => by simp [strK] at hr⟩ ⟨HR.out.2.1, fun _ _ r hr => by simp [strK] at hr⟩).mono ?_
 rintro e w1 ⟨rfl, hb1⟩
 have HB1 : Hid (Below w.heap.size w w1) := HB.out.trans (hb1.mono HB.out.size)
 have x0 := (hb1.block _ (Array.getElem?_eq_some_iff.1 HX.out.1).1).trans HX.out.1
 have x1 := (hb1.block _ (Array.getElem?_eq_some_iff.1 HX.out.2).1).trans HX.out.2
 clear hb1 HX HR x0 x1
 go_wp2
 go_ret
 exact ⟨rfl, HB1.out⟩

def EqSBuffer (w : World) (a a' : Option Addr) (l l' : List BufferD) (x y : BufferD) (g g' k : Nat) (w' : World) : Prop := ((w'.cell? ⟨g, k * 3, none⟩ = some (.int .i64 x.id) ∧ w'.cell? ⟨g, k * 3 + 1, none⟩ = some (.int .i64 x.max) ∧ w'.cell? ⟨g, k * 3 + 2, none⟩ = some (.slice x.itemsA x.items.length x.itemsC)) ∧ (w'.cell? ⟨g', k * 3, none⟩ = some (.int .i64 y.id) ∧ w'.cell? ⟨g', k * 3 + 1, none⟩ = some (.int .i64 y.max) ∧ w'.cell? ⟨g', k * 3 + 2, none⟩ = some (.slice y.itemsA y.items.length y.itemsC))) ∧ Hid (bufferK.Lies w' a l ∧ bufferK.Lies w' a' l' ∧ Below w.heap.size w w')
theorem eqSBuffer_of {w w' : World} {a a' : Option Addr} {l l' : List BufferD} {x y : BufferD} {g g' k : Nat} (ha : a = some ⟨g, 0, none⟩) (ha' : a' = some ⟨g', 0, none⟩) (hx : l[k]? = some x) (hy : l'[k]? = some y) (h : bufferK.Lies w' a l ∧ bufferK.Lies w' a' l' ∧ Below w.heap.size w w') : EqSBuffer w a a' l l' x y g g' k w' := by
 obtain ⟨g1, e1, h1⟩ := h.1.at hx
 obtain ⟨g2, e2, h2⟩ := h.2.1.at hy
 rw [ha] at e1
 rw [ha'] at e2
 cases e1
 cases e2
 exact ⟨⟨⟨h1 0 _ rfl, h1 1 _ rfl, h1 2 _ rfl⟩, ⟨h2 0 _ rfl, h2 1 _ rfl, h2 2 _ rfl⟩⟩, h⟩
set_option maxRecDepth 100000 in
set_option maxHeartbeats 4000000 in
theorem eqSBuffer_l (a a' : Option Addr) (l l' : List BufferD) (cap cap' : Nat) (w : World) (hl : l.length ≤ 1048576) (hk : ∀ x ∈ l, x.items.length ≤ 1048576) (hp : l'.map (·.toBufferP) = l.map (·.toBufferP)) (h : bufferK.Lies w a l) (h' : bufferK.Lies w a' l') :
  Calls Tryz.prog 123 #[.slice a l.length cap, .slice a' l.length cap'] w fun e w' => e = .returned (.bool true) ∧ Below w.heap.size w w' := by
 have HL : Hid (bufferK.Lies w a l ∧ bufferK.Lies w a' l' ∧ (∀ x ∈ l, x.items.length ≤ 1048576) ∧ l'.map (·.toBufferP) = l.map (·.toBufferP)) := ⟨h, h', hk, hp⟩
 clear h h' hk hp
 go_enter Tryz.func123, Tryz.ntmps123
 go_wp2_with fail
 go_loopw [5] (fun i wr => ∃ k : Nat, k ≤ l.length ∧ i = .int .i64 k ∧ Hid (Below w.heap.size w wr)) (fun i _ => l.length - (intOf i).toNat)
 case atStart => exact ⟨0, Nat.zero_le _, rfl, Below.refl _ _⟩
 case round =>
  obtain ⟨k, hk, rfl, HB⟩ := hrel
  by_cases hlt : k < l.length
  ·have i0 : (0 : Int) ≤ (k : Int) := by omega
   have i1 : (k : Int) < (l.length : Int) := by omega
   obtain ⟨x, hx⟩ : ∃ x, l[k]? = some x := ⟨_, List.getElem?_eq_getElem hlt⟩
   obtain ⟨g, ha, -⟩ := HL.out.1.at hx
   obtain ⟨y, hy, hpy⟩ := map_same HL.out.2.2.2 hx
   obtain ⟨g', ha', -⟩ := HL.out.2.1.at hy
   have HX : Hid (a = some ⟨g, 0, none⟩ ∧ a' = some ⟨g', 0, none⟩ ∧ l[k]? = some x ∧ l'[k]? = some y ∧ y.toBufferP = x.toBufferP ∧ x.items.length ≤ 1048576) := ⟨ha, ha', hx, hy, hpy, HL.out.2.2.1 x (List.mem_of_getElem? hx)⟩
   have HS : Hid (EqSBuffer w a a' l l' x y g g' k wr) := eqSBuffer_of ha ha' hx hy ⟨HL.out.1.below HB.out, HL.out.2.1.below HB.out, HB.out⟩
   clear hx hy hpy
   rw [ha, ha']
   clear ha ha'
   go_wp2_with fail
   refine tame_region (EqSBuffer w a a' l l' x y g g' k) (by kernel_rfl) (eqSBuffer_of HX.out.1 HX.out.2.1 HX.out.2.2.1 HX.out.2.2.2.1 ⟨HS.out.2.out.1.below (Below.refl _ _).drew, HS.out.2.out.2.1.below (Below.refl _ _).drew, HS.out.2.out.2.2.drew⟩) ?_
   iterate 8 (refine yl (v := ?_) ?_ ?_; rotate_left; (intro w0 hS0; obtain ⟨⟨⟨q0, q1, q2⟩, ⟨r0, r1, r2⟩⟩, hH⟩ := hS0; go_simp; try with_reducible rfl); simp only [pt, sb, s0, s1])
   refine cl (.bool true) 199 #[.agg #[.int .i64 x.id, .int .i64 x.max, .slice x.itemsA x.items.length x.itemsC], .agg #[.int .i64 y.id, .int .i64 y.max, .slice y.itemsA y.items.length y.itemsC]] ?_ ?_ ?_
   ·intro w0 hS0
    obtain ⟨⟨⟨q0, q1, q2⟩, ⟨r0, r1, r2⟩⟩, hH⟩ := hS0
    go_simp
    try with_reducible rfl
   ·intro w0 hS0
    refine (eqBuffer_l x y w0 HX.out.2.2.2.2.1 HX.out.2.2.2.2.2 (hS0.2.out.1.kid HX.out.2.2.1 (r := (x.itemsA, strK.flat x.items)) (by simp [bufferK])) (hS0.2.out.2.1.kid HX.out.2.2.2.1 (r := (y.itemsA, strK.flat y.items)) (by simp [bufferK]))).mono ?_
    rintro e w2 ⟨rfl, hb2⟩
    exact ⟨rfl, eqSBuffer_of HX.out.1 HX.out.2.1 HX.out.2.2.1 HX.out.2.2.2.1 ⟨hS0.2.out.1.below hb2, hS0.2.out.2.1.below hb2, hS0.2.out.2.2.trans (hb2.mono hS0.2.out.2.2.size)⟩⟩
   simp only [pt, sb, s0, s1]
   (refine yl (v := ?_) ?_ ?_; rotate_left; (intro w0 hS0; obtain ⟨⟨⟨q0, q1, q2⟩, ⟨r0, r1, r2⟩⟩, hH⟩ := hS0; go_simp; try with_reducible rfl); simp only [pt, sb, s0, s1])
   refine tame_done (by kernel_rfl) ?_ _
   intro w1 hS1
   have HZ : Hid (Below w.heap.size w w1) := hS1.2.out.2.2
   clear hS1
   go_wp2
   go_roundw
   case rel => exact ⟨k + 1, by omega, by go_num, HZ.out⟩
   case measure => simp [intOf]; omega
  ·have i1 : ¬ (k : Int) < (l.length : Int) := by omega
   go_wp2
   go_ret
   exact ⟨rfl, HB.out⟩

end Go.Proofs.YtkbcplnlehdjfaaGreat

/- The laws' functions on things of the kind Port: measured, copied, held against each other. (Made by mklw.py.) -/
namespace Go.Proofs.YtkbcplnlehdjfaaGreat
open Go.RowKit
attribute [local go_sem ↓] Go.wp_at_zero Go.wp_at_succ

set_option maxHeartbeats 2000000 in
theorem szPort_l (x : PortD) (left : Int) (w : World) (hb : (x.items.length ≤ maxLen ∧ ∀ s ∈ x.items, s.size ≤ maxLen)) (hc : strK.Came w x.itemsA x.items) (h0 : 0 ≤ left) (h1 : left ≤ 1048576) :
  Calls Tryz.prog 68 #[.agg #[.int .i64 x.id, .bool x.out, .bool x.queue, .int .i64 x.max, .slice x.itemsA x.items.length x.itemsC], .int .i64 left] w fun e w' => SzEnds w left (x.items.length) ((x.items.length ≤ 1048576 ∧ ∀ s ∈ x.items, s.size ≤ 1048576)) e w' := by
 have HB : Hid ((x.items.length ≤ maxLen ∧ ∀ s ∈ x.items, s.size ≤ maxLen)) := hb
 have HC : Hid (strK.Came (w.alloc (.cells #[.int .i64 x.id, .bool x.out, .bool x.queue, .int .i64 x.max, .slice x.itemsA x.items.length x.itemsC] 88)) x.itemsA x.items) := hc.below ((Below.refl _ _).alloc (Nat.le_refl _) _)
 clear hc
 have HW : Hid (Below w.heap.size w (w.alloc (.cells #[.int .i64 x.id, .bool x.out, .bool x.queue, .int .i64 x.max, .slice x.itemsA x.items.length x.itemsC] 88))) := (Below.refl _ _).alloc (Nat.le_refl _) _
 clear hb
 go_enter Tryz.func68, Tryz.ntmps68
 have HX : Hid ((w.alloc (.cells #[.int .i64 x.id, .bool x.out, .bool x.queue, .int .i64 x.max, .slice x.itemsA x.items.length x.itemsC] 88)).heap[w.heap.size]? = some (.cells #[.int .i64 x.id, .bool x.out, .bool x.queue, .int .i64 x.max, .slice x.itemsA x.items.length x.itemsC] 88 (0, 0))) := heap_alloc_new _ _
 go_wp2_with fail
 generalize w.alloc (.cells #[.int .i64 x.id, .bool x.out, .bool x.queue, .int .i64 x.max, .slice x.itemsA x.items.length x.itemsC] 88) = W at *
 refine (szSStr_l x.itemsA x.items x.itemsC left W HB.out.1 HC.out HB.out.2 h0 h1).mono ?_
 rintro e w1 ⟨r1, rfl, q0, q1, q2, hb1⟩
 have HB1 : Hid (Below w.heap.size w w1) := HW.out.trans (hb1.mono HW.out.size)
 have HX1 : Hid (w1.heap[w.heap.size]? = some (.cells #[.int .i64 x.id, .bool x.out, .bool x.queue, .int .i64 x.max, .slice x.itemsA x.items.length x.itemsC] 88 (0, 0))) := (hb1.block _ (Array.getElem?_eq_some_iff.1 HX.out).1).trans HX.out
 have HQ : Hid (0 ≤ r1 → (x.items.length ≤ 1048576 ∧ ∀ s ∈ x.items, s.size ≤ 1048576) ∧ r1 + (x.items.length : Nat) ≤ left) := q2
 clear hb1 HX q2
 by_cases hn : r1 < 0
 ·go_wp2
  go_ret
  exact szEnds_no HB1.out h0
 go_wp2
 go_ret
 exact ⟨r1, rfl, by omega, by omega, fun _ => HQ.out (by omega), HB1.out⟩

set_option maxHeartbeats 2000000 in
theorem szSPort_l (a : Option Addr) (l : List PortD) (cap : Nat) (left : Int) (w : World) (hl : l.length ≤ maxLen) (hc : portK.Came w a l) (hs : ∀ x ∈ l, (x.items.length ≤ maxLen ∧ ∀ s ∈ x.items, s.size ≤ maxLen)) (h0 : 0 ≤ left) (h1 : left ≤ 1048576) :
  Calls Tryz.prog 112 #[.slice a l.length cap, .int .i64 left] w fun e w' => SzEnds w left (l.length + sumL (fun x : PortD => x.items.length) l) (l.length ≤ 1048576 ∧ ∀ x ∈ l, (x.items.length ≤ 1048576 ∧ ∀ s ∈ x.items, s.size ≤ 1048576)) e w' := by
 have hl' := hl
 unfold maxLen at hl'
 by_cases hn : left - (l.length : Int) < 0
 ·go_enter Tryz.func112, Tryz.ntmps112
  go_wp2
  go_ret
  exact szEnds_no (Below.refl _ _) h0
 have HC : Hid (portK.Came w a l ∧ ∀ x ∈ l, (x.items.length ≤ maxLen ∧ ∀ s ∈ x.items, s.size ≤ maxLen)) := ⟨hc, hs⟩
 clear hc hs hl
 go_enter Tryz.func112, Tryz.ntmps112
 go_wp2_with fail
 go_loopw [1, 5] (fun q i wr => ∃ (k : Nat) (r : Int), k ≤ l.length ∧ i = .int .i64 k ∧ q = .int .i64 r ∧ 0 ≤ r ∧ r ≤ left - (l.length : Int) ∧ Hid ((∀ x ∈ l.take k, (x.items.length ≤ 1048576 ∧ ∀ s ∈ x.items, s.size ≤ 1048576)) ∧ r + (sumL (fun x : PortD => x.items.length) (l.take k) : Nat) ≤ left - (l.length : Int) ∧ Below w.heap.size w wr)) (fun _ i _ => l.length - (intOf i).toNat)
 case atStart => exact ⟨0, left - (l.length : Int), Nat.zero_le _, rfl, rfl, by omega, by omega, ⟨by simp, by simp [sumL], Below.refl _ _⟩⟩
 case round =>
  obtain ⟨k, r, hk, rfl, rfl, r0, r1, HA⟩ := hrel
  by_cases hlt : k < l.length
  ·have i0 : (0 : Int) ≤ (k : Int) := by omega
   have i1 : (k : Int) < (l.length : Int) := by omega
   obtain ⟨x, hx⟩ : ∃ x, l[k]? = some x := ⟨_, List.getElem?_eq_getElem hlt⟩
   have hmem := List.mem_of_getElem? hx
   obtain ⟨b, off, rfl, hat⟩ := (HC.out.1.below HA.out.2.2).at hx
   have c0 : wr.cell? ⟨b, off + k * 5, none⟩ = some (.int .i64 x.id) := hat 0 _ rfl
   have c1 : wr.cell? ⟨b, off + k * 5 + 1, none⟩ = some (.bool x.out) := hat 1 _ rfl
   have c2 : wr.cell? ⟨b, off + k * 5 + 2, none⟩ = some (.bool x.queue) := hat 2 _ rfl
   have c3 : wr.cell? ⟨b, off + k * 5 + 3, none⟩ = some (.int .i64 x.max) := hat 3 _ rfl
   have c4 : wr.cell? ⟨b, off + k * 5 + 4, none⟩ = some (.slice x.itemsA x.items.length x.itemsC) := hat 4 _ rfl
   have HX : Hid (l[k]? = some x ∧ (x.items.length ≤ maxLen ∧ ∀ s ∈ x.items, s.size ≤ maxLen)) := ⟨hx, HC.out.2 x hmem⟩
   have HK : Hid (strK.Came wr x.itemsA x.items) := ⟨((HC.out.1.below HA.out.2.2).kid hx (r := (x.itemsA, strK.flat x.items)) (by simp [portK])), fun y _ r hr => by simp [strK] at hr⟩
   clear hx hmem hat
   go_wp2_with fail
   refine (szPort_l x r wr HX.out.2 HK.out r0 (by omega)).mono ?_
   rintro e w1 ⟨r2, rfl, q0, q1, q2, hb1⟩
   have HB1 : Hid (Below w.heap.size w w1 ∧ (0 ≤ r2 → (x.items.length ≤ 1048576 ∧ ∀ s ∈ x.items, s.size ≤ 1048576) ∧ r2 + (x.items.length : Nat) ≤ r)) := ⟨HA.out.2.2.trans (hb1.mono HA.out.2.2.size), q2⟩
   clear hb1 q2 c0 c1 c2 c3 c4
   by_cases hneg : r2 < 0
   ·go_wp2
    go_ret
    exact szEnds_no HB1.out.1 h0
   go_wp2
   go_roundw
   case rel => exact ⟨k + 1, r2, by omega, by go_num, rfl, by omega, by omega, ⟨all_up HX.out.1 HA.out.1 (HB1.out.2 (by omega)).1, by rw [sumL_up HX.out.1]; have h5 := (HB1.out.2 (by omega)).2; have h6 := HA.out.2.1; omega, HB1.out.1⟩⟩
   case measure => simp [intOf]; omega
  ·have i1 : ¬ (k : Int) < (l.length : Int) := by omega
   go_wp2
   go_ret
   exact ⟨r, rfl, by omega, by omega, fun _ => ⟨⟨by omega, all_end (by omega) HA.out.1⟩, by have h5 := HA.out.2.1; rw [List.take_of_length_le (by omega)] at h5; omega⟩, HA.out.2.2⟩

set_option maxRecDepth 100000 in
set_option maxHeartbeats 4000000 in
theorem toPort_l (x : PortD) (w : World) (hl : x.items.length ≤ 1048576) (hc : strK.Came w x.itemsA x.items) :
  Calls Tryz.prog 69 #[.agg #[.int .i64 x.id, .bool x.out, .bool x.queue, .int .i64 x.max, .slice x.itemsA x.items.length x.itemsC]] w fun e w' => ∃ a c, e = .returned (.agg (portVs (portN.set x a c))) ∧ portN.Mine w' (w.heap.size + 1) (portN.set x a c) ∧ Below w.heap.size w w' := by
 have HB : Hid (Below w.heap.size w (((w.alloc (.cells #[.int .i64 x.id, .bool x.out, .bool x.queue, .int .i64 x.max, .slice x.itemsA x.items.length x.itemsC] 88)).alloc (.cells #[.int .i64 0, .bool false, .bool false, .int .i64 0, .slice none 0 0] 61)).alloc (.cells #[.int .i64 x.id, .bool x.out, .bool x.queue, .int .i64 x.max, .slice none 0 0] 61))) := alloc3_below _ _ _ _
 have HC : Hid (strK.Came (((w.alloc (.cells #[.int .i64 x.id, .bool x.out, .bool x.queue, .int .i64 x.max, .slice x.itemsA x.items.length x.itemsC] 88)).alloc (.cells #[.int .i64 0, .bool false, .bool false, .int .i64 0, .slice none 0 0] 61)).alloc (.cells #[.int .i64 x.id, .bool x.out, .bool x.queue, .int .i64 x.max, .slice none 0 0] 61)) x.itemsA x.items ∧ x.items.length ≤ 1048576) := ⟨hc.below HB.out, hl⟩
 have HX : Hid ((((w.alloc (.cells #[.int .i64 x.id, .bool x.out, .bool x.queue, .int .i64 x.max, .slice x.itemsA x.items.length x.itemsC] 88)).alloc (.cells #[.int .i64 0, .bool false, .bool false, .int .i64 0, .slice none 0 0] 61)).alloc (.cells #[.int .i64 x.id, .bool x.out, .bool x.queue, .int .i64 x.max, .slice none 0 0] 61)).heap[w.heap.size]? = some (.cells #[.int .i64 x.id, .bool x.out, .bool x.queue, .int .i64 x.max, .slice x.itemsA x.items.length x.itemsC] 88 (0, 0)) ∧ (((w.alloc (.cells #[.int .i64 x.id, .bool x.out, .bool x.queue, .int .i64 x.max, .slice x.itemsA x.items.length x.itemsC] 88)).alloc (.cells #[.int .i64 0, .bool false, .bool false, .int .i64 0, .slice none 0 0] 61)).alloc (.cells #[.int .i64 x.id, .bool x.out, .bool x.queue, .int .i64 x.max, .slice none 0 0] 61)).heap[w.heap.size + 1]? = some (.cells #[.int .i64 0, .bool false, .bool false, .int .i64 0, .slice none 0 0] 61 (0, 0)) ∧ (((w.alloc (.cells #[.int .i64 x.id, .bool x.out, .bool x.queue, .int .i64 x.max, .slice x.itemsA x.items.length x.itemsC] 88)).alloc (.cells #[.int .i64 0, .bool false, .bool false, .int .i64 0, .slice none 0 0] 61)).alloc (.cells #[.int .i64 x.id, .bool x.out, .bool x.queue, .int .i64 x.max, .slice none 0 0] 61)).heap[w.heap.size + 1 + 1]? = some (.cells #[.int .i64 x.id, .bool x.out, .bool x.queue, .int .i64 x.max, .slice none 0 0] 61 (0, 0)) ∧ (((w.alloc (.cells #[.int .i64 x.id, .bool x.out, .bool x.queue, .int .i64 x.max, .slice x.itemsA x.items.length x.itemsC] 88)).alloc (.cells #[.int .i64 0, .bool false, .bool false, .int .i64 0, .slice none 0 0] 61)).alloc (.cells #[.int .i64 x.id, .bool x.out, .bool x.queue, .int .i64 x.max, .slice none 0 0] 61)).heap.size = w.heap.size + 1 + 1 + 1) := alloc3_facts _ _ _ _
 clear hl hc
 go_enter Tryz.func69, Tryz.ntmps69
 go_wp2_with fail
 generalize ((w.alloc (.cells #[.int .i64 x.id, .bool x.out, .bool x.queue, .int .i64 x.max, .slice x.itemsA x.items.length x.itemsC] 88)).alloc (.cells #[.int .i64 0, .bool false, .bool false, .int .i64 0, .slice none 0 0] 61)).alloc (.cells #[.int .i64 x.id, .bool x.out, .bool x.queue, .int .i64 x.max, .slice none 0 0] 61) = W at *
 refine (toSStr_l x.itemsA x.items x.itemsC W HC.out.2 HC.out.1).mono ?_
 rintro e w1 ⟨rfl, hown, hb1⟩
 have HM : Hid (portN.Mine w1 W.heap.size (portN.set x (some ⟨W.heap.size, 0, none⟩) x.items.length) ∧ Below w.heap.size w w1) := ⟨Nest.mine_set (N := portN) hown, HB.out.trans (hb1.mono HB.out.size)⟩
 have y0 : w1.heap[w.heap.size]? = some (.cells #[.int .i64 x.id, .bool x.out, .bool x.queue, .int .i64 x.max, .slice x.itemsA x.items.length x.itemsC] 88 (0, 0)) := (hb1.block _ (by have := HX.out.2.2.2; omega)).trans HX.out.1
 have y1 : w1.heap[w.heap.size + 1]? = some (.cells #[.int .i64 0, .bool false, .bool false, .int .i64 0, .slice none 0 0] 61 (0, 0)) := (hb1.block _ (by have := HX.out.2.2.2; omega)).trans HX.out.2.1
 have y2 : w1.heap[w.heap.size + 1 + 1]? = some (.cells #[.int .i64 x.id, .bool x.out, .bool x.queue, .int .i64 x.max, .slice none 0 0] 61 (0, 0)) := (hb1.block _ (by have := HX.out.2.2.2; omega)).trans HX.out.2.2.1
 have t0 : w1.cell? ⟨w.heap.size + 1 + 1, 0, none⟩ = some (.int .i64 x.id) := by simp [World.cell?, y2]
 have u0 : w1.frozen? ⟨w.heap.size + 1 + 1, 0, none⟩ = false := by simp [World.frozen?, y2]
 have o0 : w1.cell? ⟨w.heap.size + 1, 0, none⟩ = some (.int .i64 0) := by simp [World.cell?, y1]
 have p0 : w1.frozen? ⟨w.heap.size + 1, 0, none⟩ = false := by simp [World.frozen?, y1]
 have t1 : w1.cell? ⟨w.heap.size + 1 + 1, 1, none⟩ = some (.bool x.out) := by simp [World.cell?, y2]
 have u1 : w1.frozen? ⟨w.heap.size + 1 + 1, 1, none⟩ = false := by simp [World.frozen?, y2]
 have o1 : w1.cell? ⟨w.heap.size + 1, 1, none⟩ = some (.bool false) := by simp [World.cell?, y1]
 have p1 : w1.frozen? ⟨w.heap.size + 1, 1, none⟩ = false := by simp [World.frozen?, y1]
 have t2 : w1.cell? ⟨w.heap.size + 1 + 1, 2, none⟩ = some (.bool x.queue) := by simp [World.cell?, y2]
 have u2 : w1.frozen? ⟨w.heap.size + 1 + 1, 2, none⟩ = false := by simp [World.frozen?, y2]
 have o2 : w1.cell? ⟨w.heap.size + 1, 2, none⟩ = some (.bool false) := by simp [World.cell?, y1]
 have p2 : w1.frozen? ⟨w.heap.size + 1, 2, none⟩ = false := by simp [World.frozen?, y1]
 have t3 : w1.cell? ⟨w.heap.size + 1 + 1, 3, none⟩ = some (.int .i64 x.max) := by simp [World.cell?, y2]
 have u3 : w1.frozen? ⟨w.heap.size + 1 + 1, 3, none⟩ = false := by simp [World.frozen?, y2]
 have o3 : w1.cell? ⟨w.heap.size + 1, 3, none⟩ = some (.int .i64 0) := by simp [World.cell?, y1]
 have p3 : w1.frozen? ⟨w.heap.size + 1, 3, none⟩ = false := by simp [World.frozen?, y1]
 have t4 : w1.cell? ⟨w.heap.size + 1 + 1, 4, none⟩ = some (.slice none 0 0) := by simp [World.cell?, y2]
 have u4 : w1.frozen? ⟨w.heap.size + 1 + 1, 4, none⟩ = false := by simp [World.frozen?, y2]
 have o4 : w1.cell? ⟨w.heap.size + 1, 4, none⟩ = some (.slice none 0 0) := by simp [World.cell?, y1]
 have p4 : w1.frozen? ⟨w.heap.size + 1, 4, none⟩ = false := by simp [World.frozen?, y1]
 clear y0 y1 y2 hb1 hown
 dsimp only
 go_wp2
 refine bodyPost_ret (v := .agg #[.int .i64 x.id, .bool x.out, .bool x.queue, .int .i64 x.max, .slice (some ⟨W.heap.size, 0, none⟩) x.items.length x.items.length]) (by simp [results, Tryz.results69, go_sem, *]) rfl ?_
 have hX := HX.out.2.2.2
 have h7 : Below w.heap.size w (setAllW (setAllW w1 (w.heap.size + 1 + 1) 4 [.slice (some ⟨W.heap.size, 0, none⟩) x.items.length x.items.length]) (w.heap.size + 1) 0 [.int .i64 x.id, .bool x.out, .bool x.queue, .int .i64 x.max, .slice (some ⟨W.heap.size, 0, none⟩) x.items.length x.items.length]) := setAllW_below _ (by omega) (setAllW_below _ (by omega) HM.out.2)
 have h8 : portN.Mine (setAllW (setAllW w1 (w.heap.size + 1 + 1) 4 [.slice (some ⟨W.heap.size, 0, none⟩) x.items.length x.items.length]) (w.heap.size + 1) 0 [.int .i64 x.id, .bool x.out, .bool x.queue, .int .i64 x.max, .slice (some ⟨W.heap.size, 0, none⟩) x.items.length x.items.length]) (w.heap.size + 1) (portN.set x (some ⟨W.heap.size, 0, none⟩) x.items.length) := (HM.out.1.low (by omega)).same fun g hg => by
  have := (HM.out.1.lt hg).1
  exact (setAllW_other _ (by omega)).trans (setAllW_other _ (by omega))
 simp only [setAllW, Nat.reduceAdd, Nat.zero_add] at h7 h8
 exact ⟨_, _, rfl, h8, h7⟩


theorem infoPort : (Tryz.prog.info? 61).map (fun i => (i.zero, i.size, decide (i.bytes ≤ 1000))) = some (some (.agg #[.int .i64 0, .bool false, .bool false, .int .i64 0, .slice none 0 0]), 5, true) := by kernel_rfl
theorem makePort (n : Nat) (hn : n ≤ 1048576) (w : World) :
  (Instr.makeSlice 30 (.int .i64 (n : Int)) (.int .i64 (n : Int))).run Tryz.prog w = .ok (.slice (some ⟨w.heap.size, 0, none⟩) n n) (w.alloc (.cells (madeCells #[.int .i64 0, .bool false, .bool false, .int .i64 0, .slice none 0 0] (n * 5)) 61)) := by
 obtain ⟨i, hi, e⟩ := Option.map_eq_some_iff.1 infoPort
 simp only [Prod.mk.injEq, decide_eq_true_eq] at e
 obtain ⟨e1, e2, e3⟩ := e
 have hby : n * i.bytes ≤ 1048576 * 1000 := Nat.mul_le_mul hn e3
 have := run_make (P := Tryz.prog) w 30 61 i _ Tryz.underlying30 hi e1 .i64 .i64 n n (by omega) (by omega) (by rw [Nat.mul_comm] at hby; first | omega | (rw [Nat.mul_comm]; omega)) (by omega)
 rw [this, e2]
 simp [Value.cells]

set_option maxRecDepth 100000 in
set_option maxHeartbeats 4000000 in
theorem toSPort_l (a : Option Addr) (l : List PortD) (cap : Nat) (w : World) (hl : l.length ≤ 1048576) (hk : ∀ x ∈ l, x.items.length ≤ 1048576) (hc : portK.Came w a l) :
  Calls Tryz.prog 118 #[.slice a l.length cap] w fun e w' => e = .returned (.slice (some ⟨w.heap.size, 0, none⟩) l.length l.length) ∧ ∃ out, CopyIs portN portK w w' l.length l out := by
 have hmk := makePort l.length hl
 have HC : Hid (portK.Came w a l) := hc
 have HKL : Hid (∀ x ∈ l, x.items.length ≤ 1048576) := hk
 clear hk
 have HF : Hid (Fill portK 61 w (w.alloc (.cells (madeCells #[.int .i64 0, .bool false, .bool false, .int .i64 0, .slice none 0 0] (l.length * 5)) 61)) l.length []) := Fill.start (by rw [size_madeCells]; rfl)
 clear hc
 go_enter Tryz.func118, Tryz.ntmps118
 go_wp2_with fail
 go_loopw [4] (fun i wr => ∃ k : Nat, k ≤ l.length ∧ i = .int .i64 k ∧ ∃ out, Hid (FillN portN portK w wr l out k)) (fun i _ => l.length - (intOf i).toNat)
 case atStart => exact ⟨0, Nat.zero_le _, rfl, [], FillN.start HF.out⟩
 case round =>
  clear hmk HF
  obtain ⟨k, hk, rfl, out, HR⟩ := hrel
  by_cases hlt : k < l.length
  ·have i0 : (0 : Int) ≤ (k : Int) := by omega
   have i1 : (k : Int) < (l.length : Int) := by omega
   obtain ⟨x, hx⟩ : ∃ x, l[k]? = some x := ⟨_, List.getElem?_eq_getElem hlt⟩
   obtain ⟨b, off, rfl, hat⟩ := (HC.out.below HR.out.fill.bel).at hx
   have c0 : wr.cell? ⟨b, off + k * 5, none⟩ = some (.int .i64 x.id) := hat 0 _ rfl
   have c1 : wr.cell? ⟨b, off + k * 5 + 1, none⟩ = some (.bool x.out) := hat 1 _ rfl
   have c2 : wr.cell? ⟨b, off + k * 5 + 2, none⟩ = some (.bool x.queue) := hat 2 _ rfl
   have c3 : wr.cell? ⟨b, off + k * 5 + 3, none⟩ = some (.int .i64 x.max) := hat 3 _ rfl
   have c4 : wr.cell? ⟨b, off + k * 5 + 4, none⟩ = some (.slice x.itemsA x.items.length x.itemsC) := hat 4 _ rfl
   have HX : Hid (l[k]? = some x) := hx
   have HK : Hid (strK.Came wr x.itemsA x.items ∧ x.items.length ≤ 1048576) := ⟨⟨((HC.out.below HR.out.fill.bel).kid hx (r := (x.itemsA, strK.flat x.items)) (by simp [portK])), fun y _ r hr => by simp [strK] at hr⟩, HKL.out x (List.mem_of_getElem? hx)⟩
   have hfl := HR.out.fill.lt
   clear hx hat
   go_wp2_with fail
   refine (toPort_l x wr HK.out.2 HK.out.1).mono ?_
   rintro e w1 ⟨a1, cp1, rfl, hmine, hb1⟩
   have HR1 : Hid (FillN portN portK w w1 l out k) := HR.out.below hb1
   have HB1 : Hid (wr.heap.size ≤ w1.heap.size) := hb1.size
   obtain ⟨⟨u, hu⟩, hf⟩ := HR1.out.fill.at
   have d0 := hu (k * 5) (by show k * 5 < l.length * 5; omega)
   have f0 := hf (k * 5)
   have d1 := hu (k * 5 + 1) (by show k * 5 + 1 < l.length * 5; omega)
   have f1 := hf (k * 5 + 1)
   have d2 := hu (k * 5 + 2) (by show k * 5 + 2 < l.length * 5; omega)
   have f2 := hf (k * 5 + 2)
   have d3 := hu (k * 5 + 3) (by show k * 5 + 3 < l.length * 5; omega)
   have f3 := hf (k * 5 + 3)
   have d4 := hu (k * 5 + 4) (by show k * 5 + 4 < l.length * 5; omega)
   have f4 := hf (k * 5 + 4)
   have h5 := HR1.out.more hlt HX.out (hmine.low (by have := hfl; omega)) (fun g hg => by have := (hmine.lt hg).1; omega) HR.out
   rw [show portK.vals (portN.set x a1 cp1) = [.int .i64 x.id, .bool x.out, .bool x.queue, .int .i64 x.max, .slice a1 x.items.length cp1] from rfl, show portK.n = 5 from rfl] at h5
   simp only [setAllW, Nat.add_assoc, Nat.reduceAdd] at h5
   have HS : Hid (FillN portN portK w (((((w1.setCell ⟨w.heap.size, k * 5, none⟩ (.int .i64 x.id)).setCell ⟨w.heap.size, k * 5 + 1, none⟩ (.bool x.out)).setCell ⟨w.heap.size, k * 5 + 2, none⟩ (.bool x.queue)).setCell ⟨w.heap.size, k * 5 + 3, none⟩ (.int .i64 x.max)).setCell ⟨w.heap.size, k * 5 + 4, none⟩ (.slice a1 x.items.length cp1)) l (out ++ [portN.set x a1 cp1]) (k + 1)) := h5
   clear h5
   unfold portVs
   clear hu hf hb1 HR HR1 hmine c0 c1 c2 c3 c4
   go_wp2
   go_roundw
   case rel => exact ⟨k + 1, by omega, by go_num, _, HS.out⟩
   case measure => simp [intOf]; omega
  ·have i1 : ¬ (k : Int) < (l.length : Int) := by omega
   have ek : k = l.length := by omega
   subst ek
   go_wp2
   go_ret
   exact ⟨rfl, out, HR.out.done (by unfold maxLen; omega)⟩

set_option maxRecDepth 100000 in
set_option maxHeartbeats 4000000 in
theorem eqPort_l (x y : PortD) (w : World) (hp : y.toPortP = x.toPortP) (hl : x.items.length ≤ 1048576) (hx : Row w x.itemsA (strK.flat x.items)) (hy : Row w y.itemsA (strK.flat y.items)) :
  Calls Tryz.prog 70 #[.agg #[.int .i64 x.id, .bool x.out, .bool x.queue, .int .i64 x.max, .slice x.itemsA x.items.length x.itemsC], .agg #[.int .i64 y.id, .bool y.out, .bool y.queue, .int .i64 y.max, .slice y.itemsA y.items.length y.itemsC]] w fun e w' => e = .returned (.bool true) ∧ Below w.heap.size w w' := by
 obtain ⟨p, xa, xc⟩ := x
 obtain ⟨p', ya, yc⟩ := y
 simp only at hp
 subst hp
 obtain ⟨v0, v1, v2, v3, v4⟩ := p'
 simp only at hl hx hy
 have HB : Hid (Below w.heap.size w ((w.alloc (.cells #[.int .i64 v0, .bool v1, .bool v2, .int .i64 v3, .slice xa v4.length xc] 61)).alloc (.cells #[.int .i64 v0, .bool v1, .bool v2, .int .i64 v3, .slice ya v4.length yc] 61))) := alloc2_below _ _ _
 have HR : Hid (Row ((w.alloc (.cells #[.int .i64 v0, .bool v1, .bool v2, .int .i64 v3, .slice xa v4.length xc] 61)).alloc (.cells #[.int .i64 v0, .bool v1, .bool v2, .int .i64 v3, .slice ya v4.length yc] 61)) xa (strK.flat v4) ∧ Row ((w.alloc (.cells #[.int .i64 v0, .bool v1, .bool v2, .int .i64 v3, .slice xa v4.length xc] 61)).alloc (.cells #[.int .i64 v0, .bool v1, .bool v2, .int .i64 v3, .slice ya v4.length yc] 61)) ya (strK.flat v4) ∧ v4.length ≤ 1048576) := ⟨hx.below HB.out, hy.below HB.out, hl⟩
 have HX : Hid (((w.alloc (.cells #[.int .i64 v0, .bool v1, .bool v2, .int .i64 v3, .slice xa v4.length xc] 61)).alloc (.cells #[.int .i64 v0, .bool v1, .bool v2, .int .i64 v3, .slice ya v4.length yc] 61)).heap[w.heap.size]? = some (.cells #[.int .i64 v0, .bool v1, .bool v2, .int .i64 v3, .slice xa v4.length xc] 61 (0, 0)) ∧ ((w.alloc (.cells #[.int .i64 v0, .bool v1, .bool v2, .int .i64 v3, .slice xa v4.length xc] 61)).alloc (.cells #[.int .i64 v0, .bool v1, .bool v2, .int .i64 v3, .slice ya v4.length yc] 61)).heap[w.heap.size + 1]? = some (.cells #[.int .i64 v0, .bool v1, .bool v2, .int .i64 v3, .slice ya v4.length yc] 61 (0, 0))) := alloc2_facts _ _ _
 clear hx hy hl
 go_enter Tryz.func70, Tryz.ntmps70
 go_wp2_with fail
 generalize (w.alloc (.cells #[.int .i64 v0, .bool v1, .bool v2, .int .i64 v3, .slice xa v4.length xc] 61)).alloc (.cells #[.int .i64 v0, .bool v1, .bool v2, .int .i64 v3, .slice ya v4.length yc] 61) = W at *
 refine (eqSStr_l xa ya v4 xc yc W HR.out.2.2 ⟨HR.out.1, fun _ _ r hr => by simp [strK] at hr⟩ ⟨HR.out.2.1, fun _ _ r hr => by simp [strK] at hr⟩).mono ?_
 rintro e w1 ⟨rfl, hb1⟩
 have HB1 : Hid (Below w.heap.size w w1) := HB.out.trans (hb1.mono HB.out.size)
 have x0 := (hb1.block _ (Array.getElem?_eq_some_iff.1 HX.out.1).1).trans HX.out.1
 have x1 := (hb1.block _ (Array.getElem?_eq_some_iff.1 HX.out.2).1).trans HX.out.2
 clear hb1 HX HR x0 x1
 go_wp2
 go_ret
 exact ⟨rfl, HB1.out⟩

def EqSPort (w : World) (a a' : Option Addr) (l l' : List PortD) (x y : PortD) (g g' k : Nat) (w' : World) : Prop := ((w'.cell? ⟨g, k * 5, none⟩ = some (.int .i64 x.id) ∧ w'.cell? ⟨g, k * 5 + 1, none⟩ = some (.bool x.out) ∧ w'.cell? ⟨g, k * 5 + 2, none⟩ = some (.bool x.queue) ∧ w'.cell? ⟨g, k * 5 + 3, none⟩ = some (.int .i64 x.max) ∧ w'.cell? ⟨g, k * 5 + 4, none⟩ = some (.slice x.itemsA x.items.length x.itemsC)) ∧ (w'.cell? ⟨g', k * 5, none⟩ = some (.int .i64 y.id) ∧ w'.cell? ⟨g', k * 5 + 1, none⟩ = some (.bool y.out) ∧ w'.cell? ⟨g', k * 5 + 2, none⟩ = some (.bool y.queue) ∧ w'.cell? ⟨g', k * 5 + 3, none⟩ = some (.int .i64 y.max) ∧ w'.cell? ⟨g', k * 5 + 4, none⟩ = some (.slice y.itemsA y.items.length y.itemsC))) ∧ Hid (portK.Lies w' a l ∧ portK.Lies w' a' l' ∧ Below w.heap.size w w')
theorem eqSPort_of {w w' : World} {a a' : Option Addr} {l l' : List PortD} {x y : PortD} {g g' k : Nat} (ha : a = some ⟨g, 0, none⟩) (ha' : a' = some ⟨g', 0, none⟩) (hx : l[k]? = some x) (hy : l'[k]? = some y) (h : portK.Lies w' a l ∧ portK.Lies w' a' l' ∧ Below w.heap.size w w') : EqSPort w a a' l l' x y g g' k w' := by
 obtain ⟨g1, e1, h1⟩ := h.1.at hx
 obtain ⟨g2, e2, h2⟩ := h.2.1.at hy
 rw [ha] at e1
 rw [ha'] at e2
 cases e1
 cases e2
 exact ⟨⟨⟨h1 0 _ rfl, h1 1 _ rfl, h1 2 _ rfl, h1 3 _ rfl, h1 4 _ rfl⟩, ⟨h2 0 _ rfl, h2 1 _ rfl, h2 2 _ rfl, h2 3 _ rfl, h2 4 _ rfl⟩⟩, h⟩
set_option maxRecDepth 100000 in
set_option maxHeartbeats 4000000 in
theorem eqSPort_l (a a' : Option Addr) (l l' : List PortD) (cap cap' : Nat) (w : World) (hl : l.length ≤ 1048576) (hk : ∀ x ∈ l, x.items.length ≤ 1048576) (hp : l'.map (·.toPortP) = l.map (·.toPortP)) (h : portK.Lies w a l) (h' : portK.Lies w a' l') :
  Calls Tryz.prog 124 #[.slice a l.length cap, .slice a' l.length cap'] w fun e w' => e = .returned (.bool true) ∧ Below w.heap.size w w' := by
 have HL : Hid (portK.Lies w a l ∧ portK.Lies w a' l' ∧ (∀ x ∈ l, x.items.length ≤ 1048576) ∧ l'.map (·.toPortP) = l.map (·.toPortP)) := ⟨h, h', hk, hp⟩
 clear h h' hk hp
 go_enter Tryz.func124, Tryz.ntmps124
 go_wp2_with fail
 go_loopw [5] (fun i wr => ∃ k : Nat, k ≤ l.length ∧ i = .int .i64 k ∧ Hid (Below w.heap.size w wr)) (fun i _ => l.length - (intOf i).toNat)
 case atStart => exact ⟨0, Nat.zero_le _, rfl, Below.refl _ _⟩
 case round =>
  obtain ⟨k, hk, rfl, HB⟩ := hrel
  by_cases hlt : k < l.length
  ·have i0 : (0 : Int) ≤ (k : Int) := by omega
   have i1 : (k : Int) < (l.length : Int) := by omega
   obtain ⟨x, hx⟩ : ∃ x, l[k]? = some x := ⟨_, List.getElem?_eq_getElem hlt⟩
   obtain ⟨g, ha, -⟩ := HL.out.1.at hx
   obtain ⟨y, hy, hpy⟩ := map_same HL.out.2.2.2 hx
   obtain ⟨g', ha', -⟩ := HL.out.2.1.at hy
   have HX : Hid (a = some ⟨g, 0, none⟩ ∧ a' = some ⟨g', 0, none⟩ ∧ l[k]? = some x ∧ l'[k]? = some y ∧ y.toPortP = x.toPortP ∧ x.items.length ≤ 1048576) := ⟨ha, ha', hx, hy, hpy, HL.out.2.2.1 x (List.mem_of_getElem? hx)⟩
   have HS : Hid (EqSPort w a a' l l' x y g g' k wr) := eqSPort_of ha ha' hx hy ⟨HL.out.1.below HB.out, HL.out.2.1.below HB.out, HB.out⟩
   clear hx hy hpy
   rw [ha, ha']
   clear ha ha'
   go_wp2_with fail
   refine tame_region (EqSPort w a a' l l' x y g g' k) (by kernel_rfl) (eqSPort_of HX.out.1 HX.out.2.1 HX.out.2.2.1 HX.out.2.2.2.1 ⟨HS.out.2.out.1.below (Below.refl _ _).drew, HS.out.2.out.2.1.below (Below.refl _ _).drew, HS.out.2.out.2.2.drew⟩) ?_
   iterate 8 (refine yl (v := ?_) ?_ ?_; rotate_left; (intro w0 hS0; obtain ⟨⟨⟨q0, q1, q2, q3, q4⟩, ⟨r0, r1, r2, r3, r4⟩⟩, hH⟩ := hS0; go_simp; try with_reducible rfl); simp only [pt, sb, s0, s1])
   refine cl (.bool true) 70 #[.agg #[.int .i64 x.id, .bool x.out, .bool x.queue, .int .i64 x.max, .slice x.itemsA x.items.length x.itemsC], .agg #[.int .i64 y.id, .bool y.out, .bool y.queue, .int .i64 y.max, .slice y.itemsA y.items.length y.itemsC]] ?_ ?_ ?_
   ·intro w0 hS0
    obtain ⟨⟨⟨q0, q1, q2, q3, q4⟩, ⟨r0, r1, r2, r3, r4⟩⟩, hH⟩ := hS0
    go_simp
    try with_reducible rfl
   ·intro w0 hS0
    refine (eqPort_l x y w0 HX.out.2.2.2.2.1 HX.out.2.2.2.2.2 (hS0.2.out.1.kid HX.out.2.2.1 (r := (x.itemsA, strK.flat x.items)) (by simp [portK])) (hS0.2.out.2.1.kid HX.out.2.2.2.1 (r := (y.itemsA, strK.flat y.items)) (by simp [portK]))).mono ?_
    rintro e w2 ⟨rfl, hb2⟩
    exact ⟨rfl, eqSPort_of HX.out.1 HX.out.2.1 HX.out.2.2.1 HX.out.2.2.2.1 ⟨hS0.2.out.1.below hb2, hS0.2.out.2.1.below hb2, hS0.2.out.2.2.trans (hb2.mono hS0.2.out.2.2.size)⟩⟩
   simp only [pt, sb, s0, s1]
   (refine yl (v := ?_) ?_ ?_; rotate_left; (intro w0 hS0; obtain ⟨⟨⟨q0, q1, q2, q3, q4⟩, ⟨r0, r1, r2, r3, r4⟩⟩, hH⟩ := hS0; go_simp; try with_reducible rfl); simp only [pt, sb, s0, s1])
   refine tame_done (by kernel_rfl) ?_ _
   intro w1 hS1
   have HZ : Hid (Below w.heap.size w w1) := hS1.2.out.2.2
   clear hS1
   go_wp2
   go_roundw
   case rel => exact ⟨k + 1, by omega, by go_num, HZ.out⟩
   case measure => simp [intOf]; omega
  ·have i1 : ¬ (k : Int) < (l.length : Int) := by omega
   go_wp2
   go_ret
   exact ⟨rfl, HB.out⟩

end Go.Proofs.YtkbcplnlehdjfaaGreat

/- The laws' functions on a partition: measured, copied, held against each other. (Made by mklwp.py.) -/
namespace Go.Proofs.YtkbcplnlehdjfaaGreat
open Go.RowKit
attribute [local go_sem ↓] Go.wp_at_zero Go.wp_at_succ

/-- A partition as it came in. -/
structure PartD.Came (w : World) (p : PartD) : Prop where
 procs : procK.Came w p.procA p.procs
 sems : semK.Came w p.semA p.sems
 events : eventK.Came w p.eventA p.events
 boards : boardK.Came w p.boardA p.boards
 buffers : bufferK.Came w p.bufferA p.buffers
 ports : portK.Came w p.portA p.ports
theorem PartD.Came.below {w w' : World} {p : PartD} (h : p.Came w) (hb : Below w.heap.size w w') : p.Came w' := ⟨h.procs.below hb, h.sems.below hb, h.events.below hb, h.boards.below hb, h.buffers.below hb, h.ports.below hb⟩
structure PartD.Big (p : PartD) : Prop where
 nProc : p.procs.length ≤ maxLen
 nSem : p.sems.length ≤ maxLen
 nEvent : p.events.length ≤ maxLen
 nBoard : p.boards.length ≤ maxLen
 nBuffer : p.buffers.length ≤ maxLen
 nPort : p.ports.length ≤ maxLen
 procs : ∀ x ∈ p.procs, ((x.prog.length ≤ maxLen ∧ ∀ o ∈ x.prog, o.2.2.2.size ≤ maxLen) ∧ x.held.size ≤ maxLen ∧ x.got.size ≤ maxLen)
 boards : ∀ x ∈ p.boards, (x.text.size ≤ maxLen)
 buffers : ∀ x ∈ p.buffers, (x.items.length ≤ maxLen ∧ ∀ s ∈ x.items, s.size ≤ maxLen)
 ports : ∀ x ∈ p.ports, (x.items.length ≤ maxLen ∧ ∀ s ∈ x.items, s.size ≤ maxLen)
/-- All of it is short. -/
structure PartD.Shorts (p : PartD) : Prop where
 nProc : p.procs.length ≤ 1048576
 nSem : p.sems.length ≤ 1048576
 nEvent : p.events.length ≤ 1048576
 nBoard : p.boards.length ≤ 1048576
 nBuffer : p.buffers.length ≤ 1048576
 nPort : p.ports.length ≤ 1048576
 procs : ∀ x ∈ p.procs, x.Short
 boards : ∀ x ∈ p.boards, (x.text.size ≤ 1048576)
 buffers : ∀ x ∈ p.buffers, (x.items.length ≤ 1048576 ∧ ∀ s ∈ x.items, s.size ≤ 1048576)
 ports : ∀ x ∈ p.ports, (x.items.length ≤ 1048576 ∧ ∀ s ∈ x.items, s.size ≤ 1048576)
/-- How much there is in all. -/
def PartP.total (p : PartP) : Nat := p.procs.length + sumL (fun x : ProcP => x.prog.length) p.procs + p.sems.length + p.events.length + p.boards.length + (p.buffers.length + sumL (fun x : BufferP => x.items.length) p.buffers) + (p.ports.length + sumL (fun x : PortP => x.items.length) p.ports)
theorem PartD.total_is (p : PartD) : p.pure.total = p.procs.length + sumL (fun x : ProcD => x.prog.length) p.procs + p.sems.length + p.events.length + p.boards.length + (p.buffers.length + sumL (fun x : BufferD => x.items.length) p.buffers) + (p.ports.length + sumL (fun x : PortD => x.items.length) p.ports) := by
 simp only [PartP.total, PartD.pure, sumL, List.length_map, List.map_map]
 rfl

set_option maxRecDepth 100000 in
set_option maxHeartbeats 4000000 in
theorem szPart_l (p : PartD) (left : Int) (w : World) (hb : p.Big) (hc : p.Came w) (h0 : 0 ≤ left) (h1 : left ≤ 1048576) :
  Calls Tryz.prog 58 #[.agg p.cells, .int .i64 left] w fun e w' => SzEnds w left p.pure.total p.Shorts e w' := by
 have HB : Hid p.Big := hb
 have HX : Hid ((w.alloc (.cells #[.int .i64 p.id, .int .i64 p.next, .slice p.procA p.procs.length p.procC, .slice p.semA p.sems.length p.semC, .slice p.eventA p.events.length p.eventC, .slice p.boardA p.boards.length p.boardC, .slice p.bufferA p.buffers.length p.bufferC, .slice p.portA p.ports.length p.portC] 73)).heap[w.heap.size]? = some (.cells #[.int .i64 p.id, .int .i64 p.next, .slice p.procA p.procs.length p.procC, .slice p.semA p.sems.length p.semC, .slice p.eventA p.events.length p.eventC, .slice p.boardA p.boards.length p.boardC, .slice p.bufferA p.buffers.length p.bufferC, .slice p.portA p.ports.length p.portC] 73 (0, 0)) ∧ Below w.heap.size w (w.alloc (.cells #[.int .i64 p.id, .int .i64 p.next, .slice p.procA p.procs.length p.procC, .slice p.semA p.sems.length p.semC, .slice p.eventA p.events.length p.eventC, .slice p.boardA p.boards.length p.boardC, .slice p.bufferA p.buffers.length p.bufferC, .slice p.portA p.ports.length p.portC] 73))) := ⟨heap_alloc_new _ _, (Below.refl _ _).alloc (Nat.le_refl _) _⟩
 have HC : Hid (p.Came w) := hc
 clear hb hc
 unfold PartD.cells
 go_enter Tryz.func58, Tryz.ntmps58
 go_wp2_with fail
 generalize w.alloc (.cells #[.int .i64 p.id, .int .i64 p.next, .slice p.procA p.procs.length p.procC, .slice p.semA p.sems.length p.semC, .slice p.eventA p.events.length p.eventC, .slice p.boardA p.boards.length p.boardC, .slice p.bufferA p.buffers.length p.bufferC, .slice p.portA p.ports.length p.portC] 73) = W0 at *
 refine (szSProc_l p.procA p.procs p.procC left W0 HB.out.nProc (HC.out.procs.below HX.out.2) HB.out.procs (by omega) (by omega)).mono ?_
 rintro e W1 ⟨r1, rfl, a1, b1, s1, hb1⟩
 have HQ1 : Hid (0 ≤ r1 → (p.procs.length ≤ 1048576 ∧ ∀ x ∈ p.procs, x.Short) ∧ r1 + (p.procs.length + sumL (fun x : ProcD => x.prog.length) p.procs : Nat) ≤ left) := s1
 have HY : Hid (W1.heap[w.heap.size]? = some (.cells #[.int .i64 p.id, .int .i64 p.next, .slice p.procA p.procs.length p.procC, .slice p.semA p.sems.length p.semC, .slice p.eventA p.events.length p.eventC, .slice p.boardA p.boards.length p.boardC, .slice p.bufferA p.buffers.length p.bufferC, .slice p.portA p.ports.length p.portC] 73 (0, 0)) ∧ Below w.heap.size w W1) := ⟨(hb1.block _ (Array.getElem?_eq_some_iff.1 HX.out.1).1).trans HX.out.1, HX.out.2.trans (hb1.mono HX.out.2.size)⟩
 clear hb1 s1 HX
 have HX := HY
 clear HY
 by_cases n1 : r1 < 0
 ·go_wp2
  go_ret
  exact szEnds_no HX.out.2 h0
 have m1 : W1.cell? ⟨w.heap.size, 3, none⟩ = some (.slice p.semA p.sems.length p.semC) := by have := HX.out.1; simp [World.cell?, this]
 go_wp2_with fail
 clear m1
 refine (szSSem_l p.semA p.sems p.semC r1 W1 HB.out.nSem (by omega) (by omega)).mono ?_
 rintro e W2 ⟨r2, rfl, a2, b2, s2, hb2⟩
 have HQ2 : Hid (0 ≤ r2 → (p.sems.length ≤ 1048576) ∧ r2 + (p.sems.length : Nat) ≤ r1) := s2
 have HY : Hid (W2.heap[w.heap.size]? = some (.cells #[.int .i64 p.id, .int .i64 p.next, .slice p.procA p.procs.length p.procC, .slice p.semA p.sems.length p.semC, .slice p.eventA p.events.length p.eventC, .slice p.boardA p.boards.length p.boardC, .slice p.bufferA p.buffers.length p.bufferC, .slice p.portA p.ports.length p.portC] 73 (0, 0)) ∧ Below w.heap.size w W2) := ⟨(hb2.block _ (Array.getElem?_eq_some_iff.1 HX.out.1).1).trans HX.out.1, HX.out.2.trans (hb2.mono HX.out.2.size)⟩
 clear hb2 s2 HX
 have HX := HY
 clear HY
 by_cases n2 : r2 < 0
 ·go_wp2
  go_ret
  exact szEnds_no HX.out.2 h0
 have m2 : W2.cell? ⟨w.heap.size, 4, none⟩ = some (.slice p.eventA p.events.length p.eventC) := by have := HX.out.1; simp [World.cell?, this]
 go_wp2_with fail
 clear m2
 refine (szSEvent_l p.eventA p.events p.eventC r2 W2 HB.out.nEvent (by omega) (by omega)).mono ?_
 rintro e W3 ⟨r3, rfl, a3, b3, s3, hb3⟩
 have HQ3 : Hid (0 ≤ r3 → (p.events.length ≤ 1048576) ∧ r3 + (p.events.length : Nat) ≤ r2) := s3
 have HY : Hid (W3.heap[w.heap.size]? = some (.cells #[.int .i64 p.id, .int .i64 p.next, .slice p.procA p.procs.length p.procC, .slice p.semA p.sems.length p.semC, .slice p.eventA p.events.length p.eventC, .slice p.boardA p.boards.length p.boardC, .slice p.bufferA p.buffers.length p.bufferC, .slice p.portA p.ports.length p.portC] 73 (0, 0)) ∧ Below w.heap.size w W3) := ⟨(hb3.block _ (Array.getElem?_eq_some_iff.1 HX.out.1).1).trans HX.out.1, HX.out.2.trans (hb3.mono HX.out.2.size)⟩
 clear hb3 s3 HX
 have HX := HY
 clear HY
 by_cases n3 : r3 < 0
 ·go_wp2
  go_ret
  exact szEnds_no HX.out.2 h0
 have m3 : W3.cell? ⟨w.heap.size, 5, none⟩ = some (.slice p.boardA p.boards.length p.boardC) := by have := HX.out.1; simp [World.cell?, this]
 go_wp2_with fail
 clear m3
 refine (szSBoard_l p.boardA p.boards p.boardC r3 W3 HB.out.nBoard (HC.out.boards.below HX.out.2) HB.out.boards (by omega) (by omega)).mono ?_
 rintro e W4 ⟨r4, rfl, a4, b4, s4, hb4⟩
 have HQ4 : Hid (0 ≤ r4 → (p.boards.length ≤ 1048576 ∧ ∀ x ∈ p.boards, (x.text.size ≤ 1048576)) ∧ r4 + (p.boards.length : Nat) ≤ r3) := s4
 have HY : Hid (W4.heap[w.heap.size]? = some (.cells #[.int .i64 p.id, .int .i64 p.next, .slice p.procA p.procs.length p.procC, .slice p.semA p.sems.length p.semC, .slice p.eventA p.events.length p.eventC, .slice p.boardA p.boards.length p.boardC, .slice p.bufferA p.buffers.length p.bufferC, .slice p.portA p.ports.length p.portC] 73 (0, 0)) ∧ Below w.heap.size w W4) := ⟨(hb4.block _ (Array.getElem?_eq_some_iff.1 HX.out.1).1).trans HX.out.1, HX.out.2.trans (hb4.mono HX.out.2.size)⟩
 clear hb4 s4 HX
 have HX := HY
 clear HY
 by_cases n4 : r4 < 0
 ·go_wp2
  go_ret
  exact szEnds_no HX.out.2 h0
 have m4 : W4.cell? ⟨w.heap.size, 6, none⟩ = some (.slice p.bufferA p.buffers.length p.bufferC) := by have := HX.out.1; simp [World.cell?, this]
 go_wp2_with fail
 clear m4
 refine (szSBuffer_l p.bufferA p.buffers p.bufferC r4 W4 HB.out.nBuffer (HC.out.buffers.below HX.out.2) HB.out.buffers (by omega) (by omega)).mono ?_
 rintro e W5 ⟨r5, rfl, a5, b5, s5, hb5⟩
 have HQ5 : Hid (0 ≤ r5 → (p.buffers.length ≤ 1048576 ∧ ∀ x ∈ p.buffers, (x.items.length ≤ 1048576 ∧ ∀ s ∈ x.items, s.size ≤ 1048576)) ∧ r5 + (p.buffers.length + sumL (fun x : BufferD => x.items.length) p.buffers : Nat) ≤ r4) := s5
 have HY : Hid (W5.heap[w.heap.size]? = some (.cells #[.int .i64 p.id, .int .i64 p.next, .slice p.procA p.procs.length p.procC, .slice p.semA p.sems.length p.semC, .slice p.eventA p.events.length p.eventC, .slice p.boardA p.boards.length p.boardC, .slice p.bufferA p.buffers.length p.bufferC, .slice p.portA p.ports.length p.portC] 73 (0, 0)) ∧ Below w.heap.size w W5) := ⟨(hb5.block _ (Array.getElem?_eq_some_iff.1 HX.out.1).1).trans HX.out.1, HX.out.2.trans (hb5.mono HX.out.2.size)⟩
 clear hb5 s5 HX
 have HX := HY
 clear HY
 by_cases n5 : r5 < 0
 ·go_wp2
  go_ret
  exact szEnds_no HX.out.2 h0
 have m5 : W5.cell? ⟨w.heap.size, 7, none⟩ = some (.slice p.portA p.ports.length p.portC) := by have := HX.out.1; simp [World.cell?, this]
 go_wp2_with fail
 clear m5
 refine (szSPort_l p.portA p.ports p.portC r5 W5 HB.out.nPort (HC.out.ports.below HX.out.2) HB.out.ports (by omega) (by omega)).mono ?_
 rintro e W6 ⟨r6, rfl, a6, b6, s6, hb6⟩
 have HQ6 : Hid (0 ≤ r6 → (p.ports.length ≤ 1048576 ∧ ∀ x ∈ p.ports, (x.items.length ≤ 1048576 ∧ ∀ s ∈ x.items, s.size ≤ 1048576)) ∧ r6 + (p.ports.length + sumL (fun x : PortD => x.items.length) p.ports : Nat) ≤ r5) := s6
 have HY : Hid (W6.heap[w.heap.size]? = some (.cells #[.int .i64 p.id, .int .i64 p.next, .slice p.procA p.procs.length p.procC, .slice p.semA p.sems.length p.semC, .slice p.eventA p.events.length p.eventC, .slice p.boardA p.boards.length p.boardC, .slice p.bufferA p.buffers.length p.bufferC, .slice p.portA p.ports.length p.portC] 73 (0, 0)) ∧ Below w.heap.size w W6) := ⟨(hb6.block _ (Array.getElem?_eq_some_iff.1 HX.out.1).1).trans HX.out.1, HX.out.2.trans (hb6.mono HX.out.2.size)⟩
 clear hb6 s6 HX
 have HX := HY
 clear HY
 by_cases n6 : r6 < 0
 ·go_wp2
  go_ret
  exact szEnds_no HX.out.2 h0
 go_wp2
 go_ret
 exact ⟨r6, rfl, by omega, by omega, fun _ => ⟨⟨(HQ1.out (by omega)).1.1, (HQ2.out (by omega)).1, (HQ3.out (by omega)).1, (HQ4.out (by omega)).1.1, (HQ5.out (by omega)).1.1, (HQ6.out (by omega)).1.1, (HQ1.out (by omega)).1.2, (HQ4.out (by omega)).1.2, (HQ5.out (by omega)).1.2, (HQ6.out (by omega)).1.2⟩, by rw [PartD.total_is]; have t1 := (HQ1.out (by omega)).2; have t2 := (HQ2.out (by omega)).2; have t3 := (HQ3.out (by omega)).2; have t4 := (HQ4.out (by omega)).2; have t5 := (HQ5.out (by omega)).2; have t6 := (HQ6.out (by omega)).2; omega⟩, HX.out.2⟩

theorem copy_keeps {α : Type} {N : Nest α} {K : Kind α} {w w' : World} {len lo : Nat} {l out : List α} (h : CopyIs N K w w' len l out) (hl : lo ≤ w.heap.size) : Keeps lo (fun W' => W'.ownsRow w.heap.size N.T K.n (.slice (some ⟨w.heap.size, 0, none⟩) len len) len (K.flat out) ∧ ∀ x ∈ out, N.Mine W' w.heap.size x) w' := fun W' hs _ =>
 ⟨own_same h.row fun g hg => hs g (by have := (own_lt h.row hg).1; omega) (own_lt h.row hg).2, fun x hx => ((h.mine x hx).low (by omega)).same fun g hk => hs g (by have := ((h.mine x hx).lt hk).1; omega) ((h.mine x hx).lt hk).2⟩
theorem row_keeps {w w' : World} {T n len lo : Nat} {xs : List Value} (h : w'.ownsRow w.heap.size T n (.slice (some ⟨w.heap.size, 0, none⟩) len len) len xs) (hl : lo ≤ w.heap.size) : Keeps lo (fun W' => W'.ownsRow w.heap.size T n (.slice (some ⟨w.heap.size, 0, none⟩) len len) len xs) w' := fun W' hs _ =>
 own_same h fun g hg => hs g (by have := (own_lt h hg).1; omega) (own_lt h hg).2
theorem copy_btw {α : Type} {N : Nest α} {K : Kind α} {w w' : World} {len : Nat} {l out : List α} (h : CopyIs N K w w' len l out) : Btw w.heap.size w'.heap.size (blk (some ⟨w.heap.size, 0, none⟩) ++ out.filterMap N.kid) := by
 have h1 := (own_lt h.row (g := w.heap.size) (by rw [mem_blk]; rfl)).2
 have hk : Btw (w.heap.size + 1) w'.heap.size (out.filterMap N.kid) := ⟨h.nodup, fun g hg => by
  obtain ⟨x, hx, hk⟩ := mem_kids.1 hg
  exact (h.mine x hx).lt hk⟩
 have hb : Btw w.heap.size (w.heap.size + 1) (blk (some ⟨w.heap.size, 0, none⟩)) := ⟨by simp [blk], fun g hg => by rw [mem_blk] at hg; simp at hg; omega⟩
 exact hb.append hk (Nat.le_refl _) (by omega) (by omega)
theorem row_btw {w w' : World} {T n len : Nat} {xs : List Value} (h : w'.ownsRow w.heap.size T n (.slice (some ⟨w.heap.size, 0, none⟩) len len) len xs) : Btw w.heap.size w'.heap.size (blk (some ⟨w.heap.size, 0, none⟩)) :=
 ⟨by simp [blk], fun g hg => own_lt h hg⟩
theorem keep_end {lo : Nat} {F : World → Prop} {W : World} {vs : List Value} (h : Keeps (lo + 1 + 1) F W) : F (setAllW W lo 0 vs) := (h.step (fun g h1 _ => setAllW_other _ (by omega)) (by rw [setAllW_size]; exact Nat.le_refl _)).here
theorem copy_pure {α β : Type} {N : Nest α} {f : α → β} (hf : ∀ x, f (N.set x none 0) = f x) {l out : List α} (h : out.map (fun x => N.set x none 0) = l.map (fun x => N.set x none 0)) : out.map f = l.map f := by
 have := congrArg (List.map f) h
 simp only [List.map_map, Function.comp_def, hf] at this
 exact this
theorem copy_len {α : Type} {N : Nest α} {l out : List α} (h : out.map (fun x => N.set x none 0) = l.map (fun x => N.set x none 0)) : out.length = l.length := by
 have := congrArg List.length h
 simpa using this

theorem toPart_end {p : PartD} {W : World} {lo s1 e1 s2 e2 s3 e3 s4 e4 s5 e5 s6 e6 : Nat} {o1 : List ProcD} {o5 : List BufferD} {o6 : List PortD} (hs : lo ≤ s1 ∧ e1 ≤ s2 ∧ e2 ≤ s3 ∧ e3 ≤ s4 ∧ e4 ≤ s5 ∧ e5 ≤ s6) (hz : s1 ≤ e1 ∧ s2 ≤ e2 ∧ s3 ≤ e3 ∧ s4 ≤ e4 ∧ s5 ≤ e5 ∧ s6 ≤ e6)
  (h1 : (fun W' => W'.ownsRow s1 43 12 (.slice (some ⟨s1, 0, none⟩) p.procs.length p.procs.length) p.procs.length (procK.flat o1) ∧ ∀ x ∈ o1, procN.Mine W' s1 x) W)
  (b1 : Btw s1 e1 (blk (some ⟨s1, 0, none⟩) ++ o1.filterMap procN.kid))
  (h2 : (fun W' => W'.ownsRow s2 49 3 (.slice (some ⟨s2, 0, none⟩) p.sems.length p.sems.length) p.sems.length (semK.flat p.sems)) W)
  (b2 : Btw s2 e2 (blk (some ⟨s2, 0, none⟩)))
  (h3 : (fun W' => W'.ownsRow s3 138 2 (.slice (some ⟨s3, 0, none⟩) p.events.length p.events.length) p.events.length (eventK.flat p.events)) W)
  (b3 : Btw s3 e3 (blk (some ⟨s3, 0, none⟩)))
  (h4 : (fun W' => W'.ownsRow s4 141 3 (.slice (some ⟨s4, 0, none⟩) p.boards.length p.boards.length) p.boards.length (boardK.flat p.boards)) W)
  (b4 : Btw s4 e4 (blk (some ⟨s4, 0, none⟩)))
  (h5 : (fun W' => W'.ownsRow s5 144 3 (.slice (some ⟨s5, 0, none⟩) p.buffers.length p.buffers.length) p.buffers.length (bufferK.flat o5) ∧ ∀ x ∈ o5, bufferN.Mine W' s5 x) W)
  (b5 : Btw s5 e5 (blk (some ⟨s5, 0, none⟩) ++ o5.filterMap bufferN.kid))
  (h6 : (fun W' => W'.ownsRow s6 61 5 (.slice (some ⟨s6, 0, none⟩) p.ports.length p.ports.length) p.ports.length (portK.flat o6) ∧ ∀ x ∈ o6, portN.Mine W' s6 x) W)
  (b6 : Btw s6 e6 (blk (some ⟨s6, 0, none⟩) ++ o6.filterMap portN.kid))
  (a1 : o1.map (fun x => procN.set x none 0) = p.procs.map (fun x => procN.set x none 0)) (a5 : o5.map (fun x => bufferN.set x none 0) = p.buffers.map (fun x => bufferN.set x none 0)) (a6 : o6.map (fun x => portN.set x none 0) = p.ports.map (fun x => portN.set x none 0)) :
  PartOwn W lo (⟨p.id, p.next, o1, some ⟨s1, 0, none⟩, p.procs.length, p.sems, some ⟨s2, 0, none⟩, p.sems.length, p.events, some ⟨s3, 0, none⟩, p.events.length, p.boards, some ⟨s4, 0, none⟩, p.boards.length, o5, some ⟨s5, 0, none⟩, p.buffers.length, o6, some ⟨s6, 0, none⟩, p.ports.length⟩ : PartD) ∧ (⟨p.id, p.next, o1, some ⟨s1, 0, none⟩, p.procs.length, p.sems, some ⟨s2, 0, none⟩, p.sems.length, p.events, some ⟨s3, 0, none⟩, p.events.length, p.boards, some ⟨s4, 0, none⟩, p.boards.length, o5, some ⟨s5, 0, none⟩, p.buffers.length, o6, some ⟨s6, 0, none⟩, p.ports.length⟩ : PartD).pure = p.pure := by
 have l1 := copy_len a1
 have l5 := copy_len a5
 have l6 := copy_len a6
 refine ⟨⟨?_, own_low h2 (by omega), own_low h3 (by omega), own_low h4 (by omega), ?_, ?_, fun x hx => (h1.2 x hx).low (by omega), fun x hx => (h5.2 x hx).low (by omega), fun x hx => (h6.2 x hx).low (by omega), ?_⟩, ?_⟩
 ·have := own_low (base' := lo) h1.1 (by omega)
  simp only [l1]
  exact this
 ·have := own_low (base' := lo) h5.1 (by omega)
  simp only [l5]
  exact this
 ·have := own_low (base' := lo) h6.1 (by omega)
  simp only [l6]
  exact this
 ·simp only [PartD.blocks]
  have := b1.append (b2.append (b3.append (b4.append (b5.append b6 (by omega) (by omega) (by omega)) (by omega) (by omega) (by omega)) (by omega) (by omega) (by omega)) (by omega) (by omega) (by omega)) (by omega) (by omega) (by omega)
  simp only [List.append_assoc] at this
  exact this.1
 ·show PartP.mk _ _ _ _ _ _ _ _ = PartP.mk _ _ _ _ _ _ _ _
  have e1 : o1.map (·.toProcP) = p.procs.map (·.toProcP) := copy_pure (fun _ => rfl) a1
  have e5 : o5.map (·.toBufferP) = p.buffers.map (·.toBufferP) := copy_pure (fun _ => rfl) a5
  have e6 : o6.map (·.toPortP) = p.ports.map (·.toPortP) := copy_pure (fun _ => rfl) a6
  rw [e1, e5, e6]

/-- What is there while a partition is copied. -/
structure ToP (w W : World) (p : PartD) (cur : Array Value) : Prop where
 src : W.heap[w.heap.size]? = some (.cells p.cells 73 (0, 0))
 res : W.heap[w.heap.size + 1]? = some (.cells #[.int .i64 0, .int .i64 0, .slice none 0 0, .slice none 0 0, .slice none 0 0, .slice none 0 0, .slice none 0 0, .slice none 0 0] 32 (0, 0))
 var : W.heap[w.heap.size + 1 + 1]? = some (.cells cur 32 (0, 0))
 bel : Below w.heap.size w W
theorem ToP.lt {w W : World} {p : PartD} {cur : Array Value} (h : ToP w W p cur) : w.heap.size + 1 + 1 < W.heap.size := (Array.getElem?_eq_some_iff.1 h.var).1
theorem ToP.below {w W W' : World} {p : PartD} {cur : Array Value} (h : ToP w W p cur) (hb : Below W.heap.size W W') : ToP w W' p cur := by
 have := h.lt
 exact ⟨(hb.block _ (by omega)).trans h.src, (hb.block _ (by omega)).trans h.res, (hb.block _ (by omega)).trans h.var, h.bel.trans (hb.mono h.bel.size)⟩
theorem ToP.set {w W : World} {p : PartD} {cur : Array Value} (h : ToP w W p cur) (i : Nat) (v : Value) : ToP w (W.setCell ⟨w.heap.size + 1 + 1, i, none⟩ v) p (cur.setIfInBounds i v) :=
 ⟨(Below.heap_setCell W _ v _ (by show ¬ w.heap.size = w.heap.size + 1 + 1; omega)).trans h.src, (Below.heap_setCell W _ v _ (by show ¬ w.heap.size + 1 = w.heap.size + 1 + 1; omega)).trans h.res, heap_setCell_same W _ i cur _ v h.var, h.bel.setCell (by show w.heap.size ≤ w.heap.size + 1 + 1; omega) v⟩

set_option maxRecDepth 100000 in
set_option maxHeartbeats 8000000 in
theorem toPart_l (p : PartD) (w : World) (hs : p.Shorts) (hc : p.Came w) :
  Calls Tryz.prog 59 #[.agg p.cells] w fun e w' => ∃ p', e = .returned (.agg p'.cells) ∧ PartOwn w' w.heap.size p' ∧ p'.pure = p.pure ∧ Below w.heap.size w w' := by
 have HS : Hid p.Shorts := hs
 have HC : Hid (p.Came w) := hc
 have HT0 : Hid (ToP w (((w.alloc (.cells #[.int .i64 p.id, .int .i64 p.next, .slice p.procA p.procs.length p.procC, .slice p.semA p.sems.length p.semC, .slice p.eventA p.events.length p.eventC, .slice p.boardA p.boards.length p.boardC, .slice p.bufferA p.buffers.length p.bufferC, .slice p.portA p.ports.length p.portC] 73)).alloc (.cells #[.int .i64 0, .int .i64 0, .slice none 0 0, .slice none 0 0, .slice none 0 0, .slice none 0 0, .slice none 0 0, .slice none 0 0] 32)).alloc (.cells #[.int .i64 p.id, .int .i64 p.next, .slice none 0 0, .slice none 0 0, .slice none 0 0, .slice none 0 0, .slice none 0 0, .slice none 0 0] 32)) p #[.int .i64 p.id, .int .i64 p.next, .slice none 0 0, .slice none 0 0, .slice none 0 0, .slice none 0 0, .slice none 0 0, .slice none 0 0]) := ⟨(alloc3_facts w _ _ _).1, (alloc3_facts w _ _ _).2.1, (alloc3_facts w _ _ _).2.2.1, alloc3_below w _ _ _⟩
 have HLO : Hid (w.heap.size + 1 + 1 < (((w.alloc (.cells #[.int .i64 p.id, .int .i64 p.next, .slice p.procA p.procs.length p.procC, .slice p.semA p.sems.length p.semC, .slice p.eventA p.events.length p.eventC, .slice p.boardA p.boards.length p.boardC, .slice p.bufferA p.buffers.length p.bufferC, .slice p.portA p.ports.length p.portC] 73)).alloc (.cells #[.int .i64 0, .int .i64 0, .slice none 0 0, .slice none 0 0, .slice none 0 0, .slice none 0 0, .slice none 0 0, .slice none 0 0] 32)).alloc (.cells #[.int .i64 p.id, .int .i64 p.next, .slice none 0 0, .slice none 0 0, .slice none 0 0, .slice none 0 0, .slice none 0 0, .slice none 0 0] 32)).heap.size) := HT0.out.lt
 clear hs hc
 unfold PartD.cells
 go_enter Tryz.func59, Tryz.ntmps59
 go_wp2_with fail
 generalize ((w.alloc (.cells #[.int .i64 p.id, .int .i64 p.next, .slice p.procA p.procs.length p.procC, .slice p.semA p.sems.length p.semC, .slice p.eventA p.events.length p.eventC, .slice p.boardA p.boards.length p.boardC, .slice p.bufferA p.buffers.length p.bufferC, .slice p.portA p.ports.length p.portC] 73)).alloc (.cells #[.int .i64 0, .int .i64 0, .slice none 0 0, .slice none 0 0, .slice none 0 0, .slice none 0 0, .slice none 0 0, .slice none 0 0] 32)).alloc (.cells #[.int .i64 p.id, .int .i64 p.next, .slice none 0 0, .slice none 0 0, .slice none 0 0, .slice none 0 0, .slice none 0 0, .slice none 0 0] 32) = W0 at *
 refine (toSProc_l p.procA p.procs p.procC W0 HS.out.nProc (fun x hx => (HS.out.procs x hx).prog) (HC.out.procs.below HT0.out.bel)).mono ?_
 rintro e v1 ⟨rfl, o1, hcp1⟩
 have HT1 : Hid (ToP w (v1.setCell ⟨w.heap.size + 1 + 1, 2, none⟩ (.slice (some ⟨W0.heap.size, 0, none⟩) p.procs.length p.procs.length)) p #[.int .i64 p.id, .int .i64 p.next, .slice (some ⟨W0.heap.size, 0, none⟩) p.procs.length p.procs.length, .slice none 0 0, .slice none 0 0, .slice none 0 0, .slice none 0 0, .slice none 0 0]) := (HT0.out.below hcp1.bel).set 2 _
 have HK1 : Hid (Keeps (w.heap.size + 1 + 1 + 1) (fun W' => W'.ownsRow W0.heap.size 43 12 (.slice (some ⟨W0.heap.size, 0, none⟩) p.procs.length p.procs.length) p.procs.length (procK.flat o1) ∧ ∀ x ∈ o1, procN.Mine W' W0.heap.size x) (v1.setCell ⟨w.heap.size + 1 + 1, 2, none⟩ (.slice (some ⟨W0.heap.size, 0, none⟩) p.procs.length p.procs.length))) := keep_call (copy_keeps hcp1 (lo := w.heap.size + 1 + 1 + 1) HT0.out.lt) (Below.refl _ _)
 have HB1 : Hid (Btw W0.heap.size v1.heap.size (blk (some ⟨W0.heap.size, 0, none⟩) ++ o1.filterMap procN.kid) ∧ W0.heap.size ≤ v1.heap.size ∧ o1.map (fun x => procN.set x none 0) = p.procs.map (fun x => procN.set x none 0)) := ⟨copy_btw hcp1, hcp1.bel.size, hcp1.alike⟩
 have HV1 : Hid (v1.heap.size = (v1.setCell ⟨w.heap.size + 1 + 1, 2, none⟩ (.slice (some ⟨W0.heap.size, 0, none⟩) p.procs.length p.procs.length)).heap.size) := by show _ = _; simp [World.setCell]
 have hvar := (HT0.out.below hcp1.bel).var
 have d1 : v1.cell? ⟨w.heap.size + 1 + 1, 2, none⟩ = some (.slice none 0 0) := by simp [World.cell?, hvar]
 have f1 : v1.frozen? ⟨w.heap.size + 1 + 1, 2, none⟩ = false := by simp [World.frozen?, hvar]
 clear hvar hcp1
 have m1 : (v1.setCell ⟨w.heap.size + 1 + 1, 2, none⟩ (.slice (some ⟨W0.heap.size, 0, none⟩) p.procs.length p.procs.length)).cell? ⟨w.heap.size, 3, none⟩ = some (.slice p.semA p.sems.length p.semC) := by have := HT1.out.src; simp [World.cell?, this, PartD.cells]
 go_wp2_with fail
 generalize v1.setCell ⟨w.heap.size + 1 + 1, 2, none⟩ (.slice (some ⟨W0.heap.size, 0, none⟩) p.procs.length p.procs.length) = W1 at *
 clear m1 d1 f1 HT0
 generalize hS1 : W0.heap.size = S1 at *
 have HG1 : Hid (W0.heap.size = S1 ∧ v1.heap.size = W1.heap.size) := ⟨hS1, HV1.out⟩
 clear hS1 HV1
 refine (toSSem_l p.semA p.sems p.semC W1 HS.out.nSem (HC.out.sems.below HT1.out.bel)).mono ?_
 rintro e v2 ⟨rfl, hcp2, hb2⟩
 have HT2 : Hid (ToP w (v2.setCell ⟨w.heap.size + 1 + 1, 3, none⟩ (.slice (some ⟨W1.heap.size, 0, none⟩) p.sems.length p.sems.length)) p #[.int .i64 p.id, .int .i64 p.next, .slice (some ⟨S1, 0, none⟩) p.procs.length p.procs.length, .slice (some ⟨W1.heap.size, 0, none⟩) p.sems.length p.sems.length, .slice none 0 0, .slice none 0 0, .slice none 0 0, .slice none 0 0]) := (HT1.out.below hb2).set 3 _
 have HK2 : Hid (Keeps (w.heap.size + 1 + 1 + 1) (fun W' => W'.ownsRow W1.heap.size 49 3 (.slice (some ⟨W1.heap.size, 0, none⟩) p.sems.length p.sems.length) p.sems.length (semK.flat p.sems)) (v2.setCell ⟨w.heap.size + 1 + 1, 3, none⟩ (.slice (some ⟨W1.heap.size, 0, none⟩) p.sems.length p.sems.length))) := keep_call (row_keeps hcp2 (lo := w.heap.size + 1 + 1 + 1) HT1.out.lt) (Below.refl _ _)
 have HZ1 : Hid (Keeps (w.heap.size + 1 + 1 + 1) (fun W' => W'.ownsRow S1 43 12 (.slice (some ⟨S1, 0, none⟩) p.procs.length p.procs.length) p.procs.length (procK.flat o1) ∧ ∀ x ∈ o1, procN.Mine W' S1 x) (v2.setCell ⟨w.heap.size + 1 + 1, 3, none⟩ (.slice (some ⟨W1.heap.size, 0, none⟩) p.sems.length p.sems.length))) := keep_call HK1.out hb2
 clear HK1
 have HK1 := HZ1
 clear HZ1
 have HB2 : Hid (Btw W1.heap.size v2.heap.size (blk (some ⟨W1.heap.size, 0, none⟩)) ∧ W1.heap.size ≤ v2.heap.size) := ⟨row_btw hcp2, hb2.size⟩
 have HV2 : Hid (v2.heap.size = (v2.setCell ⟨w.heap.size + 1 + 1, 3, none⟩ (.slice (some ⟨W1.heap.size, 0, none⟩) p.sems.length p.sems.length)).heap.size) := by show _ = _; simp [World.setCell]
 have hvar := (HT1.out.below hb2).var
 have d2 : v2.cell? ⟨w.heap.size + 1 + 1, 3, none⟩ = some (.slice none 0 0) := by simp [World.cell?, hvar]
 have f2 : v2.frozen? ⟨w.heap.size + 1 + 1, 3, none⟩ = false := by simp [World.frozen?, hvar]
 clear hvar hcp2 hb2
 have m2 : (v2.setCell ⟨w.heap.size + 1 + 1, 3, none⟩ (.slice (some ⟨W1.heap.size, 0, none⟩) p.sems.length p.sems.length)).cell? ⟨w.heap.size, 4, none⟩ = some (.slice p.eventA p.events.length p.eventC) := by have := HT2.out.src; simp [World.cell?, this, PartD.cells]
 go_wp2_with fail
 generalize v2.setCell ⟨w.heap.size + 1 + 1, 3, none⟩ (.slice (some ⟨W1.heap.size, 0, none⟩) p.sems.length p.sems.length) = W2 at *
 clear m2 d2 f2 HT1
 generalize hS2 : W1.heap.size = S2 at *
 have HG2 : Hid (W1.heap.size = S2 ∧ v2.heap.size = W2.heap.size) := ⟨hS2, HV2.out⟩
 clear hS2 HV2
 refine (toSEvent_l p.eventA p.events p.eventC W2 HS.out.nEvent (HC.out.events.below HT2.out.bel)).mono ?_
 rintro e v3 ⟨rfl, hcp3, hb3⟩
 have HT3 : Hid (ToP w (v3.setCell ⟨w.heap.size + 1 + 1, 4, none⟩ (.slice (some ⟨W2.heap.size, 0, none⟩) p.events.length p.events.length)) p #[.int .i64 p.id, .int .i64 p.next, .slice (some ⟨S1, 0, none⟩) p.procs.length p.procs.length, .slice (some ⟨S2, 0, none⟩) p.sems.length p.sems.length, .slice (some ⟨W2.heap.size, 0, none⟩) p.events.length p.events.length, .slice none 0 0, .slice none 0 0, .slice none 0 0]) := (HT2.out.below hb3).set 4 _
 have HK3 : Hid (Keeps (w.heap.size + 1 + 1 + 1) (fun W' => W'.ownsRow W2.heap.size 138 2 (.slice (some ⟨W2.heap.size, 0, none⟩) p.events.length p.events.length) p.events.length (eventK.flat p.events)) (v3.setCell ⟨w.heap.size + 1 + 1, 4, none⟩ (.slice (some ⟨W2.heap.size, 0, none⟩) p.events.length p.events.length))) := keep_call (row_keeps hcp3 (lo := w.heap.size + 1 + 1 + 1) HT2.out.lt) (Below.refl _ _)
 have HZ1 : Hid (Keeps (w.heap.size + 1 + 1 + 1) (fun W' => W'.ownsRow S1 43 12 (.slice (some ⟨S1, 0, none⟩) p.procs.length p.procs.length) p.procs.length (procK.flat o1) ∧ ∀ x ∈ o1, procN.Mine W' S1 x) (v3.setCell ⟨w.heap.size + 1 + 1, 4, none⟩ (.slice (some ⟨W2.heap.size, 0, none⟩) p.events.length p.events.length))) := keep_call HK1.out hb3
 clear HK1
 have HK1 := HZ1
 clear HZ1
 have HZ2 : Hid (Keeps (w.heap.size + 1 + 1 + 1) (fun W' => W'.ownsRow S2 49 3 (.slice (some ⟨S2, 0, none⟩) p.sems.length p.sems.length) p.sems.length (semK.flat p.sems)) (v3.setCell ⟨w.heap.size + 1 + 1, 4, none⟩ (.slice (some ⟨W2.heap.size, 0, none⟩) p.events.length p.events.length))) := keep_call HK2.out hb3
 clear HK2
 have HK2 := HZ2
 clear HZ2
 have HB3 : Hid (Btw W2.heap.size v3.heap.size (blk (some ⟨W2.heap.size, 0, none⟩)) ∧ W2.heap.size ≤ v3.heap.size) := ⟨row_btw hcp3, hb3.size⟩
 have HV3 : Hid (v3.heap.size = (v3.setCell ⟨w.heap.size + 1 + 1, 4, none⟩ (.slice (some ⟨W2.heap.size, 0, none⟩) p.events.length p.events.length)).heap.size) := by show _ = _; simp [World.setCell]
 have hvar := (HT2.out.below hb3).var
 have d3 : v3.cell? ⟨w.heap.size + 1 + 1, 4, none⟩ = some (.slice none 0 0) := by simp [World.cell?, hvar]
 have f3 : v3.frozen? ⟨w.heap.size + 1 + 1, 4, none⟩ = false := by simp [World.frozen?, hvar]
 clear hvar hcp3 hb3
 have m3 : (v3.setCell ⟨w.heap.size + 1 + 1, 4, none⟩ (.slice (some ⟨W2.heap.size, 0, none⟩) p.events.length p.events.length)).cell? ⟨w.heap.size, 5, none⟩ = some (.slice p.boardA p.boards.length p.boardC) := by have := HT3.out.src; simp [World.cell?, this, PartD.cells]
 go_wp2_with fail
 generalize v3.setCell ⟨w.heap.size + 1 + 1, 4, none⟩ (.slice (some ⟨W2.heap.size, 0, none⟩) p.events.length p.events.length) = W3 at *
 clear m3 d3 f3 HT2
 generalize hS3 : W2.heap.size = S3 at *
 have HG3 : Hid (W2.heap.size = S3 ∧ v3.heap.size = W3.heap.size) := ⟨hS3, HV3.out⟩
 clear hS3 HV3
 refine (toSBoard_l p.boardA p.boards p.boardC W3 HS.out.nBoard (HC.out.boards.below HT3.out.bel)).mono ?_
 rintro e v4 ⟨rfl, hcp4, hb4⟩
 have HT4 : Hid (ToP w (v4.setCell ⟨w.heap.size + 1 + 1, 5, none⟩ (.slice (some ⟨W3.heap.size, 0, none⟩) p.boards.length p.boards.length)) p #[.int .i64 p.id, .int .i64 p.next, .slice (some ⟨S1, 0, none⟩) p.procs.length p.procs.length, .slice (some ⟨S2, 0, none⟩) p.sems.length p.sems.length, .slice (some ⟨S3, 0, none⟩) p.events.length p.events.length, .slice (some ⟨W3.heap.size, 0, none⟩) p.boards.length p.boards.length, .slice none 0 0, .slice none 0 0]) := (HT3.out.below hb4).set 5 _
 have HK4 : Hid (Keeps (w.heap.size + 1 + 1 + 1) (fun W' => W'.ownsRow W3.heap.size 141 3 (.slice (some ⟨W3.heap.size, 0, none⟩) p.boards.length p.boards.length) p.boards.length (boardK.flat p.boards)) (v4.setCell ⟨w.heap.size + 1 + 1, 5, none⟩ (.slice (some ⟨W3.heap.size, 0, none⟩) p.boards.length p.boards.length))) := keep_call (row_keeps hcp4 (lo := w.heap.size + 1 + 1 + 1) HT3.out.lt) (Below.refl _ _)
 have HZ1 : Hid (Keeps (w.heap.size + 1 + 1 + 1) (fun W' => W'.ownsRow S1 43 12 (.slice (some ⟨S1, 0, none⟩) p.procs.length p.procs.length) p.procs.length (procK.flat o1) ∧ ∀ x ∈ o1, procN.Mine W' S1 x) (v4.setCell ⟨w.heap.size + 1 + 1, 5, none⟩ (.slice (some ⟨W3.heap.size, 0, none⟩) p.boards.length p.boards.length))) := keep_call HK1.out hb4
 clear HK1
 have HK1 := HZ1
 clear HZ1
 have HZ2 : Hid (Keeps (w.heap.size + 1 + 1 + 1) (fun W' => W'.ownsRow S2 49 3 (.slice (some ⟨S2, 0, none⟩) p.sems.length p.sems.length) p.sems.length (semK.flat p.sems)) (v4.setCell ⟨w.heap.size + 1 + 1, 5, none⟩ (.slice (some ⟨W3.heap.size, 0, none⟩) p.boards.length p.boards.length))) := keep_call HK2.out hb4
 clear HK2
 have HK2 := HZ2
 clear HZ2
 have HZ3 : Hid (Keeps (w.heap.size + 1 + 1 + 1) (fun W' => W'.ownsRow S3 138 2 (.slice (some ⟨S3, 0, none⟩) p.events.length p.events.length) p.events.length (eventK.flat p.events)) (v4.setCell ⟨w.heap.size + 1 + 1, 5, none⟩ (.slice (some ⟨W3.heap.size, 0, none⟩) p.boards.length p.boards.length))) := keep_call HK3.out hb4
 clear HK3
 have HK3 := HZ3
 clear HZ3
 have HB4 : Hid (Btw W3.heap.size v4.heap.size (blk (some ⟨W3.heap.size, 0, none⟩)) ∧ W3.heap.size ≤ v4.heap.size) := ⟨row_btw hcp4, hb4.size⟩
 have HV4 : Hid (v4.heap.size = (v4.setCell ⟨w.heap.size + 1 + 1, 5, none⟩ (.slice (some ⟨W3.heap.size, 0, none⟩) p.boards.length p.boards.length)).heap.size) := by show _ = _; simp [World.setCell]
 have hvar := (HT3.out.below hb4).var
 have d4 : v4.cell? ⟨w.heap.size + 1 + 1, 5, none⟩ = some (.slice none 0 0) := by simp [World.cell?, hvar]
 have f4 : v4.frozen? ⟨w.heap.size + 1 + 1, 5, none⟩ = false := by simp [World.frozen?, hvar]
 clear hvar hcp4 hb4
 have m4 : (v4.setCell ⟨w.heap.size + 1 + 1, 5, none⟩ (.slice (some ⟨W3.heap.size, 0, none⟩) p.boards.length p.boards.length)).cell? ⟨w.heap.size, 6, none⟩ = some (.slice p.bufferA p.buffers.length p.bufferC) := by have := HT4.out.src; simp [World.cell?, this, PartD.cells]
 go_wp2_with fail
 generalize v4.setCell ⟨w.heap.size + 1 + 1, 5, none⟩ (.slice (some ⟨W3.heap.size, 0, none⟩) p.boards.length p.boards.length) = W4 at *
 clear m4 d4 f4 HT3
 generalize hS4 : W3.heap.size = S4 at *
 have HG4 : Hid (W3.heap.size = S4 ∧ v4.heap.size = W4.heap.size) := ⟨hS4, HV4.out⟩
 clear hS4 HV4
 refine (toSBuffer_l p.bufferA p.buffers p.bufferC W4 HS.out.nBuffer (fun x hx => (HS.out.buffers x hx).1) (HC.out.buffers.below HT4.out.bel)).mono ?_
 rintro e v5 ⟨rfl, o5, hcp5⟩
 have HT5 : Hid (ToP w (v5.setCell ⟨w.heap.size + 1 + 1, 6, none⟩ (.slice (some ⟨W4.heap.size, 0, none⟩) p.buffers.length p.buffers.length)) p #[.int .i64 p.id, .int .i64 p.next, .slice (some ⟨S1, 0, none⟩) p.procs.length p.procs.length, .slice (some ⟨S2, 0, none⟩) p.sems.length p.sems.length, .slice (some ⟨S3, 0, none⟩) p.events.length p.events.length, .slice (some ⟨S4, 0, none⟩) p.boards.length p.boards.length, .slice (some ⟨W4.heap.size, 0, none⟩) p.buffers.length p.buffers.length, .slice none 0 0]) := (HT4.out.below hcp5.bel).set 6 _
 have HK5 : Hid (Keeps (w.heap.size + 1 + 1 + 1) (fun W' => W'.ownsRow W4.heap.size 144 3 (.slice (some ⟨W4.heap.size, 0, none⟩) p.buffers.length p.buffers.length) p.buffers.length (bufferK.flat o5) ∧ ∀ x ∈ o5, bufferN.Mine W' W4.heap.size x) (v5.setCell ⟨w.heap.size + 1 + 1, 6, none⟩ (.slice (some ⟨W4.heap.size, 0, none⟩) p.buffers.length p.buffers.length))) := keep_call (copy_keeps hcp5 (lo := w.heap.size + 1 + 1 + 1) HT4.out.lt) (Below.refl _ _)
 have HZ1 : Hid (Keeps (w.heap.size + 1 + 1 + 1) (fun W' => W'.ownsRow S1 43 12 (.slice (some ⟨S1, 0, none⟩) p.procs.length p.procs.length) p.procs.length (procK.flat o1) ∧ ∀ x ∈ o1, procN.Mine W' S1 x) (v5.setCell ⟨w.heap.size + 1 + 1, 6, none⟩ (.slice (some ⟨W4.heap.size, 0, none⟩) p.buffers.length p.buffers.length))) := keep_call HK1.out hcp5.bel
 clear HK1
 have HK1 := HZ1
 clear HZ1
 have HZ2 : Hid (Keeps (w.heap.size + 1 + 1 + 1) (fun W' => W'.ownsRow S2 49 3 (.slice (some ⟨S2, 0, none⟩) p.sems.length p.sems.length) p.sems.length (semK.flat p.sems)) (v5.setCell ⟨w.heap.size + 1 + 1, 6, none⟩ (.slice (some ⟨W4.heap.size, 0, none⟩) p.buffers.length p.buffers.length))) := keep_call HK2.out hcp5.bel
 clear HK2
 have HK2 := HZ2
 clear HZ2
 have HZ3 : Hid (Keeps (w.heap.size + 1 + 1 + 1) (fun W' => W'.ownsRow S3 138 2 (.slice (some ⟨S3, 0, none⟩) p.events.length p.events.length) p.events.length (eventK.flat p.events)) (v5.setCell ⟨w.heap.size + 1 + 1, 6, none⟩ (.slice (some ⟨W4.heap.size, 0, none⟩) p.buffers.length p.buffers.length))) := keep_call HK3.out hcp5.bel
 clear HK3
 have HK3 := HZ3
 clear HZ3
 have HZ4 : Hid (Keeps (w.heap.size + 1 + 1 + 1) (fun W' => W'.ownsRow S4 141 3 (.slice (some ⟨S4, 0, none⟩) p.boards.length p.boards.length) p.boards.length (boardK.flat p.boards)) (v5.setCell ⟨w.heap.size + 1 + 1, 6, none⟩ (.slice (some ⟨W4.heap.size, 0, none⟩) p.buffers.length p.buffers.length))) := keep_call HK4.out hcp5.bel
 clear HK4
 have HK4 := HZ4
 clear HZ4
 have HB5 : Hid (Btw W4.heap.size v5.heap.size (blk (some ⟨W4.heap.size, 0, none⟩) ++ o5.filterMap bufferN.kid) ∧ W4.heap.size ≤ v5.heap.size ∧ o5.map (fun x => bufferN.set x none 0) = p.buffers.map (fun x => bufferN.set x none 0)) := ⟨copy_btw hcp5, hcp5.bel.size, hcp5.alike⟩
 have HV5 : Hid (v5.heap.size = (v5.setCell ⟨w.heap.size + 1 + 1, 6, none⟩ (.slice (some ⟨W4.heap.size, 0, none⟩) p.buffers.length p.buffers.length)).heap.size) := by show _ = _; simp [World.setCell]
 have hvar := (HT4.out.below hcp5.bel).var
 have d5 : v5.cell? ⟨w.heap.size + 1 + 1, 6, none⟩ = some (.slice none 0 0) := by simp [World.cell?, hvar]
 have f5 : v5.frozen? ⟨w.heap.size + 1 + 1, 6, none⟩ = false := by simp [World.frozen?, hvar]
 clear hvar hcp5
 have m5 : (v5.setCell ⟨w.heap.size + 1 + 1, 6, none⟩ (.slice (some ⟨W4.heap.size, 0, none⟩) p.buffers.length p.buffers.length)).cell? ⟨w.heap.size, 7, none⟩ = some (.slice p.portA p.ports.length p.portC) := by have := HT5.out.src; simp [World.cell?, this, PartD.cells]
 go_wp2_with fail
 generalize v5.setCell ⟨w.heap.size + 1 + 1, 6, none⟩ (.slice (some ⟨W4.heap.size, 0, none⟩) p.buffers.length p.buffers.length) = W5 at *
 clear m5 d5 f5 HT4
 generalize hS5 : W4.heap.size = S5 at *
 have HG5 : Hid (W4.heap.size = S5 ∧ v5.heap.size = W5.heap.size) := ⟨hS5, HV5.out⟩
 clear hS5 HV5
 refine (toSPort_l p.portA p.ports p.portC W5 HS.out.nPort (fun x hx => (HS.out.ports x hx).1) (HC.out.ports.below HT5.out.bel)).mono ?_
 rintro e v6 ⟨rfl, o6, hcp6⟩
 have HT6 : Hid (ToP w (v6.setCell ⟨w.heap.size + 1 + 1, 7, none⟩ (.slice (some ⟨W5.heap.size, 0, none⟩) p.ports.length p.ports.length)) p #[.int .i64 p.id, .int .i64 p.next, .slice (some ⟨S1, 0, none⟩) p.procs.length p.procs.length, .slice (some ⟨S2, 0, none⟩) p.sems.length p.sems.length, .slice (some ⟨S3, 0, none⟩) p.events.length p.events.length, .slice (some ⟨S4, 0, none⟩) p.boards.length p.boards.length, .slice (some ⟨S5, 0, none⟩) p.buffers.length p.buffers.length, .slice (some ⟨W5.heap.size, 0, none⟩) p.ports.length p.ports.length]) := (HT5.out.below hcp6.bel).set 7 _
 have HK6 : Hid (Keeps (w.heap.size + 1 + 1 + 1) (fun W' => W'.ownsRow W5.heap.size 61 5 (.slice (some ⟨W5.heap.size, 0, none⟩) p.ports.length p.ports.length) p.ports.length (portK.flat o6) ∧ ∀ x ∈ o6, portN.Mine W' W5.heap.size x) (v6.setCell ⟨w.heap.size + 1 + 1, 7, none⟩ (.slice (some ⟨W5.heap.size, 0, none⟩) p.ports.length p.ports.length))) := keep_call (copy_keeps hcp6 (lo := w.heap.size + 1 + 1 + 1) HT5.out.lt) (Below.refl _ _)
 have HZ1 : Hid (Keeps (w.heap.size + 1 + 1 + 1) (fun W' => W'.ownsRow S1 43 12 (.slice (some ⟨S1, 0, none⟩) p.procs.length p.procs.length) p.procs.length (procK.flat o1) ∧ ∀ x ∈ o1, procN.Mine W' S1 x) (v6.setCell ⟨w.heap.size + 1 + 1, 7, none⟩ (.slice (some ⟨W5.heap.size, 0, none⟩) p.ports.length p.ports.length))) := keep_call HK1.out hcp6.bel
 clear HK1
 have HK1 := HZ1
 clear HZ1
 have HZ2 : Hid (Keeps (w.heap.size + 1 + 1 + 1) (fun W' => W'.ownsRow S2 49 3 (.slice (some ⟨S2, 0, none⟩) p.sems.length p.sems.length) p.sems.length (semK.flat p.sems)) (v6.setCell ⟨w.heap.size + 1 + 1, 7, none⟩ (.slice (some ⟨W5.heap.size, 0, none⟩) p.ports.length p.ports.length))) := keep_call HK2.out hcp6.bel
 clear HK2
 have HK2 := HZ2
 clear HZ2
 have HZ3 : Hid (Keeps (w.heap.size + 1 + 1 + 1) (fun W' => W'.ownsRow S3 138 2 (.slice (some ⟨S3, 0, none⟩) p.events.length p.events.length) p.events.length (eventK.flat p.events)) (v6.setCell ⟨w.heap.size + 1 + 1, 7, none⟩ (.slice (some ⟨W5.heap.size, 0, none⟩) p.ports.length p.ports.length))) := keep_call HK3.out hcp6.bel
 clear HK3
 have HK3 := HZ3
 clear HZ3
 have HZ4 : Hid (Keeps (w.heap.size + 1 + 1 + 1) (fun W' => W'.ownsRow S4 141 3 (.slice (some ⟨S4, 0, none⟩) p.boards.length p.boards.length) p.boards.length (boardK.flat p.boards)) (v6.setCell ⟨w.heap.size + 1 + 1, 7, none⟩ (.slice (some ⟨W5.heap.size, 0, none⟩) p.ports.length p.ports.length))) := keep_call HK4.out hcp6.bel
 clear HK4
 have HK4 := HZ4
 clear HZ4
 have HZ5 : Hid (Keeps (w.heap.size + 1 + 1 + 1) (fun W' => W'.ownsRow S5 144 3 (.slice (some ⟨S5, 0, none⟩) p.buffers.length p.buffers.length) p.buffers.length (bufferK.flat o5) ∧ ∀ x ∈ o5, bufferN.Mine W' S5 x) (v6.setCell ⟨w.heap.size + 1 + 1, 7, none⟩ (.slice (some ⟨W5.heap.size, 0, none⟩) p.ports.length p.ports.length))) := keep_call HK5.out hcp6.bel
 clear HK5
 have HK5 := HZ5
 clear HZ5
 have HB6 : Hid (Btw W5.heap.size v6.heap.size (blk (some ⟨W5.heap.size, 0, none⟩) ++ o6.filterMap portN.kid) ∧ W5.heap.size ≤ v6.heap.size ∧ o6.map (fun x => portN.set x none 0) = p.ports.map (fun x => portN.set x none 0)) := ⟨copy_btw hcp6, hcp6.bel.size, hcp6.alike⟩
 have HV6 : Hid (v6.heap.size = (v6.setCell ⟨w.heap.size + 1 + 1, 7, none⟩ (.slice (some ⟨W5.heap.size, 0, none⟩) p.ports.length p.ports.length)).heap.size) := by show _ = _; simp [World.setCell]
 have hvar := (HT5.out.below hcp6.bel).var
 have d6 : v6.cell? ⟨w.heap.size + 1 + 1, 7, none⟩ = some (.slice none 0 0) := by simp [World.cell?, hvar]
 have f6 : v6.frozen? ⟨w.heap.size + 1 + 1, 7, none⟩ = false := by simp [World.frozen?, hvar]
 clear hvar hcp6
 have hvar := HT6.out.var
 have hres := HT6.out.res
 have x0 : (v6.setCell ⟨w.heap.size + 1 + 1, 7, none⟩ (.slice (some ⟨W5.heap.size, 0, none⟩) p.ports.length p.ports.length)).cell? ⟨w.heap.size + 1 + 1, 0, none⟩ = some (.int .i64 p.id) := by simp [World.cell?, hvar]
 have y0 : (v6.setCell ⟨w.heap.size + 1 + 1, 7, none⟩ (.slice (some ⟨W5.heap.size, 0, none⟩) p.ports.length p.ports.length)).cell? ⟨w.heap.size + 1, 0, none⟩ = some (.int .i64 0) := by simp [World.cell?, hres]
 have z0 : (v6.setCell ⟨w.heap.size + 1 + 1, 7, none⟩ (.slice (some ⟨W5.heap.size, 0, none⟩) p.ports.length p.ports.length)).frozen? ⟨w.heap.size + 1, 0, none⟩ = false := by simp [World.frozen?, hres]
 have x1 : (v6.setCell ⟨w.heap.size + 1 + 1, 7, none⟩ (.slice (some ⟨W5.heap.size, 0, none⟩) p.ports.length p.ports.length)).cell? ⟨w.heap.size + 1 + 1, 1, none⟩ = some (.int .i64 p.next) := by simp [World.cell?, hvar]
 have y1 : (v6.setCell ⟨w.heap.size + 1 + 1, 7, none⟩ (.slice (some ⟨W5.heap.size, 0, none⟩) p.ports.length p.ports.length)).cell? ⟨w.heap.size + 1, 1, none⟩ = some (.int .i64 0) := by simp [World.cell?, hres]
 have z1 : (v6.setCell ⟨w.heap.size + 1 + 1, 7, none⟩ (.slice (some ⟨W5.heap.size, 0, none⟩) p.ports.length p.ports.length)).frozen? ⟨w.heap.size + 1, 1, none⟩ = false := by simp [World.frozen?, hres]
 have x2 : (v6.setCell ⟨w.heap.size + 1 + 1, 7, none⟩ (.slice (some ⟨W5.heap.size, 0, none⟩) p.ports.length p.ports.length)).cell? ⟨w.heap.size + 1 + 1, 2, none⟩ = some (.slice (some ⟨S1, 0, none⟩) p.procs.length p.procs.length) := by simp [World.cell?, hvar]
 have y2 : (v6.setCell ⟨w.heap.size + 1 + 1, 7, none⟩ (.slice (some ⟨W5.heap.size, 0, none⟩) p.ports.length p.ports.length)).cell? ⟨w.heap.size + 1, 2, none⟩ = some (.slice none 0 0) := by simp [World.cell?, hres]
 have z2 : (v6.setCell ⟨w.heap.size + 1 + 1, 7, none⟩ (.slice (some ⟨W5.heap.size, 0, none⟩) p.ports.length p.ports.length)).frozen? ⟨w.heap.size + 1, 2, none⟩ = false := by simp [World.frozen?, hres]
 have x3 : (v6.setCell ⟨w.heap.size + 1 + 1, 7, none⟩ (.slice (some ⟨W5.heap.size, 0, none⟩) p.ports.length p.ports.length)).cell? ⟨w.heap.size + 1 + 1, 3, none⟩ = some (.slice (some ⟨S2, 0, none⟩) p.sems.length p.sems.length) := by simp [World.cell?, hvar]
 have y3 : (v6.setCell ⟨w.heap.size + 1 + 1, 7, none⟩ (.slice (some ⟨W5.heap.size, 0, none⟩) p.ports.length p.ports.length)).cell? ⟨w.heap.size + 1, 3, none⟩ = some (.slice none 0 0) := by simp [World.cell?, hres]
 have z3 : (v6.setCell ⟨w.heap.size + 1 + 1, 7, none⟩ (.slice (some ⟨W5.heap.size, 0, none⟩) p.ports.length p.ports.length)).frozen? ⟨w.heap.size + 1, 3, none⟩ = false := by simp [World.frozen?, hres]
 have x4 : (v6.setCell ⟨w.heap.size + 1 + 1, 7, none⟩ (.slice (some ⟨W5.heap.size, 0, none⟩) p.ports.length p.ports.length)).cell? ⟨w.heap.size + 1 + 1, 4, none⟩ = some (.slice (some ⟨S3, 0, none⟩) p.events.length p.events.length) := by simp [World.cell?, hvar]
 have y4 : (v6.setCell ⟨w.heap.size + 1 + 1, 7, none⟩ (.slice (some ⟨W5.heap.size, 0, none⟩) p.ports.length p.ports.length)).cell? ⟨w.heap.size + 1, 4, none⟩ = some (.slice none 0 0) := by simp [World.cell?, hres]
 have z4 : (v6.setCell ⟨w.heap.size + 1 + 1, 7, none⟩ (.slice (some ⟨W5.heap.size, 0, none⟩) p.ports.length p.ports.length)).frozen? ⟨w.heap.size + 1, 4, none⟩ = false := by simp [World.frozen?, hres]
 have x5 : (v6.setCell ⟨w.heap.size + 1 + 1, 7, none⟩ (.slice (some ⟨W5.heap.size, 0, none⟩) p.ports.length p.ports.length)).cell? ⟨w.heap.size + 1 + 1, 5, none⟩ = some (.slice (some ⟨S4, 0, none⟩) p.boards.length p.boards.length) := by simp [World.cell?, hvar]
 have y5 : (v6.setCell ⟨w.heap.size + 1 + 1, 7, none⟩ (.slice (some ⟨W5.heap.size, 0, none⟩) p.ports.length p.ports.length)).cell? ⟨w.heap.size + 1, 5, none⟩ = some (.slice none 0 0) := by simp [World.cell?, hres]
 have z5 : (v6.setCell ⟨w.heap.size + 1 + 1, 7, none⟩ (.slice (some ⟨W5.heap.size, 0, none⟩) p.ports.length p.ports.length)).frozen? ⟨w.heap.size + 1, 5, none⟩ = false := by simp [World.frozen?, hres]
 have x6 : (v6.setCell ⟨w.heap.size + 1 + 1, 7, none⟩ (.slice (some ⟨W5.heap.size, 0, none⟩) p.ports.length p.ports.length)).cell? ⟨w.heap.size + 1 + 1, 6, none⟩ = some (.slice (some ⟨S5, 0, none⟩) p.buffers.length p.buffers.length) := by simp [World.cell?, hvar]
 have y6 : (v6.setCell ⟨w.heap.size + 1 + 1, 7, none⟩ (.slice (some ⟨W5.heap.size, 0, none⟩) p.ports.length p.ports.length)).cell? ⟨w.heap.size + 1, 6, none⟩ = some (.slice none 0 0) := by simp [World.cell?, hres]
 have z6 : (v6.setCell ⟨w.heap.size + 1 + 1, 7, none⟩ (.slice (some ⟨W5.heap.size, 0, none⟩) p.ports.length p.ports.length)).frozen? ⟨w.heap.size + 1, 6, none⟩ = false := by simp [World.frozen?, hres]
 have x7 : (v6.setCell ⟨w.heap.size + 1 + 1, 7, none⟩ (.slice (some ⟨W5.heap.size, 0, none⟩) p.ports.length p.ports.length)).cell? ⟨w.heap.size + 1 + 1, 7, none⟩ = some (.slice (some ⟨W5.heap.size, 0, none⟩) p.ports.length p.ports.length) := by simp [World.cell?, hvar]
 have y7 : (v6.setCell ⟨w.heap.size + 1 + 1, 7, none⟩ (.slice (some ⟨W5.heap.size, 0, none⟩) p.ports.length p.ports.length)).cell? ⟨w.heap.size + 1, 7, none⟩ = some (.slice none 0 0) := by simp [World.cell?, hres]
 have z7 : (v6.setCell ⟨w.heap.size + 1 + 1, 7, none⟩ (.slice (some ⟨W5.heap.size, 0, none⟩) p.ports.length p.ports.length)).frozen? ⟨w.heap.size + 1, 7, none⟩ = false := by simp [World.frozen?, hres]
 clear hvar hres
 go_wp2_with fail
 have h9 := setAllW_full (vs := [.int .i64 p.id, .int .i64 p.next, .slice (some ⟨S1, 0, none⟩) p.procs.length p.procs.length, .slice (some ⟨S2, 0, none⟩) p.sems.length p.sems.length, .slice (some ⟨S3, 0, none⟩) p.events.length p.events.length, .slice (some ⟨S4, 0, none⟩) p.boards.length p.boards.length, .slice (some ⟨S5, 0, none⟩) p.buffers.length p.buffers.length, .slice (some ⟨W5.heap.size, 0, none⟩) p.ports.length p.ports.length]) HT6.out.res rfl
 have h10 : Below w.heap.size w (setAllW (v6.setCell ⟨w.heap.size + 1 + 1, 7, none⟩ (.slice (some ⟨W5.heap.size, 0, none⟩) p.ports.length p.ports.length)) (w.heap.size + 1) 0 [.int .i64 p.id, .int .i64 p.next, .slice (some ⟨S1, 0, none⟩) p.procs.length p.procs.length, .slice (some ⟨S2, 0, none⟩) p.sems.length p.sems.length, .slice (some ⟨S3, 0, none⟩) p.events.length p.events.length, .slice (some ⟨S4, 0, none⟩) p.boards.length p.boards.length, .slice (some ⟨S5, 0, none⟩) p.buffers.length p.buffers.length, .slice (some ⟨W5.heap.size, 0, none⟩) p.ports.length p.ports.length]) := setAllW_below _ (by omega) HT6.out.bel
 have h11 : PartOwn (setAllW (v6.setCell ⟨w.heap.size + 1 + 1, 7, none⟩ (.slice (some ⟨W5.heap.size, 0, none⟩) p.ports.length p.ports.length)) (w.heap.size + 1) 0 [.int .i64 p.id, .int .i64 p.next, .slice (some ⟨S1, 0, none⟩) p.procs.length p.procs.length, .slice (some ⟨S2, 0, none⟩) p.sems.length p.sems.length, .slice (some ⟨S3, 0, none⟩) p.events.length p.events.length, .slice (some ⟨S4, 0, none⟩) p.boards.length p.boards.length, .slice (some ⟨S5, 0, none⟩) p.buffers.length p.buffers.length, .slice (some ⟨W5.heap.size, 0, none⟩) p.ports.length p.ports.length]) (w.heap.size + 1 + 1 + 1) (⟨p.id, p.next, o1, some ⟨S1, 0, none⟩, p.procs.length, p.sems, some ⟨S2, 0, none⟩, p.sems.length, p.events, some ⟨S3, 0, none⟩, p.events.length, p.boards, some ⟨S4, 0, none⟩, p.boards.length, o5, some ⟨S5, 0, none⟩, p.buffers.length, o6, some ⟨W5.heap.size, 0, none⟩, p.ports.length⟩ : PartD) ∧ (⟨p.id, p.next, o1, some ⟨S1, 0, none⟩, p.procs.length, p.sems, some ⟨S2, 0, none⟩, p.sems.length, p.events, some ⟨S3, 0, none⟩, p.events.length, p.boards, some ⟨S4, 0, none⟩, p.boards.length, o5, some ⟨S5, 0, none⟩, p.buffers.length, o6, some ⟨W5.heap.size, 0, none⟩, p.ports.length⟩ : PartD).pure = p.pure :=
  toPart_end ⟨HLO.out, by have := HG1.out.2; have := HG2.out.1; omega, by have := HG2.out.2; have := HG3.out.1; omega, by have := HG3.out.2; have := HG4.out.1; omega, by have := HG4.out.2; have := HG5.out.1; omega, by have := HG5.out.2; omega⟩
   ⟨HB1.out.2.1, HB2.out.2, HB3.out.2, HB4.out.2, HB5.out.2.1, HB6.out.2.1⟩
   (keep_end HK1.out) HB1.out.1 (keep_end HK2.out) HB2.out.1 (keep_end HK3.out) HB3.out.1 (keep_end HK4.out) HB4.out.1 (keep_end HK5.out) HB5.out.1 (keep_end HK6.out) HB6.out.1 HB1.out.2.2 HB5.out.2.2 HB6.out.2.2
 have l1 := copy_len HB1.out.2.2
 have l5 := copy_len HB5.out.2.2
 have l6 := copy_len HB6.out.2.2
 simp only [setAllW, Nat.reduceAdd, Nat.zero_add] at h9 h10 h11
 refine bodyPost_ret (v := .agg #[.int .i64 p.id, .int .i64 p.next, .slice (some ⟨S1, 0, none⟩) p.procs.length p.procs.length, .slice (some ⟨S2, 0, none⟩) p.sems.length p.sems.length, .slice (some ⟨S3, 0, none⟩) p.events.length p.events.length, .slice (some ⟨S4, 0, none⟩) p.boards.length p.boards.length, .slice (some ⟨S5, 0, none⟩) p.buffers.length p.buffers.length, .slice (some ⟨W5.heap.size, 0, none⟩) p.ports.length p.ports.length]) (results_cell_row Tryz.results59 _ _ (w.heap.size + 1) _ _ (0, 0) _ rfl h9 Tryz.underlying32 rfl (by kernel_rfl)) rfl ?_
 exact ⟨(⟨p.id, p.next, o1, some ⟨S1, 0, none⟩, p.procs.length, p.sems, some ⟨S2, 0, none⟩, p.sems.length, p.events, some ⟨S3, 0, none⟩, p.events.length, p.boards, some ⟨S4, 0, none⟩, p.boards.length, o5, some ⟨S5, 0, none⟩, p.buffers.length, o6, some ⟨W5.heap.size, 0, none⟩, p.ports.length⟩ : PartD), by simp only [l1, l5, l6], h11.1.lower (by omega), h11.2, h10⟩

set_option maxRecDepth 100000 in
set_option maxHeartbeats 8000000 in
theorem eqPart_l (p q : PartD) (w : World) (hs : p.pure.Small) (hp : q.pure = p.pure) (h : PartD.At w p) (h' : PartD.At w q) :
  Calls Tryz.prog 60 #[.agg p.cells, .agg q.cells] w fun e w' => e = .returned (.bool true) ∧ Below w.heap.size w w' := by
 have e0 : q.id = p.id := congrArg PartP.id hp
 have e1 : q.next = p.next := congrArg PartP.next hp
 have g1 : q.procs.map (·.toProcP) = p.procs.map (·.toProcP) := congrArg PartP.procs hp
 have g2 : q.sems = p.sems := congrArg PartP.sems hp
 have g3 : q.events = p.events := congrArg PartP.events hp
 have g4 : q.boards = p.boards := congrArg PartP.boards hp
 have g5 : q.buffers.map (·.toBufferP) = p.buffers.map (·.toBufferP) := congrArg PartP.buffers hp
 have g6 : q.ports.map (·.toPortP) = p.ports.map (·.toPortP) := congrArg PartP.ports hp
 have l1 : q.procs.length = p.procs.length := by have := congrArg List.length g1; simpa using this
 have l5 : q.buffers.length = p.buffers.length := by have := congrArg List.length g5; simpa using this
 have l6 : q.ports.length = p.ports.length := by have := congrArg List.length g6; simpa using this
 have hq : q.cells = #[.int .i64 p.id, .int .i64 p.next, .slice q.procA p.procs.length q.procC, .slice q.semA p.sems.length q.semC, .slice q.eventA p.events.length q.eventC, .slice q.boardA p.boards.length q.boardC, .slice q.bufferA p.buffers.length q.bufferC, .slice q.portA p.ports.length q.portC] := by unfold PartD.cells; rw [e0, e1, l1, g2, g3, g4, l5, l6]
 have HX : Hid (((w.alloc (.cells #[.int .i64 p.id, .int .i64 p.next, .slice p.procA p.procs.length p.procC, .slice p.semA p.sems.length p.semC, .slice p.eventA p.events.length p.eventC, .slice p.boardA p.boards.length p.boardC, .slice p.bufferA p.buffers.length p.bufferC, .slice p.portA p.ports.length p.portC] 32)).alloc (.cells #[.int .i64 p.id, .int .i64 p.next, .slice q.procA p.procs.length q.procC, .slice q.semA p.sems.length q.semC, .slice q.eventA p.events.length q.eventC, .slice q.boardA p.boards.length q.boardC, .slice q.bufferA p.buffers.length q.bufferC, .slice q.portA p.ports.length q.portC] 32)).heap[w.heap.size]? = some (.cells #[.int .i64 p.id, .int .i64 p.next, .slice p.procA p.procs.length p.procC, .slice p.semA p.sems.length p.semC, .slice p.eventA p.events.length p.eventC, .slice p.boardA p.boards.length p.boardC, .slice p.bufferA p.buffers.length p.bufferC, .slice p.portA p.ports.length p.portC] 32 (0, 0)) ∧ ((w.alloc (.cells #[.int .i64 p.id, .int .i64 p.next, .slice p.procA p.procs.length p.procC, .slice p.semA p.sems.length p.semC, .slice p.eventA p.events.length p.eventC, .slice p.boardA p.boards.length p.boardC, .slice p.bufferA p.buffers.length p.bufferC, .slice p.portA p.ports.length p.portC] 32)).alloc (.cells #[.int .i64 p.id, .int .i64 p.next, .slice q.procA p.procs.length q.procC, .slice q.semA p.sems.length q.semC, .slice q.eventA p.events.length q.eventC, .slice q.boardA p.boards.length q.boardC, .slice q.bufferA p.buffers.length q.bufferC, .slice q.portA p.ports.length q.portC] 32)).heap[w.heap.size + 1]? = some (.cells #[.int .i64 p.id, .int .i64 p.next, .slice q.procA p.procs.length q.procC, .slice q.semA p.sems.length q.semC, .slice q.eventA p.events.length q.eventC, .slice q.boardA p.boards.length q.boardC, .slice q.bufferA p.buffers.length q.bufferC, .slice q.portA p.ports.length q.portC] 32 (0, 0)) ∧ Below w.heap.size w ((w.alloc (.cells #[.int .i64 p.id, .int .i64 p.next, .slice p.procA p.procs.length p.procC, .slice p.semA p.sems.length p.semC, .slice p.eventA p.events.length p.eventC, .slice p.boardA p.boards.length p.boardC, .slice p.bufferA p.buffers.length p.bufferC, .slice p.portA p.ports.length p.portC] 32)).alloc (.cells #[.int .i64 p.id, .int .i64 p.next, .slice q.procA p.procs.length q.procC, .slice q.semA p.sems.length q.semC, .slice q.eventA p.events.length q.eventC, .slice q.boardA p.boards.length q.boardC, .slice q.bufferA p.buffers.length q.bufferC, .slice q.portA p.ports.length q.portC] 32))) := ⟨(alloc2_facts _ _ _).1, (alloc2_facts _ _ _).2, alloc2_below _ _ _⟩
 have HL : Hid (PartD.At w p ∧ PartD.At w q ∧ p.pure.Small) := ⟨h, h', hs⟩
 have HG : Hid (q.procs.map (·.toProcP) = p.procs.map (·.toProcP) ∧ q.buffers.map (·.toBufferP) = p.buffers.map (·.toBufferP) ∧ q.ports.map (·.toPortP) = p.ports.map (·.toPortP) ∧ q.sems = p.sems ∧ q.events = p.events ∧ q.boards = p.boards) := ⟨g1, g5, g6, g2, g3, g4⟩
 rw [hq]
 clear h h' hs hp hq g1 g2 g3 g4 g5 g6 l1 l5 l6 e0 e1
 unfold PartD.cells
 go_enter Tryz.func60, Tryz.ntmps60
 go_wp2_with fail
 generalize (w.alloc (.cells #[.int .i64 p.id, .int .i64 p.next, .slice p.procA p.procs.length p.procC, .slice p.semA p.sems.length p.semC, .slice p.eventA p.events.length p.eventC, .slice p.boardA p.boards.length p.boardC, .slice p.bufferA p.buffers.length p.bufferC, .slice p.portA p.ports.length p.portC] 32)).alloc (.cells #[.int .i64 p.id, .int .i64 p.next, .slice q.procA p.procs.length q.procC, .slice q.semA p.sems.length q.semC, .slice q.eventA p.events.length q.eventC, .slice q.boardA p.boards.length q.boardC, .slice q.bufferA p.buffers.length q.bufferC, .slice q.portA p.ports.length q.portC] 32) = W0 at *
 refine (eqSProc_l p.procA q.procA p.procs q.procs p.procC q.procC W0 (small_short HL.out.2.2).procs (fun x hx => (small_proc HL.out.2.2 hx).1.prog) HG.out.1 (HL.out.1.1.below HX.out.2.2) (HL.out.2.1.1.below HX.out.2.2)).mono ?_
 rintro e W1 ⟨rfl, hb1⟩
 have HY : Hid (W1.heap[w.heap.size]? = some (.cells #[.int .i64 p.id, .int .i64 p.next, .slice p.procA p.procs.length p.procC, .slice p.semA p.sems.length p.semC, .slice p.eventA p.events.length p.eventC, .slice p.boardA p.boards.length p.boardC, .slice p.bufferA p.buffers.length p.bufferC, .slice p.portA p.ports.length p.portC] 32 (0, 0)) ∧ W1.heap[w.heap.size + 1]? = some (.cells #[.int .i64 p.id, .int .i64 p.next, .slice q.procA p.procs.length q.procC, .slice q.semA p.sems.length q.semC, .slice q.eventA p.events.length q.eventC, .slice q.boardA p.boards.length q.boardC, .slice q.bufferA p.buffers.length q.bufferC, .slice q.portA p.ports.length q.portC] 32 (0, 0)) ∧ Below w.heap.size w W1) := ⟨(hb1.block _ (Array.getElem?_eq_some_iff.1 HX.out.1).1).trans HX.out.1, (hb1.block _ (Array.getElem?_eq_some_iff.1 HX.out.2.1).1).trans HX.out.2.1, HX.out.2.2.trans (hb1.mono HX.out.2.2.size)⟩
 clear hb1 HX
 have HX := HY
 clear HY
 have m1 : W1.cell? ⟨w.heap.size, 3, none⟩ = some (.slice p.semA p.sems.length p.semC) := by have := HX.out.1; simp [World.cell?, this]
 have n1 : W1.cell? ⟨w.heap.size + 1, 3, none⟩ = some (.slice q.semA p.sems.length q.semC) := by have := HX.out.2.1; simp [World.cell?, this]
 go_wp2_with fail
 clear m1 n1
 refine (eqSSem_l p.semA q.semA p.sems p.semC q.semC W1 (small_short HL.out.2.2).sems (HL.out.1.2.1.below HX.out.2.2) (by have h5 := HL.out.2.1.2.1.below HX.out.2.2; rw [HG.out.2.2.2.1] at h5; exact h5)).mono ?_
 rintro e W2 ⟨rfl, hb2⟩
 have HY : Hid (W2.heap[w.heap.size]? = some (.cells #[.int .i64 p.id, .int .i64 p.next, .slice p.procA p.procs.length p.procC, .slice p.semA p.sems.length p.semC, .slice p.eventA p.events.length p.eventC, .slice p.boardA p.boards.length p.boardC, .slice p.bufferA p.buffers.length p.bufferC, .slice p.portA p.ports.length p.portC] 32 (0, 0)) ∧ W2.heap[w.heap.size + 1]? = some (.cells #[.int .i64 p.id, .int .i64 p.next, .slice q.procA p.procs.length q.procC, .slice q.semA p.sems.length q.semC, .slice q.eventA p.events.length q.eventC, .slice q.boardA p.boards.length q.boardC, .slice q.bufferA p.buffers.length q.bufferC, .slice q.portA p.ports.length q.portC] 32 (0, 0)) ∧ Below w.heap.size w W2) := ⟨(hb2.block _ (Array.getElem?_eq_some_iff.1 HX.out.1).1).trans HX.out.1, (hb2.block _ (Array.getElem?_eq_some_iff.1 HX.out.2.1).1).trans HX.out.2.1, HX.out.2.2.trans (hb2.mono HX.out.2.2.size)⟩
 clear hb2 HX
 have HX := HY
 clear HY
 have m2 : W2.cell? ⟨w.heap.size, 4, none⟩ = some (.slice p.eventA p.events.length p.eventC) := by have := HX.out.1; simp [World.cell?, this]
 have n2 : W2.cell? ⟨w.heap.size + 1, 4, none⟩ = some (.slice q.eventA p.events.length q.eventC) := by have := HX.out.2.1; simp [World.cell?, this]
 go_wp2_with fail
 clear m2 n2
 refine (eqSEvent_l p.eventA q.eventA p.events p.eventC q.eventC W2 (small_short HL.out.2.2).events (HL.out.1.2.2.1.below HX.out.2.2) (by have h5 := HL.out.2.1.2.2.1.below HX.out.2.2; rw [HG.out.2.2.2.2.1] at h5; exact h5)).mono ?_
 rintro e W3 ⟨rfl, hb3⟩
 have HY : Hid (W3.heap[w.heap.size]? = some (.cells #[.int .i64 p.id, .int .i64 p.next, .slice p.procA p.procs.length p.procC, .slice p.semA p.sems.length p.semC, .slice p.eventA p.events.length p.eventC, .slice p.boardA p.boards.length p.boardC, .slice p.bufferA p.buffers.length p.bufferC, .slice p.portA p.ports.length p.portC] 32 (0, 0)) ∧ W3.heap[w.heap.size + 1]? = some (.cells #[.int .i64 p.id, .int .i64 p.next, .slice q.procA p.procs.length q.procC, .slice q.semA p.sems.length q.semC, .slice q.eventA p.events.length q.eventC, .slice q.boardA p.boards.length q.boardC, .slice q.bufferA p.buffers.length q.bufferC, .slice q.portA p.ports.length q.portC] 32 (0, 0)) ∧ Below w.heap.size w W3) := ⟨(hb3.block _ (Array.getElem?_eq_some_iff.1 HX.out.1).1).trans HX.out.1, (hb3.block _ (Array.getElem?_eq_some_iff.1 HX.out.2.1).1).trans HX.out.2.1, HX.out.2.2.trans (hb3.mono HX.out.2.2.size)⟩
 clear hb3 HX
 have HX := HY
 clear HY
 have m3 : W3.cell? ⟨w.heap.size, 5, none⟩ = some (.slice p.boardA p.boards.length p.boardC) := by have := HX.out.1; simp [World.cell?, this]
 have n3 : W3.cell? ⟨w.heap.size + 1, 5, none⟩ = some (.slice q.boardA p.boards.length q.boardC) := by have := HX.out.2.1; simp [World.cell?, this]
 go_wp2_with fail
 clear m3 n3
 refine (eqSBoard_l p.boardA q.boardA p.boards p.boardC q.boardC W3 (small_short HL.out.2.2).boards (HL.out.1.2.2.2.1.below HX.out.2.2) (by have h5 := HL.out.2.1.2.2.2.1.below HX.out.2.2; rw [HG.out.2.2.2.2.2] at h5; exact h5)).mono ?_
 rintro e W4 ⟨rfl, hb4⟩
 have HY : Hid (W4.heap[w.heap.size]? = some (.cells #[.int .i64 p.id, .int .i64 p.next, .slice p.procA p.procs.length p.procC, .slice p.semA p.sems.length p.semC, .slice p.eventA p.events.length p.eventC, .slice p.boardA p.boards.length p.boardC, .slice p.bufferA p.buffers.length p.bufferC, .slice p.portA p.ports.length p.portC] 32 (0, 0)) ∧ W4.heap[w.heap.size + 1]? = some (.cells #[.int .i64 p.id, .int .i64 p.next, .slice q.procA p.procs.length q.procC, .slice q.semA p.sems.length q.semC, .slice q.eventA p.events.length q.eventC, .slice q.boardA p.boards.length q.boardC, .slice q.bufferA p.buffers.length q.bufferC, .slice q.portA p.ports.length q.portC] 32 (0, 0)) ∧ Below w.heap.size w W4) := ⟨(hb4.block _ (Array.getElem?_eq_some_iff.1 HX.out.1).1).trans HX.out.1, (hb4.block _ (Array.getElem?_eq_some_iff.1 HX.out.2.1).1).trans HX.out.2.1, HX.out.2.2.trans (hb4.mono HX.out.2.2.size)⟩
 clear hb4 HX
 have HX := HY
 clear HY
 have m4 : W4.cell? ⟨w.heap.size, 6, none⟩ = some (.slice p.bufferA p.buffers.length p.bufferC) := by have := HX.out.1; simp [World.cell?, this]
 have n4 : W4.cell? ⟨w.heap.size + 1, 6, none⟩ = some (.slice q.bufferA p.buffers.length q.bufferC) := by have := HX.out.2.1; simp [World.cell?, this]
 go_wp2_with fail
 clear m4 n4
 refine (eqSBuffer_l p.bufferA q.bufferA p.buffers q.buffers p.bufferC q.bufferC W4 (small_short HL.out.2.2).buffers (fun x hx => (small_buffer HL.out.2.2 hx).2.1) HG.out.2.1 (HL.out.1.2.2.2.2.1.below HX.out.2.2) (HL.out.2.1.2.2.2.2.1.below HX.out.2.2)).mono ?_
 rintro e W5 ⟨rfl, hb5⟩
 have HY : Hid (W5.heap[w.heap.size]? = some (.cells #[.int .i64 p.id, .int .i64 p.next, .slice p.procA p.procs.length p.procC, .slice p.semA p.sems.length p.semC, .slice p.eventA p.events.length p.eventC, .slice p.boardA p.boards.length p.boardC, .slice p.bufferA p.buffers.length p.bufferC, .slice p.portA p.ports.length p.portC] 32 (0, 0)) ∧ W5.heap[w.heap.size + 1]? = some (.cells #[.int .i64 p.id, .int .i64 p.next, .slice q.procA p.procs.length q.procC, .slice q.semA p.sems.length q.semC, .slice q.eventA p.events.length q.eventC, .slice q.boardA p.boards.length q.boardC, .slice q.bufferA p.buffers.length q.bufferC, .slice q.portA p.ports.length q.portC] 32 (0, 0)) ∧ Below w.heap.size w W5) := ⟨(hb5.block _ (Array.getElem?_eq_some_iff.1 HX.out.1).1).trans HX.out.1, (hb5.block _ (Array.getElem?_eq_some_iff.1 HX.out.2.1).1).trans HX.out.2.1, HX.out.2.2.trans (hb5.mono HX.out.2.2.size)⟩
 clear hb5 HX
 have HX := HY
 clear HY
 have m5 : W5.cell? ⟨w.heap.size, 7, none⟩ = some (.slice p.portA p.ports.length p.portC) := by have := HX.out.1; simp [World.cell?, this]
 have n5 : W5.cell? ⟨w.heap.size + 1, 7, none⟩ = some (.slice q.portA p.ports.length q.portC) := by have := HX.out.2.1; simp [World.cell?, this]
 go_wp2_with fail
 clear m5 n5
 refine (eqSPort_l p.portA q.portA p.ports q.ports p.portC q.portC W5 (small_short HL.out.2.2).ports (fun x hx => (small_port HL.out.2.2 hx).2.1) HG.out.2.2.1 (HL.out.1.2.2.2.2.2.below HX.out.2.2) (HL.out.2.1.2.2.2.2.2.below HX.out.2.2)).mono ?_
 rintro e W6 ⟨rfl, hb6⟩
 have HY : Hid (W6.heap[w.heap.size]? = some (.cells #[.int .i64 p.id, .int .i64 p.next, .slice p.procA p.procs.length p.procC, .slice p.semA p.sems.length p.semC, .slice p.eventA p.events.length p.eventC, .slice p.boardA p.boards.length p.boardC, .slice p.bufferA p.buffers.length p.bufferC, .slice p.portA p.ports.length p.portC] 32 (0, 0)) ∧ W6.heap[w.heap.size + 1]? = some (.cells #[.int .i64 p.id, .int .i64 p.next, .slice q.procA p.procs.length q.procC, .slice q.semA p.sems.length q.semC, .slice q.eventA p.events.length q.eventC, .slice q.boardA p.boards.length q.boardC, .slice q.bufferA p.buffers.length q.bufferC, .slice q.portA p.ports.length q.portC] 32 (0, 0)) ∧ Below w.heap.size w W6) := ⟨(hb6.block _ (Array.getElem?_eq_some_iff.1 HX.out.1).1).trans HX.out.1, (hb6.block _ (Array.getElem?_eq_some_iff.1 HX.out.2.1).1).trans HX.out.2.1, HX.out.2.2.trans (hb6.mono HX.out.2.2.size)⟩
 clear hb6 HX
 have HX := HY
 clear HY
 go_wp2
 go_ret
 exact ⟨rfl, HX.out.2.2⟩

end Go.Proofs.YtkbcplnlehdjfaaGreat

/- Loads of structs in regions that draw their order; partitions that came in, small and with right numbers; impl.PartOk. -/
namespace Go.Proofs.YtkbcplnlehdjfaaGreat
open Go.RowKit

theorem yieldsIf_row {P : Program} {ops : Array Oper} {S : World → Prop} {o : Oper} {a : Act} (hw : Region.wanted o (yielded ops a.tmps) = true) (ty : TypeId) (x : Operand) (ho : o.op = .load ty x)
  (g : Nat) (hx : a.eval x = .pointer (some ⟨g, 0, none⟩)) (t : TypeId) (cs : Array Value) (d : TypeDesc) (hS : ∀ w, S w → w.heap[g]? = some (.cells cs t (0, 0)))
  (hu : P.underlying ty = some d) (hd : (match d with | .struct _ | .array _ _ => true | _ => false) = true) (hi : (P.info? ty).map (·.size) = some cs.size) : YieldsIf P ops S o (.agg cs) a :=
 .inl ⟨hw, fun w hw' => by
  unfold execOp
  simp only [ho, hx, Instr.loadAt, Instr.sureAddr, Sem.run_bind, Sem.run_pure, Result.andThen_ok, run_loadVar_row w g t ty cs (0, 0) d (hS w hw') hu hd hi]⟩

/-- The numbers of a partition fit their kind. -/
structure PartD.Ints (p : PartD) : Prop where
 procs : ∀ x ∈ p.procs, x.Wf
 sems : ∀ x ∈ p.sems, (Lit.int .i64 x.id).wf = true
 events : ∀ x ∈ p.events, (Lit.int .i64 x.id).wf = true
 boards : ∀ x ∈ p.boards, (Lit.int .i64 x.id).wf = true
 buffers : ∀ x ∈ p.buffers, (Lit.int .i64 x.id).wf = true
 ports : ∀ x ∈ p.ports, (Lit.int .i64 x.id).wf = true
theorem small_of {p : PartD} (h : p.Shorts) (hi : p.Ints) : p.pure.Small := by
 refine ⟨by simpa [PartD.pure] using h.nProc, h.nSem, h.nEvent, h.nBoard, by simpa [PartD.pure] using h.nBuffer, by simpa [PartD.pure] using h.nPort, fun x hx => ?_, hi.sems, hi.events, fun x hx => ⟨hi.boards x hx, h.boards x hx⟩, fun x hx => ?_, fun x hx => ?_⟩
 ·obtain ⟨y, hy, rfl⟩ := List.mem_map.1 hx
  have h1 := h.procs y hy
  have h2 := hi.procs y hy
  exact ⟨⟨h1.prog, h1.ops, h1.held, h1.got⟩, h2.id, h2.on, h2.since⟩
 ·obtain ⟨y, hy, rfl⟩ := List.mem_map.1 hx
  exact ⟨hi.buffers y hy, h.buffers y hy⟩
 ·obtain ⟨y, hy, rfl⟩ := List.mem_map.1 hx
  exact ⟨hi.ports y hy, h.ports y hy⟩

set_option maxRecDepth 100000 in
set_option maxHeartbeats 2000000 in
theorem implPartOk_any (p : PartD) (w : World) (hg : p.Good w) : Calls Tryz.prog 24 #[.agg p.cells] w fun e w' => e = .returned (.bool (partB p.pure)) ∧ Below w.heap.size w w' := by
 have HG : Hid (p.Good (w.alloc (.cells p.cells 32)) ∧ Below w.heap.size w (w.alloc (.cells p.cells 32))) := ⟨hg.below ((Below.refl _ _).alloc (Nat.le_refl _) _), (Below.refl _ _).alloc (Nat.le_refl _) _⟩
 clear hg
 unfold PartD.cells at *
 go_enter Tryz.func24, Tryz.ntmps24
 go_wp2_with fail
 generalize w.alloc (.cells #[.int .i64 p.id, .int .i64 p.next, .slice p.procA p.procs.length p.procC, .slice p.semA p.sems.length p.semC, .slice p.eventA p.events.length p.eventC, .slice p.boardA p.boards.length p.boardC, .slice p.bufferA p.buffers.length p.bufferC, .slice p.portA p.ports.length p.portC] 32) = W at *
 refine (opened_any p W HG.out.1).mono ?_
 rintro e w1 ⟨hb1, ⟨hno, rfl⟩ | ⟨hyes, o, S, rfl, -, -⟩⟩
 ·have HZ : Hid (Below w.heap.size w w1 ∧ partB p.pure = false) := ⟨HG.out.2.trans (hb1.mono HG.out.2.size), partB_false hno⟩
  clear hb1 hno
  go_wp2
  go_ret
  exact ⟨ret_bool HZ.out.2.symm, HZ.out.1⟩
 ·have HZ : Hid (Below w.heap.size w w1 ∧ partB p.pure = true) := ⟨HG.out.2.trans (hb1.mono HG.out.2.size), partB_true hyes⟩
  clear hb1 hyes
  go_wp2
  go_ret
  exact ⟨ret_bool HZ.out.2.symm, HZ.out.1⟩

end Go.Proofs.YtkbcplnlehdjfaaGreat

/- The cells of a partition that lies in a block. (Made by mkchosenlaw.py.) -/
namespace Go.Proofs.YtkbcplnlehdjfaaGreat
open Go.RowKit

theorem srcCells {W : World} {B : Nat} {p : PartD} {T : TypeId} (h : W.heap[B]? = some (.cells #[.int .i64 p.id, .int .i64 p.next, .slice p.procA p.procs.length p.procC, .slice p.semA p.sems.length p.semC, .slice p.eventA p.events.length p.eventC, .slice p.boardA p.boards.length p.boardC, .slice p.bufferA p.buffers.length p.bufferC, .slice p.portA p.ports.length p.portC] T (0, 0))) : W.cell? ⟨B, 0, none⟩ = some (.int .i64 p.id) ∧ W.cell? ⟨B, 1, none⟩ = some (.int .i64 p.next) ∧ W.cell? ⟨B, 2, none⟩ = some (.slice p.procA p.procs.length p.procC) ∧ W.cell? ⟨B, 3, none⟩ = some (.slice p.semA p.sems.length p.semC) ∧ W.cell? ⟨B, 4, none⟩ = some (.slice p.eventA p.events.length p.eventC) ∧ W.cell? ⟨B, 5, none⟩ = some (.slice p.boardA p.boards.length p.boardC) ∧ W.cell? ⟨B, 6, none⟩ = some (.slice p.bufferA p.buffers.length p.bufferC) ∧ W.cell? ⟨B, 7, none⟩ = some (.slice p.portA p.ports.length p.portC) := by
 simp [World.cell?, h]

end Go.Proofs.YtkbcplnlehdjfaaGreat

/- What the exact laws of functions that hand out memory have in common: how many marks there are; what a mark leaves as it was. -/
namespace Go.Proofs.YtkbcplnlehdjfaaGreat
open Go.RowKit

theorem cnt_op (l : List OpD) : cntL (fun _ : OpD => 4) l = l.length * 4 := cntL_const (fun _ => rfl) l
theorem cnt_str (l : List ByteArray) : cntL (fun _ : ByteArray => 1) l = l.length * 1 := cntL_const (fun _ => rfl) l
theorem cnt_proc : ∀ l : List ProcD, cntL cProc l ≤ 11 * (l.length + sumL (fun x : ProcD => x.prog.length) l)
 | [] => by simp [cntL]
 | x :: r => by
  have h1 := cnt_proc r
  have h2 : cProc x = 2 + cntL (fun _ : OpD => 4) x.prog + 9 := rfl
  have h3 := cnt_op x.prog
  simp only [cntL, List.length_cons, sumL, List.map_cons, List.sum_cons] at h1 ⊢
  omega
theorem cnt_buffer : ∀ l : List BufferD, cntL cBuffer l ≤ 11 * (l.length + sumL (fun x : BufferD => x.items.length) l)
 | [] => by simp [cntL]
 | x :: r => by
  have h1 := cnt_buffer r
  have h2 : cBuffer x = 2 + cntL (fun _ : ByteArray => 1) x.items := rfl
  have h3 := cnt_str x.items
  simp only [cntL, List.length_cons, sumL, List.map_cons, List.sum_cons] at h1 ⊢
  omega
theorem cnt_port : ∀ l : List PortD, cntL cPort l ≤ 11 * (l.length + sumL (fun x : PortD => x.items.length) l)
 | [] => by simp [cntL]
 | x :: r => by
  have h1 := cnt_port r
  have h2 : cPort x = 4 + cntL (fun _ : ByteArray => 1) x.items := rfl
  have h3 := cnt_str x.items
  simp only [cntL, List.length_cons, sumL, List.map_cons, List.sum_cons] at h1 ⊢
  omega
theorem cnt_part (p : PartD) : cntPart p ≤ 11 * p.pure.total := by
 rw [PartD.total_is]
 unfold cntPart
 have h1 := cnt_proc p.procs
 have h2 := cnt_buffer p.buffers
 have h3 := cnt_port p.ports
 have h4 : cntL (fun _ : SemD => 3) p.sems = p.sems.length * 3 := cntL_const (fun _ => rfl) _
 have h5 : cntL (fun _ : EventD => 2) p.events = p.events.length * 2 := cntL_const (fun _ => rfl) _
 have h6 : cntL (fun _ : BoardD => 3) p.boards = p.boards.length * 3 := cntL_const (fun _ => rfl) _
 omega
theorem small_cnt {p : PartD} (h : p.pure.Small) : p.Cnt := by
 refine ⟨by simpa [PartD.pure] using h.nProc, h.nSem, h.nEvent, h.nBoard, by simpa [PartD.pure] using h.nBuffer, by simpa [PartD.pure] using h.nPort, fun x hx => ?_, fun x hx => ?_, fun x hx => ?_⟩
 ·exact (h.procs x.toProcP (List.mem_map.2 ⟨x, hx, rfl⟩)).1.1
 ·exact (h.buffers x.toBufferP (List.mem_map.2 ⟨x, hx, rfl⟩)).2.1
 ·exact (h.ports x.toPortP (List.mem_map.2 ⟨x, hx, rfl⟩)).2.1
theorem mine_below {α : Type} {N : Nest α} {w w' : World} {base : Nat} {x : α} (h : N.Mine w base x) (hb : Below w.heap.size w w') : N.Mine w' base x := h.same fun g hk => hb.block g (h.lt hk).2

/-- The argument's block, and that nothing that was there is changed. -/
def SrcS (p : PartD) (w W : World) : Prop := W.heap[w.heap.size]? = some (.cells p.cells 73 (0, 0)) ∧ Below w.heap.size w W
/-- A partition, a process in its block, in memory of its own. -/
def PartIn (W : World) (X b : Nat) (q : PartD) : Prop := PartBox W X q ∧ PartOwn W b q
def ProcIs (W : World) (X b : Nat) (x : ProcD) : Prop := ProcBox W X x ∧ procN.Mine W b x
section
variable {p q : PartD} {x : ProcD} {w W W' : World} {X b : Nat} {bs : List Nat}
theorem SrcS.below (h : SrcS p w W) (hb : Below W.heap.size W W') : SrcS p w W' := ⟨(hb.block _ (Array.getElem?_eq_some_iff.1 h.1).1).trans h.1, h.2.trans (hb.mono h.2.size)⟩
theorem SrcS.kept (h : SrcS p w W) (hk : KeptBut W W' bs) (hs : ∀ g ∈ bs, w.heap.size < g) : SrcS p w W' := ⟨(hk.same _ (Array.getElem?_eq_some_iff.1 h.1).1 fun hm => by have := hs _ hm; omega).trans h.1, h.2.trans (hk.below h.2.size fun g hg => by have := hs g hg; omega)⟩
theorem PartIn.below (h : PartIn W X b q) (hb : Below W.heap.size W W') : PartIn W' X b q := ⟨h.1.below hb, h.2.below hb⟩
theorem PartIn.kept (h : PartIn W X b q) (hk : KeptBut W W' bs) (hs : X ∉ bs) (ho : ∀ g ∈ q.blocks, g ∉ bs) : PartIn W' X b q := ⟨(hk.same _ (Array.getElem?_eq_some_iff.1 h.1).1 hs).trans h.1, h.2.same fun g hg => hk.same g (h.2.lt g hg).2 (ho g hg)⟩
theorem ProcIs.below (h : ProcIs W X b x) (hb : Below W.heap.size W W') : ProcIs W' X b x := ⟨h.1.below hb, mine_below h.2 hb⟩
theorem ProcIs.kept (h : ProcIs W X b x) (hk : KeptBut W W' bs) (hs : X ∉ bs) (ho : ∀ g ∈ blk x.progA, g ∉ bs) : ProcIs W' X b x := ⟨(hk.same _ (Array.getElem?_eq_some_iff.1 h.1).1 hs).trans h.1, h.2.same fun g hg => hk.same g (h.2.lt hg).2 (ho g (mem_blk.2 hg))⟩
theorem PartBox.lt {W : World} {X : Nat} {q : PartD} (h : PartBox W X q) : X < W.heap.size := (Array.getElem?_eq_some_iff.1 h).1
theorem ProcBox.lt {W : World} {X : Nat} {x : ProcD} (h : ProcBox W X x) : X < W.heap.size := (Array.getElem?_eq_some_iff.1 h).1
end

end Go.Proofs.YtkbcplnlehdjfaaGreat

/- A region that draws its order and makes memory: what is done so far, and what it left, is kept as an invariant; each operation is looked at once, whatever has come ahead of it. -/
namespace Go.Proofs.YtkbcplnlehdjfaaGreat
open Go

section
variable {P : Program} {ops : Array Oper} {Q : Exit → Act → World → Prop} {md : Region.Mode} {S : World → Prop}
def undone (l : Array Bool) : Nat := l.toList.count false
theorem ready_free {l : Array Bool} {i : Nat} (h : i ∈ Region.ready md ops l) : l[i]? = some false := by
 simp only [Region.ready, List.mem_filter, Bool.and_eq_true, Bool.not_eq_true'] at h
 have h1 := h.2.1
 rw [Array.getD_eq_getD_getElem?] at h1
 cases h2 : l[i]? with
 | none => rw [h2] at h1; simp at h1
 | some b => rw [h2] at h1; simp at h1; rw [h1]
/-- What an operation waits for. -/
def needs (md : Region.Mode) (ops : Array Oper) (i : Nat) : List Nat := ((ops[i]?).map fun o => (o.after.toList.filter fun e => Region.binds md e).map fun e => e.on).getD []
theorem ready_needs {l : Array Bool} {i : Nat} (ns : List Nat) (h : i ∈ Region.ready md ops l) (hn : needs md ops i = ns) : ∀ j ∈ ns, l[j]? = some true := fun j hj => by
 simp only [Region.ready, List.mem_filter, Bool.and_eq_true] at h
 have h1 := h.2.2
 subst hn
 unfold needs at hj
 cases ho : ops[i]? with
 | none => rw [ho] at hj; simp at hj
 | some o =>
  rw [ho] at hj h1
  simp only [Option.map_some, Option.getD_some, List.mem_map, List.mem_filter] at hj h1
  obtain ⟨e, ⟨he, hb⟩, rfl⟩ := hj
  rw [Array.all_eq_true_iff_forall_mem] at h1
  have h2 := h1 e (by simpa using he)
  simp only [hb, Bool.not_true, Bool.false_or, Array.getD_eq_getD_getElem?] at h2
  cases h3 : l[e.on]? with
  | none => rw [h3] at h2; simp at h2
  | some b => rw [h3] at h2; simp at h2; rw [h2]
theorem ready_of {l : Array Bool} {i : Nat} (ns : List Nat) (hi : decide (i < ops.size) = true) (hn : needs md ops i = ns) (hf : l[i]? = some false) (hd : ∀ j ∈ ns, l[j]? = some true) : i ∈ Region.ready md ops l := by
 have hi' := of_decide_eq_true hi
 simp only [Region.ready, List.mem_filter, List.mem_range, Bool.and_eq_true, Bool.not_eq_true', Array.getD_eq_getD_getElem?, hf, Option.getD_some, true_and]
 refine ⟨hi', ?_⟩
 subst hn
 rw [Array.getElem?_eq_getElem hi'] at *
 simp only [needs, Array.getElem?_eq_getElem hi', Option.map_some, Option.getD_some] at hd ⊢
 rw [Array.all_eq_true_iff_forall_mem]
 intro e he
 cases hb : Region.binds md e with
 | false => simp
 | true =>
  have := hd e.on (List.mem_map.2 ⟨e, List.mem_filter.2 ⟨by simpa using he, hb⟩, rfl⟩)
  simp [this]
theorem count_set : ∀ {q : List Bool} {i : Nat}, q[i]? = some false → (q.set i true).count false + 1 = q.count false
 | [], _, h => by simp at h
 | b :: r, 0, h => by
  simp only [List.getElem?_cons_zero, Option.some.injEq] at h
  subst h
  simp
 | b :: r, i + 1, h => by
  simp only [List.getElem?_cons_succ] at h
  have := count_set h
  simp only [List.set_cons_succ, List.count_cons]
  omega
theorem undone_set {l : Array Bool} {i : Nat} (h : l[i]? = some false) : undone (l.setIfInBounds i true) + 1 = undone l := by
 unfold undone
 rw [Array.toList_setIfInBounds]
 exact count_set (by rw [Array.getElem?_toList]; exact h)
/-- An operation that may be taken first, its checks left to the kernel. -/
theorem tk (i : Nat) {oi : Oper} {v : Value} {fuel : Nat} {listed : Array Bool} {a : Act} {w : World} {d : Tmp} (hy : ∀ w, S w → (execOp a.eval oi).run P w = .ok (.value v) w) (hS : S w)
  (h : wpAnyH P md ops Q S fuel (listed.setIfInBounds i true) (a.put (some d) v) w) (hi : ops[i]? = some oi := by rfl) (hd : oi.dst = some d := by rfl) (h1 : Region.noSelect ops = true := by kernel_rfl) (h2 : Region.free md ops listed i = true := by kernel_rfl) (h3 : (Region.ready md ops listed).contains i = true := by kernel_rfl)
  (hQ : ∀ c a w, Q (.panic c) (a.put (some d) v) w → Q (.panic c) a w := by exact fun _ _ _ h => h) (hw : Region.wanted oi (yielded ops a.tmps) = true := by kernel_rfl) : wpAnyH P md ops Q S (fuel + 1) listed a w := by
 rw [← hd] at h hQ
 exact wpAnyH_take (i := i) hi h1 h2 h3 hQ (.inl ⟨hw, hy⟩) hS h
theorem wpOp_do {i : Nat} {o : Oper} {K : Act → World → Prop} {a : Act} {w : World} (ho : ops[i]? = some o) (hw : Region.wanted o (yielded ops a.tmps) = true)
  (h : ∀ K' : Act → World → Prop, Shut (∀ a w, K a w → K' a w) → Oper.wp P o a w K' Q) : wpOp P ops Q i K a w :=
 wpOp_step ho fun K' hK => by
  rw [if_pos hw]
  exact h K' hK
theorem wild (Inv : Array Bool → Act → World → Prop) (hS : ∀ l a w, Inv l a w → S w) (hstep : ∀ l a w, Inv l a w → ∀ i ∈ Region.ready md ops l, wpOp P ops Q i (Inv (l.setIfInBounds i true)) a w)
  (hend : ∀ l a w, Inv l a w → Region.ready md ops l = [] → Q .normal a w) : ∀ (fuel : Nat) (l : Array Bool) (a : Act) (w : World), Inv l a w → undone l ≤ fuel → wpAnyH P md ops Q S fuel l a w
 | 0, l, a, w, h, hu => by
  have h0 : Region.ready md ops l = [] := List.eq_nil_iff_forall_not_mem.2 fun i hi => by
   have := undone_set (ready_free hi)
   omega
  exact ⟨h0, hend _ _ _ h h0⟩
 | fuel + 1, l, a, w, h, hu => ⟨fun h0 => hend _ _ _ h h0, fun i hi => wpOp_mono (fun a' w' h' => ⟨hS _ _ _ h', wild Inv hS hstep hend fuel _ a' w' h' (by have := undone_set (ready_free hi); omega)⟩) (hstep _ _ _ h i hi)⟩
end

end Go.Proofs.YtkbcplnlehdjfaaGreat
