/- What the proof leans on, part 22: LwProc. -/
import Derived.Test.YtkbcplnlehdjfaaGreatOwnR1
import Derived.Test.YtkbcplnlehdjfaaGreatOwnR20

namespace Go.Proofs.YtkbcplnlehdjfaaGreat
open Go.RowKit
attribute [local go_sem ↓] Go.wp_at_zero Go.wp_at_succ
set_option maxHeartbeats 2000000 in
theorem szProc_l (x : ProcD) (left : Int) (w : World) (hb : ((x.prog.length ≤ maxLen ∧ ∀ o ∈ x.prog, o.2.2.2.size ≤ maxLen) ∧ x.held.size ≤ maxLen ∧ x.got.size ≤ maxLen)) (hc : opK.Came w x.progA x.prog) (h0 : 0 ≤ left) (h1 : left ≤ 1048576) :
  Calls Tryz.prog 189 #[.agg #[.int .i64 x.id, .int .i64 x.prio, .slice x.progA x.prog.length x.progC, .int .i64 x.state, .int .i64 x.pc, .int .i64 x.left, .int .i64 x.wake, .int .i64 x.on, .string x.held, .string x.got, .int .i64 x.code, .int .i64 x.since], .int .i64 left] w fun e w' => SzEnds w left (x.prog.length) (x.Short) e w' := by
 have HB : Hid (((x.prog.length ≤ maxLen ∧ ∀ o ∈ x.prog, o.2.2.2.size ≤ maxLen) ∧ x.held.size ≤ maxLen ∧ x.got.size ≤ maxLen)) := hb
 have HC : Hid (opK.Came (w.alloc (.cells #[.int .i64 x.id, .int .i64 x.prio, .slice x.progA x.prog.length x.progC, .int .i64 x.state, .int .i64 x.pc, .int .i64 x.left, .int .i64 x.wake, .int .i64 x.on, .string x.held, .string x.got, .int .i64 x.code, .int .i64 x.since] 235)) x.progA x.prog) := hc.below ((Below.refl _ _).alloc (Nat.le_refl _) _)
 clear hc
 have HW : Hid (Below w.heap.size w (w.alloc (.cells #[.int .i64 x.id, .int .i64 x.prio, .slice x.progA x.prog.length x.progC, .int .i64 x.state, .int .i64 x.pc, .int .i64 x.left, .int .i64 x.wake, .int .i64 x.on, .string x.held, .string x.got, .int .i64 x.code, .int .i64 x.since] 235))) := (Below.refl _ _).alloc (Nat.le_refl _) _
 clear hb
 go_enter Tryz.func189, Tryz.ntmps189
 have HX : Hid ((w.alloc (.cells #[.int .i64 x.id, .int .i64 x.prio, .slice x.progA x.prog.length x.progC, .int .i64 x.state, .int .i64 x.pc, .int .i64 x.left, .int .i64 x.wake, .int .i64 x.on, .string x.held, .string x.got, .int .i64 x.code, .int .i64 x.since] 235)).heap[w.heap.size]? = some (.cells #[.int .i64 x.id, .int .i64 x.prio, .slice x.progA x.prog.length x.progC, .int .i64 x.state, .int .i64 x.pc, .int .i64 x.left, .int .i64 x.wake, .int .i64 x.on, .string x.held, .string x.got, .int .i64 x.code, .int .i64 x.since] 235 (0, 0))) := heap_alloc_new _ _
 go_wp2_with fail
 generalize w.alloc (.cells #[.int .i64 x.id, .int .i64 x.prio, .slice x.progA x.prog.length x.progC, .int .i64 x.state, .int .i64 x.pc, .int .i64 x.left, .int .i64 x.wake, .int .i64 x.on, .string x.held, .string x.got, .int .i64 x.code, .int .i64 x.since] 235) = W at *
 refine (szSOp_l x.progA x.prog x.progC left W HB.out.1.1 HC.out HB.out.1.2 h0 h1).mono ?_
 rintro e w1 ⟨r1, rfl, q0, q1, q2, hb1⟩
 have HB1 : Hid (Below w.heap.size w w1) := HW.out.trans (hb1.mono HW.out.size)
 have HX1 : Hid (w1.heap[w.heap.size]? = some (.cells #[.int .i64 x.id, .int .i64 x.prio, .slice x.progA x.prog.length x.progC, .int .i64 x.state, .int .i64 x.pc, .int .i64 x.left, .int .i64 x.wake, .int .i64 x.on, .string x.held, .string x.got, .int .i64 x.code, .int .i64 x.since] 235 (0, 0))) := (hb1.block _ (Array.getElem?_eq_some_iff.1 HX.out).1).trans HX.out
 have HQ : Hid (0 ≤ r1 → (x.prog.length ≤ 1048576 ∧ ∀ s ∈ x.prog, (s.2.2.2.size ≤ 1048576)) ∧ r1 + (x.prog.length : Nat) ≤ left) := q2
 clear hb1 HX q2
 by_cases hn : r1 < 0
 ·go_wp2
  go_ret
  exact szEnds_no HB1.out h0
 have k8 : w1.cell? ⟨w.heap.size, 8, none⟩ = some (.string x.held) := by have := HX1.out; simp [World.cell?, this]
 have k9 : w1.cell? ⟨w.heap.size, 9, none⟩ = some (.string x.got) := by have := HX1.out; simp [World.cell?, this]
 have z0 : x.held.size ≤ 9223372036854775807 := HB.out.2.1
 by_cases s0 : r1 - (x.held.size : Int) < 0
 ·go_wp2
  go_ret
  exact szEnds_no HB1.out h0
 have z1 : x.got.size ≤ 9223372036854775807 := HB.out.2.2
 by_cases s1 : r1 - (x.held.size : Int) - (x.got.size : Int) < 0
 ·go_wp2
  go_ret
  exact szEnds_no HB1.out h0
 go_wp2
 go_ret
 exact ⟨r1 - (x.held.size : Int) - (x.got.size : Int), rfl, by omega, by omega, fun _ => ⟨⟨(HQ.out (by omega)).1.1, (HQ.out (by omega)).1.2, by omega, by omega⟩, by have := (HQ.out (by omega)).2; omega⟩, HB1.out⟩
set_option maxHeartbeats 2000000 in
theorem szSProc_l (a : Option Addr) (l : List ProcD) (cap : Nat) (left : Int) (w : World) (hl : l.length ≤ maxLen) (hc : procK.Came w a l) (hs : ∀ x ∈ l, ((x.prog.length ≤ maxLen ∧ ∀ o ∈ x.prog, o.2.2.2.size ≤ maxLen) ∧ x.held.size ≤ maxLen ∧ x.got.size ≤ maxLen)) (h0 : 0 ≤ left) (h1 : left ≤ 1048576) :
  Calls Tryz.prog 107 #[.slice a l.length cap, .int .i64 left] w fun e w' => SzEnds w left (l.length + sumL (fun x : ProcD => x.prog.length) l) (l.length ≤ 1048576 ∧ ∀ x ∈ l, x.Short) e w' := by
 have hl' := hl
 unfold maxLen at hl'
 by_cases hn : left - (l.length : Int) < 0
 ·go_enter Tryz.func107, Tryz.ntmps107
  go_wp2
  go_ret
  exact szEnds_no (Below.refl _ _) h0
 have HC : Hid (procK.Came w a l ∧ ∀ x ∈ l, ((x.prog.length ≤ maxLen ∧ ∀ o ∈ x.prog, o.2.2.2.size ≤ maxLen) ∧ x.held.size ≤ maxLen ∧ x.got.size ≤ maxLen)) := ⟨hc, hs⟩
 clear hc hs hl
 go_enter Tryz.func107, Tryz.ntmps107
 go_wp2_with fail
 go_loopw [1, 5] (fun q i wr => ∃ (k : Nat) (r : Int), k ≤ l.length ∧ i = .int .i64 k ∧ q = .int .i64 r ∧ 0 ≤ r ∧ r ≤ left - (l.length : Int) ∧ Hid ((∀ x ∈ l.take k, x.Short) ∧ r + (sumL (fun x : ProcD => x.prog.length) (l.take k) : Nat) ≤ left - (l.length : Int) ∧ Below w.heap.size w wr)) (fun _ i _ => l.length - (intOf i).toNat)
 case atStart => exact ⟨0, left - (l.length : Int), Nat.zero_le _, rfl, rfl, by omega, by omega, ⟨by simp, by simp [sumL], Below.refl _ _⟩⟩
 case round =>
  obtain ⟨k, r, hk, rfl, rfl, r0, r1, HA⟩ := hrel
  by_cases hlt : k < l.length
  ·have i0 : (0 : Int) ≤ (k : Int) := by omega
   have i1 : (k : Int) < (l.length : Int) := by omega
   obtain ⟨x, hx⟩ : ∃ x, l[k]? = some x := ⟨_, List.getElem?_eq_getElem hlt⟩
   have hmem := List.mem_of_getElem? hx
   obtain ⟨b, off, rfl, hat⟩ := (HC.out.1.below HA.out.2.2).at hx
   have c0 : wr.cell? ⟨b, off + k * 12, none⟩ = some (.int .i64 x.id) := hat 0 _ rfl
   have c1 : wr.cell? ⟨b, off + k * 12 + 1, none⟩ = some (.int .i64 x.prio) := hat 1 _ rfl
   have c2 : wr.cell? ⟨b, off + k * 12 + 2, none⟩ = some (.slice x.progA x.prog.length x.progC) := hat 2 _ rfl
   have c3 : wr.cell? ⟨b, off + k * 12 + 3, none⟩ = some (.int .i64 x.state) := hat 3 _ rfl
   have c4 : wr.cell? ⟨b, off + k * 12 + 4, none⟩ = some (.int .i64 x.pc) := hat 4 _ rfl
   have c5 : wr.cell? ⟨b, off + k * 12 + 5, none⟩ = some (.int .i64 x.left) := hat 5 _ rfl
   have c6 : wr.cell? ⟨b, off + k * 12 + 6, none⟩ = some (.int .i64 x.wake) := hat 6 _ rfl
   have c7 : wr.cell? ⟨b, off + k * 12 + 7, none⟩ = some (.int .i64 x.on) := hat 7 _ rfl
   have c8 : wr.cell? ⟨b, off + k * 12 + 8, none⟩ = some (.string x.held) := hat 8 _ rfl
   have c9 : wr.cell? ⟨b, off + k * 12 + 9, none⟩ = some (.string x.got) := hat 9 _ rfl
   have c10 : wr.cell? ⟨b, off + k * 12 + 10, none⟩ = some (.int .i64 x.code) := hat 10 _ rfl
   have c11 : wr.cell? ⟨b, off + k * 12 + 11, none⟩ = some (.int .i64 x.since) := hat 11 _ rfl
   have HX : Hid (l[k]? = some x ∧ ((x.prog.length ≤ maxLen ∧ ∀ o ∈ x.prog, o.2.2.2.size ≤ maxLen) ∧ x.held.size ≤ maxLen ∧ x.got.size ≤ maxLen)) := ⟨hx, HC.out.2 x hmem⟩
   have HK : Hid (opK.Came wr x.progA x.prog) := ⟨((HC.out.1.below HA.out.2.2).kid hx (r := (x.progA, opK.flat x.prog)) (by simp [procK])), fun y _ r hr => by simp [opK] at hr⟩
   clear hx hmem hat
   go_wp2_with fail
   refine (szProc_l x r wr HX.out.2 HK.out r0 (by omega)).mono ?_
   rintro e w1 ⟨r2, rfl, q0, q1, q2, hb1⟩
   have HB1 : Hid (Below w.heap.size w w1 ∧ (0 ≤ r2 → x.Short ∧ r2 + (x.prog.length : Nat) ≤ r)) := ⟨HA.out.2.2.trans (hb1.mono HA.out.2.2.size), q2⟩
   clear hb1 q2 c0 c1 c2 c3 c4 c5 c6 c7 c8 c9 c10 c11
   by_cases hneg : r2 < 0
   ·go_wp2
    go_ret
    exact szEnds_no HB1.out.1 h0
   go_wp2
   go_roundw
   case rel => exact ⟨k + 1, r2, by omega, by go_num, rfl, by omega, by omega, ⟨all_up HX.out.1 HA.out.1 (HB1.out.2 (by omega)).1, by rw [sumL_up HX.out.1]; have h5 := (HB1.out.2 (by omega)).2; have h6 := HA.out.2.1; omega, HB1.out.1⟩⟩
   case measure => simp [intOf]; omega
  ·have i1 : ¬ (k : Int) < (l.length : Int) := by omega
   go_wp2
   go_ret
   exact ⟨r, rfl, by omega, by omega, fun _ => ⟨⟨by omega, all_end (by omega) HA.out.1⟩, by have h5 := HA.out.2.1; rw [List.take_of_length_le (by omega)] at h5; omega⟩, HA.out.2.2⟩
set_option maxRecDepth 100000 in
set_option maxHeartbeats 4000000 in
theorem toProc_l (x : ProcD) (w : World) (hl : x.prog.length ≤ 1048576) (hc : opK.Came w x.progA x.prog) :
  Calls Tryz.prog 192 #[.agg #[.int .i64 x.id, .int .i64 x.prio, .slice x.progA x.prog.length x.progC, .int .i64 x.state, .int .i64 x.pc, .int .i64 x.left, .int .i64 x.wake, .int .i64 x.on, .string x.held, .string x.got, .int .i64 x.code, .int .i64 x.since]] w fun e w' => ∃ a c, e = .returned (.agg (procVs (procN.set x a c))) ∧ procN.Mine w' (w.heap.size + 1) (procN.set x a c) ∧ Below w.heap.size w w' := by
 have HB : Hid (Below w.heap.size w (((w.alloc (.cells #[.int .i64 x.id, .int .i64 x.prio, .slice x.progA x.prog.length x.progC, .int .i64 x.state, .int .i64 x.pc, .int .i64 x.left, .int .i64 x.wake, .int .i64 x.on, .string x.held, .string x.got, .int .i64 x.code, .int .i64 x.since] 235)).alloc (.cells #[.int .i64 0, .int .i64 0, .slice none 0 0, .int .i64 0, .int .i64 0, .int .i64 0, .int .i64 0, .int .i64 0, .string ⟨#[]⟩, .string ⟨#[]⟩, .int .i64 0, .int .i64 0] 43)).alloc (.cells #[.int .i64 x.id, .int .i64 x.prio, .slice none 0 0, .int .i64 0, .int .i64 0, .int .i64 0, .int .i64 0, .int .i64 0, .string ⟨#[]⟩, .string ⟨#[]⟩, .int .i64 0, .int .i64 0] 43))) := alloc3_below _ _ _ _
 have HC : Hid (opK.Came (((w.alloc (.cells #[.int .i64 x.id, .int .i64 x.prio, .slice x.progA x.prog.length x.progC, .int .i64 x.state, .int .i64 x.pc, .int .i64 x.left, .int .i64 x.wake, .int .i64 x.on, .string x.held, .string x.got, .int .i64 x.code, .int .i64 x.since] 235)).alloc (.cells #[.int .i64 0, .int .i64 0, .slice none 0 0, .int .i64 0, .int .i64 0, .int .i64 0, .int .i64 0, .int .i64 0, .string ⟨#[]⟩, .string ⟨#[]⟩, .int .i64 0, .int .i64 0] 43)).alloc (.cells #[.int .i64 x.id, .int .i64 x.prio, .slice none 0 0, .int .i64 0, .int .i64 0, .int .i64 0, .int .i64 0, .int .i64 0, .string ⟨#[]⟩, .string ⟨#[]⟩, .int .i64 0, .int .i64 0] 43)) x.progA x.prog ∧ x.prog.length ≤ 1048576) := ⟨hc.below HB.out, hl⟩
 have HX : Hid ((((w.alloc (.cells #[.int .i64 x.id, .int .i64 x.prio, .slice x.progA x.prog.length x.progC, .int .i64 x.state, .int .i64 x.pc, .int .i64 x.left, .int .i64 x.wake, .int .i64 x.on, .string x.held, .string x.got, .int .i64 x.code, .int .i64 x.since] 235)).alloc (.cells #[.int .i64 0, .int .i64 0, .slice none 0 0, .int .i64 0, .int .i64 0, .int .i64 0, .int .i64 0, .int .i64 0, .string ⟨#[]⟩, .string ⟨#[]⟩, .int .i64 0, .int .i64 0] 43)).alloc (.cells #[.int .i64 x.id, .int .i64 x.prio, .slice none 0 0, .int .i64 0, .int .i64 0, .int .i64 0, .int .i64 0, .int .i64 0, .string ⟨#[]⟩, .string ⟨#[]⟩, .int .i64 0, .int .i64 0] 43)).heap[w.heap.size]? = some (.cells #[.int .i64 x.id, .int .i64 x.prio, .slice x.progA x.prog.length x.progC, .int .i64 x.state, .int .i64 x.pc, .int .i64 x.left, .int .i64 x.wake, .int .i64 x.on, .string x.held, .string x.got, .int .i64 x.code, .int .i64 x.since] 235 (0, 0)) ∧ (((w.alloc (.cells #[.int .i64 x.id, .int .i64 x.prio, .slice x.progA x.prog.length x.progC, .int .i64 x.state, .int .i64 x.pc, .int .i64 x.left, .int .i64 x.wake, .int .i64 x.on, .string x.held, .string x.got, .int .i64 x.code, .int .i64 x.since] 235)).alloc (.cells #[.int .i64 0, .int .i64 0, .slice none 0 0, .int .i64 0, .int .i64 0, .int .i64 0, .int .i64 0, .int .i64 0, .string ⟨#[]⟩, .string ⟨#[]⟩, .int .i64 0, .int .i64 0] 43)).alloc (.cells #[.int .i64 x.id, .int .i64 x.prio, .slice none 0 0, .int .i64 0, .int .i64 0, .int .i64 0, .int .i64 0, .int .i64 0, .string ⟨#[]⟩, .string ⟨#[]⟩, .int .i64 0, .int .i64 0] 43)).heap[w.heap.size + 1]? = some (.cells #[.int .i64 0, .int .i64 0, .slice none 0 0, .int .i64 0, .int .i64 0, .int .i64 0, .int .i64 0, .int .i64 0, .string ⟨#[]⟩, .string ⟨#[]⟩, .int .i64 0, .int .i64 0] 43 (0, 0)) ∧ (((w.alloc (.cells #[.int .i64 x.id, .int .i64 x.prio, .slice x.progA x.prog.length x.progC, .int .i64 x.state, .int .i64 x.pc, .int .i64 x.left, .int .i64 x.wake, .int .i64 x.on, .string x.held, .string x.got, .int .i64 x.code, .int .i64 x.since] 235)).alloc (.cells #[.int .i64 0, .int .i64 0, .slice none 0 0, .int .i64 0, .int .i64 0, .int .i64 0, .int .i64 0, .int .i64 0, .string ⟨#[]⟩, .string ⟨#[]⟩, .int .i64 0, .int .i64 0] 43)).alloc (.cells #[.int .i64 x.id, .int .i64 x.prio, .slice none 0 0, .int .i64 0, .int .i64 0, .int .i64 0, .int .i64 0, .int .i64 0, .string ⟨#[]⟩, .string ⟨#[]⟩, .int .i64 0, .int .i64 0] 43)).heap[w.heap.size + 1 + 1]? = some (.cells #[.int .i64 x.id, .int .i64 x.prio, .slice none 0 0, .int .i64 0, .int .i64 0, .int .i64 0, .int .i64 0, .int .i64 0, .string ⟨#[]⟩, .string ⟨#[]⟩, .int .i64 0, .int .i64 0] 43 (0, 0)) ∧ (((w.alloc (.cells #[.int .i64 x.id, .int .i64 x.prio, .slice x.progA x.prog.length x.progC, .int .i64 x.state, .int .i64 x.pc, .int .i64 x.left, .int .i64 x.wake, .int .i64 x.on, .string x.held, .string x.got, .int .i64 x.code, .int .i64 x.since] 235)).alloc (.cells #[.int .i64 0, .int .i64 0, .slice none 0 0, .int .i64 0, .int .i64 0, .int .i64 0, .int .i64 0, .int .i64 0, .string ⟨#[]⟩, .string ⟨#[]⟩, .int .i64 0, .int .i64 0] 43)).alloc (.cells #[.int .i64 x.id, .int .i64 x.prio, .slice none 0 0, .int .i64 0, .int .i64 0, .int .i64 0, .int .i64 0, .int .i64 0, .string ⟨#[]⟩, .string ⟨#[]⟩, .int .i64 0, .int .i64 0] 43)).heap.size = w.heap.size + 1 + 1 + 1) := alloc3_facts _ _ _ _
 clear hl hc
 go_enter Tryz.func192, Tryz.ntmps192
 go_wp2_with fail
 generalize ((w.alloc (.cells #[.int .i64 x.id, .int .i64 x.prio, .slice x.progA x.prog.length x.progC, .int .i64 x.state, .int .i64 x.pc, .int .i64 x.left, .int .i64 x.wake, .int .i64 x.on, .string x.held, .string x.got, .int .i64 x.code, .int .i64 x.since] 235)).alloc (.cells #[.int .i64 0, .int .i64 0, .slice none 0 0, .int .i64 0, .int .i64 0, .int .i64 0, .int .i64 0, .int .i64 0, .string ⟨#[]⟩, .string ⟨#[]⟩, .int .i64 0, .int .i64 0] 43)).alloc (.cells #[.int .i64 x.id, .int .i64 x.prio, .slice none 0 0, .int .i64 0, .int .i64 0, .int .i64 0, .int .i64 0, .int .i64 0, .string ⟨#[]⟩, .string ⟨#[]⟩, .int .i64 0, .int .i64 0] 43) = W at *
 refine (toSOp_l x.progA x.prog x.progC W HC.out.2 HC.out.1).mono ?_
 rintro e w1 ⟨rfl, hown, hb1⟩
 have HM : Hid (procN.Mine w1 W.heap.size (procN.set x (some ⟨W.heap.size, 0, none⟩) x.prog.length) ∧ Below w.heap.size w w1) := ⟨Nest.mine_set (N := procN) hown, HB.out.trans (hb1.mono HB.out.size)⟩
 have y0 : w1.heap[w.heap.size]? = some (.cells #[.int .i64 x.id, .int .i64 x.prio, .slice x.progA x.prog.length x.progC, .int .i64 x.state, .int .i64 x.pc, .int .i64 x.left, .int .i64 x.wake, .int .i64 x.on, .string x.held, .string x.got, .int .i64 x.code, .int .i64 x.since] 235 (0, 0)) := (hb1.block _ (by have := HX.out.2.2.2; omega)).trans HX.out.1
 have y1 : w1.heap[w.heap.size + 1]? = some (.cells #[.int .i64 0, .int .i64 0, .slice none 0 0, .int .i64 0, .int .i64 0, .int .i64 0, .int .i64 0, .int .i64 0, .string ⟨#[]⟩, .string ⟨#[]⟩, .int .i64 0, .int .i64 0] 43 (0, 0)) := (hb1.block _ (by have := HX.out.2.2.2; omega)).trans HX.out.2.1
 have y2 : w1.heap[w.heap.size + 1 + 1]? = some (.cells #[.int .i64 x.id, .int .i64 x.prio, .slice none 0 0, .int .i64 0, .int .i64 0, .int .i64 0, .int .i64 0, .int .i64 0, .string ⟨#[]⟩, .string ⟨#[]⟩, .int .i64 0, .int .i64 0] 43 (0, 0)) := (hb1.block _ (by have := HX.out.2.2.2; omega)).trans HX.out.2.2.1
 have t0 : w1.cell? ⟨w.heap.size + 1 + 1, 0, none⟩ = some (.int .i64 x.id) := by simp [World.cell?, y2]
 have u0 : w1.frozen? ⟨w.heap.size + 1 + 1, 0, none⟩ = false := by simp [World.frozen?, y2]
 have t1 : w1.cell? ⟨w.heap.size + 1 + 1, 1, none⟩ = some (.int .i64 x.prio) := by simp [World.cell?, y2]
 have u1 : w1.frozen? ⟨w.heap.size + 1 + 1, 1, none⟩ = false := by simp [World.frozen?, y2]
 have t2 : w1.cell? ⟨w.heap.size + 1 + 1, 2, none⟩ = some (.slice none 0 0) := by simp [World.cell?, y2]
 have u2 : w1.frozen? ⟨w.heap.size + 1 + 1, 2, none⟩ = false := by simp [World.frozen?, y2]
 have s3 : w1.cell? ⟨w.heap.size, 3, none⟩ = some (.int .i64 x.state) := by simp [World.cell?, y0]
 have t3 : w1.cell? ⟨w.heap.size + 1 + 1, 3, none⟩ = some (.int .i64 0) := by simp [World.cell?, y2]
 have u3 : w1.frozen? ⟨w.heap.size + 1 + 1, 3, none⟩ = false := by simp [World.frozen?, y2]
 have s4 : w1.cell? ⟨w.heap.size, 4, none⟩ = some (.int .i64 x.pc) := by simp [World.cell?, y0]
 have t4 : w1.cell? ⟨w.heap.size + 1 + 1, 4, none⟩ = some (.int .i64 0) := by simp [World.cell?, y2]
 have u4 : w1.frozen? ⟨w.heap.size + 1 + 1, 4, none⟩ = false := by simp [World.frozen?, y2]
 have s5 : w1.cell? ⟨w.heap.size, 5, none⟩ = some (.int .i64 x.left) := by simp [World.cell?, y0]
 have t5 : w1.cell? ⟨w.heap.size + 1 + 1, 5, none⟩ = some (.int .i64 0) := by simp [World.cell?, y2]
 have u5 : w1.frozen? ⟨w.heap.size + 1 + 1, 5, none⟩ = false := by simp [World.frozen?, y2]
 have s6 : w1.cell? ⟨w.heap.size, 6, none⟩ = some (.int .i64 x.wake) := by simp [World.cell?, y0]
 have t6 : w1.cell? ⟨w.heap.size + 1 + 1, 6, none⟩ = some (.int .i64 0) := by simp [World.cell?, y2]
 have u6 : w1.frozen? ⟨w.heap.size + 1 + 1, 6, none⟩ = false := by simp [World.frozen?, y2]
 have s7 : w1.cell? ⟨w.heap.size, 7, none⟩ = some (.int .i64 x.on) := by simp [World.cell?, y0]
 have t7 : w1.cell? ⟨w.heap.size + 1 + 1, 7, none⟩ = some (.int .i64 0) := by simp [World.cell?, y2]
 have u7 : w1.frozen? ⟨w.heap.size + 1 + 1, 7, none⟩ = false := by simp [World.frozen?, y2]
 have s8 : w1.cell? ⟨w.heap.size, 8, none⟩ = some (.string x.held) := by simp [World.cell?, y0]
 have t8 : w1.cell? ⟨w.heap.size + 1 + 1, 8, none⟩ = some (.string ⟨#[]⟩) := by simp [World.cell?, y2]
 have u8 : w1.frozen? ⟨w.heap.size + 1 + 1, 8, none⟩ = false := by simp [World.frozen?, y2]
 have s9 : w1.cell? ⟨w.heap.size, 9, none⟩ = some (.string x.got) := by simp [World.cell?, y0]
 have t9 : w1.cell? ⟨w.heap.size + 1 + 1, 9, none⟩ = some (.string ⟨#[]⟩) := by simp [World.cell?, y2]
 have u9 : w1.frozen? ⟨w.heap.size + 1 + 1, 9, none⟩ = false := by simp [World.frozen?, y2]
 have s10 : w1.cell? ⟨w.heap.size, 10, none⟩ = some (.int .i64 x.code) := by simp [World.cell?, y0]
 have t10 : w1.cell? ⟨w.heap.size + 1 + 1, 10, none⟩ = some (.int .i64 0) := by simp [World.cell?, y2]
 have u10 : w1.frozen? ⟨w.heap.size + 1 + 1, 10, none⟩ = false := by simp [World.frozen?, y2]
 have s11 : w1.cell? ⟨w.heap.size, 11, none⟩ = some (.int .i64 x.since) := by simp [World.cell?, y0]
 have t11 : w1.cell? ⟨w.heap.size + 1 + 1, 11, none⟩ = some (.int .i64 0) := by simp [World.cell?, y2]
 have u11 : w1.frozen? ⟨w.heap.size + 1 + 1, 11, none⟩ = false := by simp [World.frozen?, y2]
 have h5 := setAllW_heap (off := 2) [.slice (some ⟨W.heap.size, 0, none⟩) x.prog.length x.prog.length, .int .i64 x.state, .int .i64 x.pc, .int .i64 x.left, .int .i64 x.wake, .int .i64 x.on, .string x.held, .string x.got, .int .i64 x.code, .int .i64 x.since] y2
 have h6 := (setAllW_other (off := 2) [.slice (some ⟨W.heap.size, 0, none⟩) x.prog.length x.prog.length, .int .i64 x.state, .int .i64 x.pc, .int .i64 x.left, .int .i64 x.wake, .int .i64 x.on, .string x.held, .string x.got, .int .i64 x.code, .int .i64 x.since] (w := w1) (g := w.heap.size + 1 + 1) (k := w.heap.size + 1) (by omega)).trans y1
 have h7 : Below w.heap.size w (setAllW w1 (w.heap.size + 1 + 1) 2 [.slice (some ⟨W.heap.size, 0, none⟩) x.prog.length x.prog.length, .int .i64 x.state, .int .i64 x.pc, .int .i64 x.left, .int .i64 x.wake, .int .i64 x.on, .string x.held, .string x.got, .int .i64 x.code, .int .i64 x.since]) := setAllW_below _ (by omega) HM.out.2
 have h8 : procN.Mine (setAllW w1 (w.heap.size + 1 + 1) 2 [.slice (some ⟨W.heap.size, 0, none⟩) x.prog.length x.prog.length, .int .i64 x.state, .int .i64 x.pc, .int .i64 x.left, .int .i64 x.wake, .int .i64 x.on, .string x.held, .string x.got, .int .i64 x.code, .int .i64 x.since]) (w.heap.size + 1) (procN.set x (some ⟨W.heap.size, 0, none⟩) x.prog.length) := (HM.out.1.low (by have := HX.out.2.2.2; omega)).same fun g hg => by
  have := (HM.out.1.lt hg).1
  have := HX.out.2.2.2
  exact setAllW_other _ (by omega)
 simp only [setAllW, Nat.reduceAdd] at h5 h6 h7 h8
 have H5 : Hid (((((((((((w1.setCell ⟨w.heap.size + 1 + 1, 2, none⟩ (.slice (some ⟨W.heap.size, 0, none⟩) x.prog.length x.prog.length)).setCell ⟨w.heap.size + 1 + 1, 3, none⟩ (.int .i64 x.state)).setCell ⟨w.heap.size + 1 + 1, 4, none⟩ (.int .i64 x.pc)).setCell ⟨w.heap.size + 1 + 1, 5, none⟩ (.int .i64 x.left)).setCell ⟨w.heap.size + 1 + 1, 6, none⟩ (.int .i64 x.wake)).setCell ⟨w.heap.size + 1 + 1, 7, none⟩ (.int .i64 x.on)).setCell ⟨w.heap.size + 1 + 1, 8, none⟩ (.string x.held)).setCell ⟨w.heap.size + 1 + 1, 9, none⟩ (.string x.got)).setCell ⟨w.heap.size + 1 + 1, 10, none⟩ (.int .i64 x.code)).setCell ⟨w.heap.size + 1 + 1, 11, none⟩ (.int .i64 x.since)).heap[w.heap.size + 1 + 1]? = some (.cells #[.int .i64 x.id, .int .i64 x.prio, .slice (some ⟨W.heap.size, 0, none⟩) x.prog.length x.prog.length, .int .i64 x.state, .int .i64 x.pc, .int .i64 x.left, .int .i64 x.wake, .int .i64 x.on, .string x.held, .string x.got, .int .i64 x.code, .int .i64 x.since] 43 (0, 0))) := h5.trans (by simp [setAll])
 have H6 : Hid (((((((((((w1.setCell ⟨w.heap.size + 1 + 1, 2, none⟩ (.slice (some ⟨W.heap.size, 0, none⟩) x.prog.length x.prog.length)).setCell ⟨w.heap.size + 1 + 1, 3, none⟩ (.int .i64 x.state)).setCell ⟨w.heap.size + 1 + 1, 4, none⟩ (.int .i64 x.pc)).setCell ⟨w.heap.size + 1 + 1, 5, none⟩ (.int .i64 x.left)).setCell ⟨w.heap.size + 1 + 1, 6, none⟩ (.int .i64 x.wake)).setCell ⟨w.heap.size + 1 + 1, 7, none⟩ (.int .i64 x.on)).setCell ⟨w.heap.size + 1 + 1, 8, none⟩ (.string x.held)).setCell ⟨w.heap.size + 1 + 1, 9, none⟩ (.string x.got)).setCell ⟨w.heap.size + 1 + 1, 10, none⟩ (.int .i64 x.code)).setCell ⟨w.heap.size + 1 + 1, 11, none⟩ (.int .i64 x.since)).heap[w.heap.size + 1]? = some (.cells #[.int .i64 0, .int .i64 0, .slice none 0 0, .int .i64 0, .int .i64 0, .int .i64 0, .int .i64 0, .int .i64 0, .string ⟨#[]⟩, .string ⟨#[]⟩, .int .i64 0, .int .i64 0] 43 (0, 0))) := h6
 have H7 : Hid (Below w.heap.size w ((((((((((w1.setCell ⟨w.heap.size + 1 + 1, 2, none⟩ (.slice (some ⟨W.heap.size, 0, none⟩) x.prog.length x.prog.length)).setCell ⟨w.heap.size + 1 + 1, 3, none⟩ (.int .i64 x.state)).setCell ⟨w.heap.size + 1 + 1, 4, none⟩ (.int .i64 x.pc)).setCell ⟨w.heap.size + 1 + 1, 5, none⟩ (.int .i64 x.left)).setCell ⟨w.heap.size + 1 + 1, 6, none⟩ (.int .i64 x.wake)).setCell ⟨w.heap.size + 1 + 1, 7, none⟩ (.int .i64 x.on)).setCell ⟨w.heap.size + 1 + 1, 8, none⟩ (.string x.held)).setCell ⟨w.heap.size + 1 + 1, 9, none⟩ (.string x.got)).setCell ⟨w.heap.size + 1 + 1, 10, none⟩ (.int .i64 x.code)).setCell ⟨w.heap.size + 1 + 1, 11, none⟩ (.int .i64 x.since)) ∧ procN.Mine ((((((((((w1.setCell ⟨w.heap.size + 1 + 1, 2, none⟩ (.slice (some ⟨W.heap.size, 0, none⟩) x.prog.length x.prog.length)).setCell ⟨w.heap.size + 1 + 1, 3, none⟩ (.int .i64 x.state)).setCell ⟨w.heap.size + 1 + 1, 4, none⟩ (.int .i64 x.pc)).setCell ⟨w.heap.size + 1 + 1, 5, none⟩ (.int .i64 x.left)).setCell ⟨w.heap.size + 1 + 1, 6, none⟩ (.int .i64 x.wake)).setCell ⟨w.heap.size + 1 + 1, 7, none⟩ (.int .i64 x.on)).setCell ⟨w.heap.size + 1 + 1, 8, none⟩ (.string x.held)).setCell ⟨w.heap.size + 1 + 1, 9, none⟩ (.string x.got)).setCell ⟨w.heap.size + 1 + 1, 10, none⟩ (.int .i64 x.code)).setCell ⟨w.heap.size + 1 + 1, 11, none⟩ (.int .i64 x.since)) (w.heap.size + 1) (procN.set x (some ⟨W.heap.size, 0, none⟩) x.prog.length)) := ⟨h7, h8⟩
 clear y0 y1 y2 hb1 hown h5 h6 h7 h8
 dsimp only
 repeat (first | (go_big_may; refine wpList_store_mid rfl 43 (Operand.tmp 2) (Operand.tmp 41) rfl (w.heap.size + 1) 0 #[.int .i64 x.id, .int .i64 x.prio, .slice (some ⟨W.heap.size, 0, none⟩) x.prog.length x.prog.length, .int .i64 x.state, .int .i64 x.pc, .int .i64 x.left, .int .i64 x.wake, .int .i64 x.on, .string x.held, .string x.got, .int .i64 x.code, .int .i64 x.since] rfl rfl ?ht ?hi ?h1 ?_) | go_values | go_skip | go_guarded | go_step | go_upon | go_back)
 case ht => exact there_of H6.out (Nat.le_refl _)
 case hi => (show _ = some 12; kernel_rfl)
 case h1 => simp [Value.oneCell']
 generalize ((((((((((w1.setCell ⟨w.heap.size + 1 + 1, 2, none⟩ (.slice (some ⟨W.heap.size, 0, none⟩) x.prog.length x.prog.length)).setCell ⟨w.heap.size + 1 + 1, 3, none⟩ (.int .i64 x.state)).setCell ⟨w.heap.size + 1 + 1, 4, none⟩ (.int .i64 x.pc)).setCell ⟨w.heap.size + 1 + 1, 5, none⟩ (.int .i64 x.left)).setCell ⟨w.heap.size + 1 + 1, 6, none⟩ (.int .i64 x.wake)).setCell ⟨w.heap.size + 1 + 1, 7, none⟩ (.int .i64 x.on)).setCell ⟨w.heap.size + 1 + 1, 8, none⟩ (.string x.held)).setCell ⟨w.heap.size + 1 + 1, 9, none⟩ (.string x.got)).setCell ⟨w.heap.size + 1 + 1, 10, none⟩ (.int .i64 x.code)).setCell ⟨w.heap.size + 1 + 1, 11, none⟩ (.int .i64 x.since)) = WZ at *
 repeat (first | go_values | go_skip | go_guarded | go_step | go_upon)
 have h9 : (WZ.setCells (w.heap.size + 1) 0 [.int .i64 x.id, .int .i64 x.prio, .slice (some ⟨W.heap.size, 0, none⟩) x.prog.length x.prog.length, .int .i64 x.state, .int .i64 x.pc, .int .i64 x.left, .int .i64 x.wake, .int .i64 x.on, .string x.held, .string x.got, .int .i64 x.code, .int .i64 x.since]).heap[w.heap.size + 1]? = some (.cells #[.int .i64 x.id, .int .i64 x.prio, .slice (some ⟨W.heap.size, 0, none⟩) x.prog.length x.prog.length, .int .i64 x.state, .int .i64 x.pc, .int .i64 x.left, .int .i64 x.wake, .int .i64 x.on, .string x.held, .string x.got, .int .i64 x.code, .int .i64 x.since] 43 (0, 0)) := by rw [setCells_is]; exact setAllW_full H6.out rfl
 refine bodyPost_ret (v := .agg #[.int .i64 x.id, .int .i64 x.prio, .slice (some ⟨W.heap.size, 0, none⟩) x.prog.length x.prog.length, .int .i64 x.state, .int .i64 x.pc, .int .i64 x.left, .int .i64 x.wake, .int .i64 x.on, .string x.held, .string x.got, .int .i64 x.code, .int .i64 x.since]) (results_cell_row Tryz.results192 _ _ (w.heap.size + 1) _ _ (0, 0) _ rfl h9 Tryz.underlying43 rfl (by kernel_rfl)) rfl ?_
 refine ⟨some ⟨W.heap.size, 0, none⟩, x.prog.length, rfl, ?_, ?_⟩
 ·rw [setCells_is]
  exact H7.out.2.same fun g hg => setAllW_other _ (by have := (HM.out.1.lt hg).1; have := HX.out.2.2.2; omega)
 ·rw [setCells_is]
  exact setAllW_below _ (by omega) H7.out.1
theorem infoProc : (Tryz.prog.info? 43).map (fun i => (i.zero, i.size, decide (i.bytes ≤ 1000))) = some (some (.agg #[.int .i64 0, .int .i64 0, .slice none 0 0, .int .i64 0, .int .i64 0, .int .i64 0, .int .i64 0, .int .i64 0, .string ⟨#[]⟩, .string ⟨#[]⟩, .int .i64 0, .int .i64 0]), 12, true) := by kernel_rfl
theorem makeProc (n : Nat) (hn : n ≤ 1048576) (w : World) :
  (Instr.makeSlice 25 (.int .i64 (n : Int)) (.int .i64 (n : Int))).run Tryz.prog w = .ok (.slice (some ⟨w.heap.size, 0, none⟩) n n) (w.alloc (.cells (madeCells #[.int .i64 0, .int .i64 0, .slice none 0 0, .int .i64 0, .int .i64 0, .int .i64 0, .int .i64 0, .int .i64 0, .string ⟨#[]⟩, .string ⟨#[]⟩, .int .i64 0, .int .i64 0] (n * 12)) 43)) := by
 obtain ⟨i, hi, e⟩ := Option.map_eq_some_iff.1 infoProc
 simp only [Prod.mk.injEq, decide_eq_true_eq] at e
 obtain ⟨e1, e2, e3⟩ := e
 have hby : n * i.bytes ≤ 1048576 * 1000 := Nat.mul_le_mul hn e3
 have := run_make (P := Tryz.prog) w 25 43 i _ Tryz.underlying25 hi e1 .i64 .i64 n n (by omega) (by omega) (by rw [Nat.mul_comm] at hby; first | omega | (rw [Nat.mul_comm]; omega)) (by omega)
 rw [this, e2]
 simp [Value.cells]
set_option maxRecDepth 100000 in
set_option maxHeartbeats 4000000 in
theorem toSProc_l (a : Option Addr) (l : List ProcD) (cap : Nat) (w : World) (hl : l.length ≤ 1048576) (hk : ∀ x ∈ l, x.prog.length ≤ 1048576) (hc : procK.Came w a l) :
  Calls Tryz.prog 113 #[.slice a l.length cap] w fun e w' => e = .returned (.slice (some ⟨w.heap.size, 0, none⟩) l.length l.length) ∧ ∃ out, CopyIs procN procK w w' l.length l out := by
 have hmk := makeProc l.length hl
 have HC : Hid (procK.Came w a l) := hc
 have HKL : Hid (∀ x ∈ l, x.prog.length ≤ 1048576) := hk
 clear hk
 have HF : Hid (Fill procK 43 w (w.alloc (.cells (madeCells #[.int .i64 0, .int .i64 0, .slice none 0 0, .int .i64 0, .int .i64 0, .int .i64 0, .int .i64 0, .int .i64 0, .string ⟨#[]⟩, .string ⟨#[]⟩, .int .i64 0, .int .i64 0] (l.length * 12)) 43)) l.length []) := Fill.start (by rw [size_madeCells]; rfl)
 clear hc
 go_enter Tryz.func113, Tryz.ntmps113
 go_wp2_with fail
 go_loopw [4] (fun i wr => ∃ k : Nat, k ≤ l.length ∧ i = .int .i64 k ∧ ∃ out, Hid (FillN procN procK w wr l out k)) (fun i _ => l.length - (intOf i).toNat)
 case atStart => exact ⟨0, Nat.zero_le _, rfl, [], FillN.start HF.out⟩
 case round =>
  clear hmk HF
  obtain ⟨k, hk, rfl, out, HR⟩ := hrel
  by_cases hlt : k < l.length
  ·have i0 : (0 : Int) ≤ (k : Int) := by omega
   have i1 : (k : Int) < (l.length : Int) := by omega
   obtain ⟨x, hx⟩ : ∃ x, l[k]? = some x := ⟨_, List.getElem?_eq_getElem hlt⟩
   obtain ⟨b, off, rfl, hat⟩ := (HC.out.below HR.out.fill.bel).at hx
   have c0 : wr.cell? ⟨b, off + k * 12, none⟩ = some (.int .i64 x.id) := hat 0 _ rfl
   have c1 : wr.cell? ⟨b, off + k * 12 + 1, none⟩ = some (.int .i64 x.prio) := hat 1 _ rfl
   have c2 : wr.cell? ⟨b, off + k * 12 + 2, none⟩ = some (.slice x.progA x.prog.length x.progC) := hat 2 _ rfl
   have c3 : wr.cell? ⟨b, off + k * 12 + 3, none⟩ = some (.int .i64 x.state) := hat 3 _ rfl
   have c4 : wr.cell? ⟨b, off + k * 12 + 4, none⟩ = some (.int .i64 x.pc) := hat 4 _ rfl
   have c5 : wr.cell? ⟨b, off + k * 12 + 5, none⟩ = some (.int .i64 x.left) := hat 5 _ rfl
   have c6 : wr.cell? ⟨b, off + k * 12 + 6, none⟩ = some (.int .i64 x.wake) := hat 6 _ rfl
   have c7 : wr.cell? ⟨b, off + k * 12 + 7, none⟩ = some (.int .i64 x.on) := hat 7 _ rfl
   have c8 : wr.cell? ⟨b, off + k * 12 + 8, none⟩ = some (.string x.held) := hat 8 _ rfl
   have c9 : wr.cell? ⟨b, off + k * 12 + 9, none⟩ = some (.string x.got) := hat 9 _ rfl
   have c10 : wr.cell? ⟨b, off + k * 12 + 10, none⟩ = some (.int .i64 x.code) := hat 10 _ rfl
   have c11 : wr.cell? ⟨b, off + k * 12 + 11, none⟩ = some (.int .i64 x.since) := hat 11 _ rfl
   have HX : Hid (l[k]? = some x) := hx
   have HK : Hid (opK.Came wr x.progA x.prog ∧ x.prog.length ≤ 1048576) := ⟨⟨((HC.out.below HR.out.fill.bel).kid hx (r := (x.progA, opK.flat x.prog)) (by simp [procK])), fun y _ r hr => by simp [opK] at hr⟩, HKL.out x (List.mem_of_getElem? hx)⟩
   have hfl := HR.out.fill.lt
   clear hx hat
   go_wp2_with fail
   refine (toProc_l x wr HK.out.2 HK.out.1).mono ?_
   rintro e w1 ⟨a1, cp1, rfl, hmine, hb1⟩
   have HR1 : Hid (FillN procN procK w w1 l out k) := HR.out.below hb1
   have HB1 : Hid (wr.heap.size ≤ w1.heap.size) := hb1.size
   obtain ⟨⟨u, hu⟩, hf⟩ := HR1.out.fill.at
   have d0 := hu (k * 12) (by show k * 12 < l.length * 12; omega)
   have f0 := hf (k * 12)
   have d1 := hu (k * 12 + 1) (by show k * 12 + 1 < l.length * 12; omega)
   have f1 := hf (k * 12 + 1)
   have d2 := hu (k * 12 + 2) (by show k * 12 + 2 < l.length * 12; omega)
   have f2 := hf (k * 12 + 2)
   have d3 := hu (k * 12 + 3) (by show k * 12 + 3 < l.length * 12; omega)
   have f3 := hf (k * 12 + 3)
   have d4 := hu (k * 12 + 4) (by show k * 12 + 4 < l.length * 12; omega)
   have f4 := hf (k * 12 + 4)
   have d5 := hu (k * 12 + 5) (by show k * 12 + 5 < l.length * 12; omega)
   have f5 := hf (k * 12 + 5)
   have d6 := hu (k * 12 + 6) (by show k * 12 + 6 < l.length * 12; omega)
   have f6 := hf (k * 12 + 6)
   have d7 := hu (k * 12 + 7) (by show k * 12 + 7 < l.length * 12; omega)
   have f7 := hf (k * 12 + 7)
   have d8 := hu (k * 12 + 8) (by show k * 12 + 8 < l.length * 12; omega)
   have f8 := hf (k * 12 + 8)
   have d9 := hu (k * 12 + 9) (by show k * 12 + 9 < l.length * 12; omega)
   have f9 := hf (k * 12 + 9)
   have d10 := hu (k * 12 + 10) (by show k * 12 + 10 < l.length * 12; omega)
   have f10 := hf (k * 12 + 10)
   have d11 := hu (k * 12 + 11) (by show k * 12 + 11 < l.length * 12; omega)
   have f11 := hf (k * 12 + 11)
   have h5 := HR1.out.more hlt HX.out (hmine.low (by have := hfl; omega)) (fun g hg => by have := (hmine.lt hg).1; omega) HR.out
   rw [show procK.vals (procN.set x a1 cp1) = [.int .i64 x.id, .int .i64 x.prio, .slice a1 x.prog.length cp1, .int .i64 x.state, .int .i64 x.pc, .int .i64 x.left, .int .i64 x.wake, .int .i64 x.on, .string x.held, .string x.got, .int .i64 x.code, .int .i64 x.since] from rfl, show procK.n = 12 from rfl] at h5
   simp only [setAllW, Nat.add_assoc, Nat.reduceAdd] at h5
   have HS : Hid (FillN procN procK w ((((((((((((w1.setCell ⟨w.heap.size, k * 12, none⟩ (.int .i64 x.id)).setCell ⟨w.heap.size, k * 12 + 1, none⟩ (.int .i64 x.prio)).setCell ⟨w.heap.size, k * 12 + 2, none⟩ (.slice a1 x.prog.length cp1)).setCell ⟨w.heap.size, k * 12 + 3, none⟩ (.int .i64 x.state)).setCell ⟨w.heap.size, k * 12 + 4, none⟩ (.int .i64 x.pc)).setCell ⟨w.heap.size, k * 12 + 5, none⟩ (.int .i64 x.left)).setCell ⟨w.heap.size, k * 12 + 6, none⟩ (.int .i64 x.wake)).setCell ⟨w.heap.size, k * 12 + 7, none⟩ (.int .i64 x.on)).setCell ⟨w.heap.size, k * 12 + 8, none⟩ (.string x.held)).setCell ⟨w.heap.size, k * 12 + 9, none⟩ (.string x.got)).setCell ⟨w.heap.size, k * 12 + 10, none⟩ (.int .i64 x.code)).setCell ⟨w.heap.size, k * 12 + 11, none⟩ (.int .i64 x.since)) l (out ++ [procN.set x a1 cp1]) (k + 1)) := h5
   clear h5
   unfold procVs
   clear hu hf hb1 HR HR1 hmine c0 c1 c2 c3 c4 c5 c6 c7 c8 c9 c10 c11
   go_wp2
   go_roundw
   case rel => exact ⟨k + 1, by omega, by go_num, _, HS.out⟩
   case measure => simp [intOf]; omega
  ·have i1 : ¬ (k : Int) < (l.length : Int) := by omega
   have ek : k = l.length := by omega
   subst ek
   go_wp2
   go_ret
   exact ⟨rfl, out, HR.out.done (by unfold maxLen; omega)⟩
set_option maxRecDepth 100000 in
set_option maxHeartbeats 4000000 in
theorem eqProc_l (x y : ProcD) (w : World) (hp : y.toProcP = x.toProcP) (hl : x.prog.length ≤ 1048576) (hx : Row w x.progA (opK.flat x.prog)) (hy : Row w y.progA (opK.flat y.prog)) :
  Calls Tryz.prog 73 #[.agg #[.int .i64 x.id, .int .i64 x.prio, .slice x.progA x.prog.length x.progC, .int .i64 x.state, .int .i64 x.pc, .int .i64 x.left, .int .i64 x.wake, .int .i64 x.on, .string x.held, .string x.got, .int .i64 x.code, .int .i64 x.since], .agg #[.int .i64 y.id, .int .i64 y.prio, .slice y.progA y.prog.length y.progC, .int .i64 y.state, .int .i64 y.pc, .int .i64 y.left, .int .i64 y.wake, .int .i64 y.on, .string y.held, .string y.got, .int .i64 y.code, .int .i64 y.since]] w fun e w' => e = .returned (.bool true) ∧ Below w.heap.size w w' := by
 obtain ⟨p, xa, xc⟩ := x
 obtain ⟨p', ya, yc⟩ := y
 simp only at hp
 subst hp
 obtain ⟨v0, v1, v2, v3, v4, v5, v6, v7, v8, v9, v10, v11⟩ := p'
 simp only at hl hx hy
 have HB : Hid (Below w.heap.size w ((w.alloc (.cells #[.int .i64 v0, .int .i64 v1, .slice xa v2.length xc, .int .i64 v3, .int .i64 v4, .int .i64 v5, .int .i64 v6, .int .i64 v7, .string v8, .string v9, .int .i64 v10, .int .i64 v11] 43)).alloc (.cells #[.int .i64 v0, .int .i64 v1, .slice ya v2.length yc, .int .i64 v3, .int .i64 v4, .int .i64 v5, .int .i64 v6, .int .i64 v7, .string v8, .string v9, .int .i64 v10, .int .i64 v11] 43))) := alloc2_below _ _ _
 have HR : Hid (Row ((w.alloc (.cells #[.int .i64 v0, .int .i64 v1, .slice xa v2.length xc, .int .i64 v3, .int .i64 v4, .int .i64 v5, .int .i64 v6, .int .i64 v7, .string v8, .string v9, .int .i64 v10, .int .i64 v11] 43)).alloc (.cells #[.int .i64 v0, .int .i64 v1, .slice ya v2.length yc, .int .i64 v3, .int .i64 v4, .int .i64 v5, .int .i64 v6, .int .i64 v7, .string v8, .string v9, .int .i64 v10, .int .i64 v11] 43)) xa (opK.flat v2) ∧ Row ((w.alloc (.cells #[.int .i64 v0, .int .i64 v1, .slice xa v2.length xc, .int .i64 v3, .int .i64 v4, .int .i64 v5, .int .i64 v6, .int .i64 v7, .string v8, .string v9, .int .i64 v10, .int .i64 v11] 43)).alloc (.cells #[.int .i64 v0, .int .i64 v1, .slice ya v2.length yc, .int .i64 v3, .int .i64 v4, .int .i64 v5, .int .i64 v6, .int .i64 v7, .string v8, .string v9, .int .i64 v10, .int .i64 v11] 43)) ya (opK.flat v2) ∧ v2.length ≤ 1048576) := ⟨hx.below HB.out, hy.below HB.out, hl⟩
 have HX : Hid (((w.alloc (.cells #[.int .i64 v0, .int .i64 v1, .slice xa v2.length xc, .int .i64 v3, .int .i64 v4, .int .i64 v5, .int .i64 v6, .int .i64 v7, .string v8, .string v9, .int .i64 v10, .int .i64 v11] 43)).alloc (.cells #[.int .i64 v0, .int .i64 v1, .slice ya v2.length yc, .int .i64 v3, .int .i64 v4, .int .i64 v5, .int .i64 v6, .int .i64 v7, .string v8, .string v9, .int .i64 v10, .int .i64 v11] 43)).heap[w.heap.size]? = some (.cells #[.int .i64 v0, .int .i64 v1, .slice xa v2.length xc, .int .i64 v3, .int .i64 v4, .int .i64 v5, .int .i64 v6, .int .i64 v7, .string v8, .string v9, .int .i64 v10, .int .i64 v11] 43 (0, 0)) ∧ ((w.alloc (.cells #[.int .i64 v0, .int .i64 v1, .slice xa v2.length xc, .int .i64 v3, .int .i64 v4, .int .i64 v5, .int .i64 v6, .int .i64 v7, .string v8, .string v9, .int .i64 v10, .int .i64 v11] 43)).alloc (.cells #[.int .i64 v0, .int .i64 v1, .slice ya v2.length yc, .int .i64 v3, .int .i64 v4, .int .i64 v5, .int .i64 v6, .int .i64 v7, .string v8, .string v9, .int .i64 v10, .int .i64 v11] 43)).heap[w.heap.size + 1]? = some (.cells #[.int .i64 v0, .int .i64 v1, .slice ya v2.length yc, .int .i64 v3, .int .i64 v4, .int .i64 v5, .int .i64 v6, .int .i64 v7, .string v8, .string v9, .int .i64 v10, .int .i64 v11] 43 (0, 0))) := alloc2_facts _ _ _
 clear hx hy hl
 go_enter Tryz.func73, Tryz.ntmps73
 go_wp2_with fail
 generalize (w.alloc (.cells #[.int .i64 v0, .int .i64 v1, .slice xa v2.length xc, .int .i64 v3, .int .i64 v4, .int .i64 v5, .int .i64 v6, .int .i64 v7, .string v8, .string v9, .int .i64 v10, .int .i64 v11] 43)).alloc (.cells #[.int .i64 v0, .int .i64 v1, .slice ya v2.length yc, .int .i64 v3, .int .i64 v4, .int .i64 v5, .int .i64 v6, .int .i64 v7, .string v8, .string v9, .int .i64 v10, .int .i64 v11] 43) = W at *
 refine (eqSOp_l xa ya v2 xc yc W HR.out.2.2 ⟨HR.out.1, fun _ _ r hr => by simp [opK] at hr⟩ ⟨HR.out.2.1, fun _ _ r hr => by simp [opK] at hr⟩).mono ?_
 rintro e w1 ⟨rfl, hb1⟩
 have HB1 : Hid (Below w.heap.size w w1) := HB.out.trans (hb1.mono HB.out.size)
 have x0 := (hb1.block _ (Array.getElem?_eq_some_iff.1 HX.out.1).1).trans HX.out.1
 have x1 := (hb1.block _ (Array.getElem?_eq_some_iff.1 HX.out.2).1).trans HX.out.2
 have a3 : w1.cell? ⟨w.heap.size, 3, none⟩ = some (.int .i64 v3) := by simp [World.cell?, x0]
 have b3 : w1.cell? ⟨w.heap.size + 1, 3, none⟩ = some (.int .i64 v3) := by simp [World.cell?, x1]
 have a4 : w1.cell? ⟨w.heap.size, 4, none⟩ = some (.int .i64 v4) := by simp [World.cell?, x0]
 have b4 : w1.cell? ⟨w.heap.size + 1, 4, none⟩ = some (.int .i64 v4) := by simp [World.cell?, x1]
 have a5 : w1.cell? ⟨w.heap.size, 5, none⟩ = some (.int .i64 v5) := by simp [World.cell?, x0]
 have b5 : w1.cell? ⟨w.heap.size + 1, 5, none⟩ = some (.int .i64 v5) := by simp [World.cell?, x1]
 have a6 : w1.cell? ⟨w.heap.size, 6, none⟩ = some (.int .i64 v6) := by simp [World.cell?, x0]
 have b6 : w1.cell? ⟨w.heap.size + 1, 6, none⟩ = some (.int .i64 v6) := by simp [World.cell?, x1]
 have a7 : w1.cell? ⟨w.heap.size, 7, none⟩ = some (.int .i64 v7) := by simp [World.cell?, x0]
 have b7 : w1.cell? ⟨w.heap.size + 1, 7, none⟩ = some (.int .i64 v7) := by simp [World.cell?, x1]
 have a8 : w1.cell? ⟨w.heap.size, 8, none⟩ = some (.string v8) := by simp [World.cell?, x0]
 have b8 : w1.cell? ⟨w.heap.size + 1, 8, none⟩ = some (.string v8) := by simp [World.cell?, x1]
 have a9 : w1.cell? ⟨w.heap.size, 9, none⟩ = some (.string v9) := by simp [World.cell?, x0]
 have b9 : w1.cell? ⟨w.heap.size + 1, 9, none⟩ = some (.string v9) := by simp [World.cell?, x1]
 have a10 : w1.cell? ⟨w.heap.size, 10, none⟩ = some (.int .i64 v10) := by simp [World.cell?, x0]
 have b10 : w1.cell? ⟨w.heap.size + 1, 10, none⟩ = some (.int .i64 v10) := by simp [World.cell?, x1]
 have a11 : w1.cell? ⟨w.heap.size, 11, none⟩ = some (.int .i64 v11) := by simp [World.cell?, x0]
 have b11 : w1.cell? ⟨w.heap.size + 1, 11, none⟩ = some (.int .i64 v11) := by simp [World.cell?, x1]
 clear hb1 HX HR x0 x1
 go_wp2
 go_ret
 exact ⟨rfl, HB1.out⟩
def EqSProc (w : World) (a a' : Option Addr) (l l' : List ProcD) (x y : ProcD) (g g' k : Nat) (w' : World) : Prop := ((w'.cell? ⟨g, k * 12, none⟩ = some (.int .i64 x.id) ∧ w'.cell? ⟨g, k * 12 + 1, none⟩ = some (.int .i64 x.prio) ∧ w'.cell? ⟨g, k * 12 + 2, none⟩ = some (.slice x.progA x.prog.length x.progC) ∧ w'.cell? ⟨g, k * 12 + 3, none⟩ = some (.int .i64 x.state) ∧ w'.cell? ⟨g, k * 12 + 4, none⟩ = some (.int .i64 x.pc) ∧ w'.cell? ⟨g, k * 12 + 5, none⟩ = some (.int .i64 x.left) ∧ w'.cell? ⟨g, k * 12 + 6, none⟩ = some (.int .i64 x.wake) ∧ w'.cell? ⟨g, k * 12 + 7, none⟩ = some (.int .i64 x.on) ∧ w'.cell? ⟨g, k * 12 + 8, none⟩ = some (.string x.held) ∧ w'.cell? ⟨g, k * 12 + 9, none⟩ = some (.string x.got) ∧ w'.cell? ⟨g, k * 12 + 10, none⟩ = some (.int .i64 x.code) ∧ w'.cell? ⟨g, k * 12 + 11, none⟩ = some (.int .i64 x.since)) ∧ (w'.cell? ⟨g', k * 12, none⟩ = some (.int .i64 y.id) ∧ w'.cell? ⟨g', k * 12 + 1, none⟩ = some (.int .i64 y.prio) ∧ w'.cell? ⟨g', k * 12 + 2, none⟩ = some (.slice y.progA y.prog.length y.progC) ∧ w'.cell? ⟨g', k * 12 + 3, none⟩ = some (.int .i64 y.state) ∧ w'.cell? ⟨g', k * 12 + 4, none⟩ = some (.int .i64 y.pc) ∧ w'.cell? ⟨g', k * 12 + 5, none⟩ = some (.int .i64 y.left) ∧ w'.cell? ⟨g', k * 12 + 6, none⟩ = some (.int .i64 y.wake) ∧ w'.cell? ⟨g', k * 12 + 7, none⟩ = some (.int .i64 y.on) ∧ w'.cell? ⟨g', k * 12 + 8, none⟩ = some (.string y.held) ∧ w'.cell? ⟨g', k * 12 + 9, none⟩ = some (.string y.got) ∧ w'.cell? ⟨g', k * 12 + 10, none⟩ = some (.int .i64 y.code) ∧ w'.cell? ⟨g', k * 12 + 11, none⟩ = some (.int .i64 y.since))) ∧ Hid (procK.Lies w' a l ∧ procK.Lies w' a' l' ∧ Below w.heap.size w w')
theorem eqSProc_of {w w' : World} {a a' : Option Addr} {l l' : List ProcD} {x y : ProcD} {g g' k : Nat} (ha : a = some ⟨g, 0, none⟩) (ha' : a' = some ⟨g', 0, none⟩) (hx : l[k]? = some x) (hy : l'[k]? = some y) (h : procK.Lies w' a l ∧ procK.Lies w' a' l' ∧ Below w.heap.size w w') : EqSProc w a a' l l' x y g g' k w' := by
 obtain ⟨g1, e1, h1⟩ := h.1.at hx
 obtain ⟨g2, e2, h2⟩ := h.2.1.at hy
 rw [ha] at e1
 rw [ha'] at e2
 cases e1
 cases e2
 exact ⟨⟨⟨h1 0 _ rfl, h1 1 _ rfl, h1 2 _ rfl, h1 3 _ rfl, h1 4 _ rfl, h1 5 _ rfl, h1 6 _ rfl, h1 7 _ rfl, h1 8 _ rfl, h1 9 _ rfl, h1 10 _ rfl, h1 11 _ rfl⟩, ⟨h2 0 _ rfl, h2 1 _ rfl, h2 2 _ rfl, h2 3 _ rfl, h2 4 _ rfl, h2 5 _ rfl, h2 6 _ rfl, h2 7 _ rfl, h2 8 _ rfl, h2 9 _ rfl, h2 10 _ rfl, h2 11 _ rfl⟩⟩, h⟩
set_option maxRecDepth 100000 in
set_option maxHeartbeats 4000000 in
theorem eqSProc_l (a a' : Option Addr) (l l' : List ProcD) (cap cap' : Nat) (w : World) (hl : l.length ≤ 1048576) (hk : ∀ x ∈ l, x.prog.length ≤ 1048576) (hp : l'.map (·.toProcP) = l.map (·.toProcP)) (h : procK.Lies w a l) (h' : procK.Lies w a' l') :
  Calls Tryz.prog 119 #[.slice a l.length cap, .slice a' l.length cap'] w fun e w' => e = .returned (.bool true) ∧ Below w.heap.size w w' := by
 have HL : Hid (procK.Lies w a l ∧ procK.Lies w a' l' ∧ (∀ x ∈ l, x.prog.length ≤ 1048576) ∧ l'.map (·.toProcP) = l.map (·.toProcP)) := ⟨h, h', hk, hp⟩
 clear h h' hk hp
 go_enter Tryz.func119, Tryz.ntmps119
 go_wp2_with fail
 go_loopw [5] (fun i wr => ∃ k : Nat, k ≤ l.length ∧ i = .int .i64 k ∧ Hid (Below w.heap.size w wr)) (fun i _ => l.length - (intOf i).toNat)
 case atStart => exact ⟨0, Nat.zero_le _, rfl, Below.refl _ _⟩
 case round =>
  obtain ⟨k, hk, rfl, HB⟩ := hrel
  by_cases hlt : k < l.length
  ·have i0 : (0 : Int) ≤ (k : Int) := by omega
   have i1 : (k : Int) < (l.length : Int) := by omega
   obtain ⟨x, hx⟩ : ∃ x, l[k]? = some x := ⟨_, List.getElem?_eq_getElem hlt⟩
   obtain ⟨g, ha, -⟩ := HL.out.1.at hx
   obtain ⟨y, hy, hpy⟩ := map_same HL.out.2.2.2 hx
   obtain ⟨g', ha', -⟩ := HL.out.2.1.at hy
   have HX : Hid (a = some ⟨g, 0, none⟩ ∧ a' = some ⟨g', 0, none⟩ ∧ l[k]? = some x ∧ l'[k]? = some y ∧ y.toProcP = x.toProcP ∧ x.prog.length ≤ 1048576) := ⟨ha, ha', hx, hy, hpy, HL.out.2.2.1 x (List.mem_of_getElem? hx)⟩
   have HS : Hid (EqSProc w a a' l l' x y g g' k wr) := eqSProc_of ha ha' hx hy ⟨HL.out.1.below HB.out, HL.out.2.1.below HB.out, HB.out⟩
   clear hx hy hpy
   rw [ha, ha']
   clear ha ha'
   go_wp2_with fail
   refine tame_region (EqSProc w a a' l l' x y g g' k) (by kernel_rfl) (eqSProc_of HX.out.1 HX.out.2.1 HX.out.2.2.1 HX.out.2.2.2.1 ⟨HS.out.2.out.1.below (Below.refl _ _).drew, HS.out.2.out.2.1.below (Below.refl _ _).drew, HS.out.2.out.2.2.drew⟩) ?_
   iterate 8 (refine yl (v := ?_) ?_ ?_; rotate_left; (intro w0 hS0; obtain ⟨⟨⟨q0, q1, q2, q3, q4, q5, q6, q7, q8, q9, q10, q11⟩, ⟨r0, r1, r2, r3, r4, r5, r6, r7, r8, r9, r10, r11⟩⟩, hH⟩ := hS0; go_simp; try with_reducible rfl); simp only [pt, sb, s0, s1])
   refine cl (.bool true) 73 #[.agg #[.int .i64 x.id, .int .i64 x.prio, .slice x.progA x.prog.length x.progC, .int .i64 x.state, .int .i64 x.pc, .int .i64 x.left, .int .i64 x.wake, .int .i64 x.on, .string x.held, .string x.got, .int .i64 x.code, .int .i64 x.since], .agg #[.int .i64 y.id, .int .i64 y.prio, .slice y.progA y.prog.length y.progC, .int .i64 y.state, .int .i64 y.pc, .int .i64 y.left, .int .i64 y.wake, .int .i64 y.on, .string y.held, .string y.got, .int .i64 y.code, .int .i64 y.since]] ?_ ?_ ?_
   ·intro w0 hS0
    obtain ⟨⟨⟨q0, q1, q2, q3, q4, q5, q6, q7, q8, q9, q10, q11⟩, ⟨r0, r1, r2, r3, r4, r5, r6, r7, r8, r9, r10, r11⟩⟩, hH⟩ := hS0
    go_simp
    try with_reducible rfl
   ·intro w0 hS0
    refine (eqProc_l x y w0 HX.out.2.2.2.2.1 HX.out.2.2.2.2.2 (hS0.2.out.1.kid HX.out.2.2.1 (r := (x.progA, opK.flat x.prog)) (by simp [procK])) (hS0.2.out.2.1.kid HX.out.2.2.2.1 (r := (y.progA, opK.flat y.prog)) (by simp [procK]))).mono ?_
    rintro e w2 ⟨rfl, hb2⟩
    exact ⟨rfl, eqSProc_of HX.out.1 HX.out.2.1 HX.out.2.2.1 HX.out.2.2.2.1 ⟨hS0.2.out.1.below hb2, hS0.2.out.2.1.below hb2, hS0.2.out.2.2.trans (hb2.mono hS0.2.out.2.2.size)⟩⟩
   simp only [pt, sb, s0, s1]
   (refine yl (v := ?_) ?_ ?_; rotate_left; (intro w0 hS0; obtain ⟨⟨⟨q0, q1, q2, q3, q4, q5, q6, q7, q8, q9, q10, q11⟩, ⟨r0, r1, r2, r3, r4, r5, r6, r7, r8, r9, r10, r11⟩⟩, hH⟩ := hS0; go_simp; try with_reducible rfl); simp only [pt, sb, s0, s1])
   refine tame_done (by kernel_rfl) ?_ _
   intro w1 hS1
   have HZ : Hid (Below w.heap.size w w1) := hS1.2.out.2.2
   clear hS1
   go_wp2
   go_roundw
   case rel => exact ⟨k + 1, by omega, by go_num, HZ.out⟩
   case measure => simp [intOf]; omega
  ·have i1 : ¬ (k : Int) < (l.length : Int) := by omega
   go_wp2
   go_ret
   exact ⟨rfl, HB.out⟩
end Go.Proofs.YtkbcplnlehdjfaaGreat
