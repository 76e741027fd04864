/- What the proof leans on, part 26: LwPart. -/
import Derived.Test.YtkbcplnlehdjfaaGreatOwnR20
import Derived.Test.YtkbcplnlehdjfaaGreatOwnR21
import Derived.Test.YtkbcplnlehdjfaaGreatOwnR22
import Derived.Test.YtkbcplnlehdjfaaGreatOwnR23
import Derived.Test.YtkbcplnlehdjfaaGreatOwnR24

namespace Go.Proofs.YtkbcplnlehdjfaaGreat
open Go.RowKit
attribute [local go_sem ↓] Go.wp_at_zero Go.wp_at_succ
/-- A partition as it came in. -/
structure PartD.Came (w : World) (p : PartD) : Prop where
 procs : procK.Came w p.procA p.procs
 sems : semK.Came w p.semA p.sems
 events : eventK.Came w p.eventA p.events
 boards : boardK.Came w p.boardA p.boards
 buffers : bufferK.Came w p.bufferA p.buffers
 ports : portK.Came w p.portA p.ports
theorem PartD.Came.below {w w' : World} {p : PartD} (h : p.Came w) (hb : Below w.heap.size w w') : p.Came w' := ⟨h.procs.below hb, h.sems.below hb, h.events.below hb, h.boards.below hb, h.buffers.below hb, h.ports.below hb⟩
structure PartD.Big (p : PartD) : Prop where
 nProc : p.procs.length ≤ maxLen
 nSem : p.sems.length ≤ maxLen
 nEvent : p.events.length ≤ maxLen
 nBoard : p.boards.length ≤ maxLen
 nBuffer : p.buffers.length ≤ maxLen
 nPort : p.ports.length ≤ maxLen
 procs : ∀ x ∈ p.procs, ((x.prog.length ≤ maxLen ∧ ∀ o ∈ x.prog, o.2.2.2.size ≤ maxLen) ∧ x.held.size ≤ maxLen ∧ x.got.size ≤ maxLen)
 boards : ∀ x ∈ p.boards, (x.text.size ≤ maxLen)
 buffers : ∀ x ∈ p.buffers, (x.items.length ≤ maxLen ∧ ∀ s ∈ x.items, s.size ≤ maxLen)
 ports : ∀ x ∈ p.ports, (x.items.length ≤ maxLen ∧ ∀ s ∈ x.items, s.size ≤ maxLen)
/-- All of it is short. -/
structure PartD.Shorts (p : PartD) : Prop where
 nProc : p.procs.length ≤ 1048576
 nSem : p.sems.length ≤ 1048576
 nEvent : p.events.length ≤ 1048576
 nBoard : p.boards.length ≤ 1048576
 nBuffer : p.buffers.length ≤ 1048576
 nPort : p.ports.length ≤ 1048576
 procs : ∀ x ∈ p.procs, x.Short
 boards : ∀ x ∈ p.boards, (x.text.size ≤ 1048576)
 buffers : ∀ x ∈ p.buffers, (x.items.length ≤ 1048576 ∧ ∀ s ∈ x.items, s.size ≤ 1048576)
 ports : ∀ x ∈ p.ports, (x.items.length ≤ 1048576 ∧ ∀ s ∈ x.items, s.size ≤ 1048576)
/-- How much there is in all. -/
def PartP.total (p : PartP) : Nat := p.procs.length + sumL (fun x : ProcP => x.prog.length) p.procs + p.sems.length + p.events.length + p.boards.length + (p.buffers.length + sumL (fun x : BufferP => x.items.length) p.buffers) + (p.ports.length + sumL (fun x : PortP => x.items.length) p.ports)
theorem PartD.total_is (p : PartD) : p.pure.total = p.procs.length + sumL (fun x : ProcD => x.prog.length) p.procs + p.sems.length + p.events.length + p.boards.length + (p.buffers.length + sumL (fun x : BufferD => x.items.length) p.buffers) + (p.ports.length + sumL (fun x : PortD => x.items.length) p.ports) := by
 simp only [PartP.total, PartD.pure, sumL, List.length_map, List.map_map]
 rfl
set_option maxRecDepth 100000 in
set_option maxHeartbeats 4000000 in
theorem szPart_l (p : PartD) (left : Int) (w : World) (hb : p.Big) (hc : p.Came w) (h0 : 0 ≤ left) (h1 : left ≤ 1048576) :
  Calls Tryz.prog 58 #[.agg p.cells, .int .i64 left] w fun e w' => SzEnds w left p.pure.total p.Shorts e w' := by
 have HB : Hid p.Big := hb
 have HX : Hid ((w.alloc (.cells #[.int .i64 p.id, .int .i64 p.next, .slice p.procA p.procs.length p.procC, .slice p.semA p.sems.length p.semC, .slice p.eventA p.events.length p.eventC, .slice p.boardA p.boards.length p.boardC, .slice p.bufferA p.buffers.length p.bufferC, .slice p.portA p.ports.length p.portC] 73)).heap[w.heap.size]? = some (.cells #[.int .i64 p.id, .int .i64 p.next, .slice p.procA p.procs.length p.procC, .slice p.semA p.sems.length p.semC, .slice p.eventA p.events.length p.eventC, .slice p.boardA p.boards.length p.boardC, .slice p.bufferA p.buffers.length p.bufferC, .slice p.portA p.ports.length p.portC] 73 (0, 0)) ∧ Below w.heap.size w (w.alloc (.cells #[.int .i64 p.id, .int .i64 p.next, .slice p.procA p.procs.length p.procC, .slice p.semA p.sems.length p.semC, .slice p.eventA p.events.length p.eventC, .slice p.boardA p.boards.length p.boardC, .slice p.bufferA p.buffers.length p.bufferC, .slice p.portA p.ports.length p.portC] 73))) := ⟨heap_alloc_new _ _, (Below.refl _ _).alloc (Nat.le_refl _) _⟩
 have HC : Hid (p.Came w) := hc
 clear hb hc
 unfold PartD.cells
 go_enter Tryz.func58, Tryz.ntmps58
 go_wp2_with fail
 generalize w.alloc (.cells #[.int .i64 p.id, .int .i64 p.next, .slice p.procA p.procs.length p.procC, .slice p.semA p.sems.length p.semC, .slice p.eventA p.events.length p.eventC, .slice p.boardA p.boards.length p.boardC, .slice p.bufferA p.buffers.length p.bufferC, .slice p.portA p.ports.length p.portC] 73) = W0 at *
 refine (szSProc_l p.procA p.procs p.procC left W0 HB.out.nProc (HC.out.procs.below HX.out.2) HB.out.procs (by omega) (by omega)).mono ?_
 rintro e W1 ⟨r1, rfl, a1, b1, s1, hb1⟩
 have HQ1 : Hid (0 ≤ r1 → (p.procs.length ≤ 1048576 ∧ ∀ x ∈ p.procs, x.Short) ∧ r1 + (p.procs.length + sumL (fun x : ProcD => x.prog.length) p.procs : Nat) ≤ left) := s1
 have HY : Hid (W1.heap[w.heap.size]? = some (.cells #[.int .i64 p.id, .int .i64 p.next, .slice p.procA p.procs.length p.procC, .slice p.semA p.sems.length p.semC, .slice p.eventA p.events.length p.eventC, .slice p.boardA p.boards.length p.boardC, .slice p.bufferA p.buffers.length p.bufferC, .slice p.portA p.ports.length p.portC] 73 (0, 0)) ∧ Below w.heap.size w W1) := ⟨(hb1.block _ (Array.getElem?_eq_some_iff.1 HX.out.1).1).trans HX.out.1, HX.out.2.trans (hb1.mono HX.out.2.size)⟩
 clear hb1 s1 HX
 have HX := HY
 clear HY
 by_cases n1 : r1 < 0
 ·go_wp2
  go_ret
  exact szEnds_no HX.out.2 h0
 have m1 : W1.cell? ⟨w.heap.size, 3, none⟩ = some (.slice p.semA p.sems.length p.semC) := by have := HX.out.1; simp [World.cell?, this]
 go_wp2_with fail
 clear m1
 refine (szSSem_l p.semA p.sems p.semC r1 W1 HB.out.nSem (by omega) (by omega)).mono ?_
 rintro e W2 ⟨r2, rfl, a2, b2, s2, hb2⟩
 have HQ2 : Hid (0 ≤ r2 → (p.sems.length ≤ 1048576) ∧ r2 + (p.sems.length : Nat) ≤ r1) := s2
 have HY : Hid (W2.heap[w.heap.size]? = some (.cells #[.int .i64 p.id, .int .i64 p.next, .slice p.procA p.procs.length p.procC, .slice p.semA p.sems.length p.semC, .slice p.eventA p.events.length p.eventC, .slice p.boardA p.boards.length p.boardC, .slice p.bufferA p.buffers.length p.bufferC, .slice p.portA p.ports.length p.portC] 73 (0, 0)) ∧ Below w.heap.size w W2) := ⟨(hb2.block _ (Array.getElem?_eq_some_iff.1 HX.out.1).1).trans HX.out.1, HX.out.2.trans (hb2.mono HX.out.2.size)⟩
 clear hb2 s2 HX
 have HX := HY
 clear HY
 by_cases n2 : r2 < 0
 ·go_wp2
  go_ret
  exact szEnds_no HX.out.2 h0
 have m2 : W2.cell? ⟨w.heap.size, 4, none⟩ = some (.slice p.eventA p.events.length p.eventC) := by have := HX.out.1; simp [World.cell?, this]
 go_wp2_with fail
 clear m2
 refine (szSEvent_l p.eventA p.events p.eventC r2 W2 HB.out.nEvent (by omega) (by omega)).mono ?_
 rintro e W3 ⟨r3, rfl, a3, b3, s3, hb3⟩
 have HQ3 : Hid (0 ≤ r3 → (p.events.length ≤ 1048576) ∧ r3 + (p.events.length : Nat) ≤ r2) := s3
 have HY : Hid (W3.heap[w.heap.size]? = some (.cells #[.int .i64 p.id, .int .i64 p.next, .slice p.procA p.procs.length p.procC, .slice p.semA p.sems.length p.semC, .slice p.eventA p.events.length p.eventC, .slice p.boardA p.boards.length p.boardC, .slice p.bufferA p.buffers.length p.bufferC, .slice p.portA p.ports.length p.portC] 73 (0, 0)) ∧ Below w.heap.size w W3) := ⟨(hb3.block _ (Array.getElem?_eq_some_iff.1 HX.out.1).1).trans HX.out.1, HX.out.2.trans (hb3.mono HX.out.2.size)⟩
 clear hb3 s3 HX
 have HX := HY
 clear HY
 by_cases n3 : r3 < 0
 ·go_wp2
  go_ret
  exact szEnds_no HX.out.2 h0
 have m3 : W3.cell? ⟨w.heap.size, 5, none⟩ = some (.slice p.boardA p.boards.length p.boardC) := by have := HX.out.1; simp [World.cell?, this]
 go_wp2_with fail
 clear m3
 refine (szSBoard_l p.boardA p.boards p.boardC r3 W3 HB.out.nBoard (HC.out.boards.below HX.out.2) HB.out.boards (by omega) (by omega)).mono ?_
 rintro e W4 ⟨r4, rfl, a4, b4, s4, hb4⟩
 have HQ4 : Hid (0 ≤ r4 → (p.boards.length ≤ 1048576 ∧ ∀ x ∈ p.boards, (x.text.size ≤ 1048576)) ∧ r4 + (p.boards.length : Nat) ≤ r3) := s4
 have HY : Hid (W4.heap[w.heap.size]? = some (.cells #[.int .i64 p.id, .int .i64 p.next, .slice p.procA p.procs.length p.procC, .slice p.semA p.sems.length p.semC, .slice p.eventA p.events.length p.eventC, .slice p.boardA p.boards.length p.boardC, .slice p.bufferA p.buffers.length p.bufferC, .slice p.portA p.ports.length p.portC] 73 (0, 0)) ∧ Below w.heap.size w W4) := ⟨(hb4.block _ (Array.getElem?_eq_some_iff.1 HX.out.1).1).trans HX.out.1, HX.out.2.trans (hb4.mono HX.out.2.size)⟩
 clear hb4 s4 HX
 have HX := HY
 clear HY
 by_cases n4 : r4 < 0
 ·go_wp2
  go_ret
  exact szEnds_no HX.out.2 h0
 have m4 : W4.cell? ⟨w.heap.size, 6, none⟩ = some (.slice p.bufferA p.buffers.length p.bufferC) := by have := HX.out.1; simp [World.cell?, this]
 go_wp2_with fail
 clear m4
 refine (szSBuffer_l p.bufferA p.buffers p.bufferC r4 W4 HB.out.nBuffer (HC.out.buffers.below HX.out.2) HB.out.buffers (by omega) (by omega)).mono ?_
 rintro e W5 ⟨r5, rfl, a5, b5, s5, hb5⟩
 have HQ5 : Hid (0 ≤ r5 → (p.buffers.length ≤ 1048576 ∧ ∀ x ∈ p.buffers, (x.items.length ≤ 1048576 ∧ ∀ s ∈ x.items, s.size ≤ 1048576)) ∧ r5 + (p.buffers.length + sumL (fun x : BufferD => x.items.length) p.buffers : Nat) ≤ r4) := s5
 have HY : Hid (W5.heap[w.heap.size]? = some (.cells #[.int .i64 p.id, .int .i64 p.next, .slice p.procA p.procs.length p.procC, .slice p.semA p.sems.length p.semC, .slice p.eventA p.events.length p.eventC, .slice p.boardA p.boards.length p.boardC, .slice p.bufferA p.buffers.length p.bufferC, .slice p.portA p.ports.length p.portC] 73 (0, 0)) ∧ Below w.heap.size w W5) := ⟨(hb5.block _ (Array.getElem?_eq_some_iff.1 HX.out.1).1).trans HX.out.1, HX.out.2.trans (hb5.mono HX.out.2.size)⟩
 clear hb5 s5 HX
 have HX := HY
 clear HY
 by_cases n5 : r5 < 0
 ·go_wp2
  go_ret
  exact szEnds_no HX.out.2 h0
 have m5 : W5.cell? ⟨w.heap.size, 7, none⟩ = some (.slice p.portA p.ports.length p.portC) := by have := HX.out.1; simp [World.cell?, this]
 go_wp2_with fail
 clear m5
 refine (szSPort_l p.portA p.ports p.portC r5 W5 HB.out.nPort (HC.out.ports.below HX.out.2) HB.out.ports (by omega) (by omega)).mono ?_
 rintro e W6 ⟨r6, rfl, a6, b6, s6, hb6⟩
 have HQ6 : Hid (0 ≤ r6 → (p.ports.length ≤ 1048576 ∧ ∀ x ∈ p.ports, (x.items.length ≤ 1048576 ∧ ∀ s ∈ x.items, s.size ≤ 1048576)) ∧ r6 + (p.ports.length + sumL (fun x : PortD => x.items.length) p.ports : Nat) ≤ r5) := s6
 have HY : Hid (W6.heap[w.heap.size]? = some (.cells #[.int .i64 p.id, .int .i64 p.next, .slice p.procA p.procs.length p.procC, .slice p.semA p.sems.length p.semC, .slice p.eventA p.events.length p.eventC, .slice p.boardA p.boards.length p.boardC, .slice p.bufferA p.buffers.length p.bufferC, .slice p.portA p.ports.length p.portC] 73 (0, 0)) ∧ Below w.heap.size w W6) := ⟨(hb6.block _ (Array.getElem?_eq_some_iff.1 HX.out.1).1).trans HX.out.1, HX.out.2.trans (hb6.mono HX.out.2.size)⟩
 clear hb6 s6 HX
 have HX := HY
 clear HY
 by_cases n6 : r6 < 0
 ·go_wp2
  go_ret
  exact szEnds_no HX.out.2 h0
 go_wp2
 go_ret
 exact ⟨r6, rfl, by omega, by omega, fun _ => ⟨⟨(HQ1.out (by omega)).1.1, (HQ2.out (by omega)).1, (HQ3.out (by omega)).1, (HQ4.out (by omega)).1.1, (HQ5.out (by omega)).1.1, (HQ6.out (by omega)).1.1, (HQ1.out (by omega)).1.2, (HQ4.out (by omega)).1.2, (HQ5.out (by omega)).1.2, (HQ6.out (by omega)).1.2⟩, by rw [PartD.total_is]; have t1 := (HQ1.out (by omega)).2; have t2 := (HQ2.out (by omega)).2; have t3 := (HQ3.out (by omega)).2; have t4 := (HQ4.out (by omega)).2; have t5 := (HQ5.out (by omega)).2; have t6 := (HQ6.out (by omega)).2; omega⟩, HX.out.2⟩
theorem copy_keeps {α : Type} {N : Nest α} {K : Kind α} {w w' : World} {len lo : Nat} {l out : List α} (h : CopyIs N K w w' len l out) (hl : lo ≤ w.heap.size) : Keeps lo (fun W' => W'.ownsRow w.heap.size N.T K.n (.slice (some ⟨w.heap.size, 0, none⟩) len len) len (K.flat out) ∧ ∀ x ∈ out, N.Mine W' w.heap.size x) w' := fun W' hs _ =>
 ⟨own_same h.row fun g hg => hs g (by have := (own_lt h.row hg).1; omega) (own_lt h.row hg).2, fun x hx => ((h.mine x hx).low (by omega)).same fun g hk => hs g (by have := ((h.mine x hx).lt hk).1; omega) ((h.mine x hx).lt hk).2⟩
theorem row_keeps {w w' : World} {T n len lo : Nat} {xs : List Value} (h : w'.ownsRow w.heap.size T n (.slice (some ⟨w.heap.size, 0, none⟩) len len) len xs) (hl : lo ≤ w.heap.size) : Keeps lo (fun W' => W'.ownsRow w.heap.size T n (.slice (some ⟨w.heap.size, 0, none⟩) len len) len xs) w' := fun W' hs _ =>
 own_same h fun g hg => hs g (by have := (own_lt h hg).1; omega) (own_lt h hg).2
theorem copy_btw {α : Type} {N : Nest α} {K : Kind α} {w w' : World} {len : Nat} {l out : List α} (h : CopyIs N K w w' len l out) : Btw w.heap.size w'.heap.size (blk (some ⟨w.heap.size, 0, none⟩) ++ out.filterMap N.kid) := by
 have h1 := (own_lt h.row (g := w.heap.size) (by rw [mem_blk]; rfl)).2
 have hk : Btw (w.heap.size + 1) w'.heap.size (out.filterMap N.kid) := ⟨h.nodup, fun g hg => by
  obtain ⟨x, hx, hk⟩ := mem_kids.1 hg
  exact (h.mine x hx).lt hk⟩
 have hb : Btw w.heap.size (w.heap.size + 1) (blk (some ⟨w.heap.size, 0, none⟩)) := ⟨by simp [blk], fun g hg => by rw [mem_blk] at hg; simp at hg; omega⟩
 exact hb.append hk (Nat.le_refl _) (by omega) (by omega)
theorem row_btw {w w' : World} {T n len : Nat} {xs : List Value} (h : w'.ownsRow w.heap.size T n (.slice (some ⟨w.heap.size, 0, none⟩) len len) len xs) : Btw w.heap.size w'.heap.size (blk (some ⟨w.heap.size, 0, none⟩)) :=
 ⟨by simp [blk], fun g hg => own_lt h hg⟩
theorem keep_end {lo : Nat} {F : World → Prop} {W : World} {vs : List Value} (h : Keeps (lo + 1 + 1) F W) : F (setAllW W lo 0 vs) := (h.step (fun g h1 _ => setAllW_other _ (by omega)) (by rw [setAllW_size]; exact Nat.le_refl _)).here
theorem copy_pure {α β : Type} {N : Nest α} {f : α → β} (hf : ∀ x, f (N.set x none 0) = f x) {l out : List α} (h : out.map (fun x => N.set x none 0) = l.map (fun x => N.set x none 0)) : out.map f = l.map f := by
 have := congrArg (List.map f) h
 simp only [List.map_map, Function.comp_def, hf] at this
 exact this
theorem copy_len {α : Type} {N : Nest α} {l out : List α} (h : out.map (fun x => N.set x none 0) = l.map (fun x => N.set x none 0)) : out.length = l.length := by
 have := congrArg List.length h
 simpa using this
theorem toPart_end {p : PartD} {W : World} {lo s1 e1 s2 e2 s3 e3 s4 e4 s5 e5 s6 e6 : Nat} {o1 : List ProcD} {o5 : List BufferD} {o6 : List PortD} (hs : lo ≤ s1 ∧ e1 ≤ s2 ∧ e2 ≤ s3 ∧ e3 ≤ s4 ∧ e4 ≤ s5 ∧ e5 ≤ s6) (hz : s1 ≤ e1 ∧ s2 ≤ e2 ∧ s3 ≤ e3 ∧ s4 ≤ e4 ∧ s5 ≤ e5 ∧ s6 ≤ e6)
  (h1 : (fun W' => W'.ownsRow s1 43 12 (.slice (some ⟨s1, 0, none⟩) p.procs.length p.procs.length) p.procs.length (procK.flat o1) ∧ ∀ x ∈ o1, procN.Mine W' s1 x) W)
  (b1 : Btw s1 e1 (blk (some ⟨s1, 0, none⟩) ++ o1.filterMap procN.kid))
  (h2 : (fun W' => W'.ownsRow s2 49 3 (.slice (some ⟨s2, 0, none⟩) p.sems.length p.sems.length) p.sems.length (semK.flat p.sems)) W)
  (b2 : Btw s2 e2 (blk (some ⟨s2, 0, none⟩)))
  (h3 : (fun W' => W'.ownsRow s3 138 2 (.slice (some ⟨s3, 0, none⟩) p.events.length p.events.length) p.events.length (eventK.flat p.events)) W)
  (b3 : Btw s3 e3 (blk (some ⟨s3, 0, none⟩)))
  (h4 : (fun W' => W'.ownsRow s4 141 3 (.slice (some ⟨s4, 0, none⟩) p.boards.length p.boards.length) p.boards.length (boardK.flat p.boards)) W)
  (b4 : Btw s4 e4 (blk (some ⟨s4, 0, none⟩)))
  (h5 : (fun W' => W'.ownsRow s5 144 3 (.slice (some ⟨s5, 0, none⟩) p.buffers.length p.buffers.length) p.buffers.length (bufferK.flat o5) ∧ ∀ x ∈ o5, bufferN.Mine W' s5 x) W)
  (b5 : Btw s5 e5 (blk (some ⟨s5, 0, none⟩) ++ o5.filterMap bufferN.kid))
  (h6 : (fun W' => W'.ownsRow s6 61 5 (.slice (some ⟨s6, 0, none⟩) p.ports.length p.ports.length) p.ports.length (portK.flat o6) ∧ ∀ x ∈ o6, portN.Mine W' s6 x) W)
  (b6 : Btw s6 e6 (blk (some ⟨s6, 0, none⟩) ++ o6.filterMap portN.kid))
  (a1 : o1.map (fun x => procN.set x none 0) = p.procs.map (fun x => procN.set x none 0)) (a5 : o5.map (fun x => bufferN.set x none 0) = p.buffers.map (fun x => bufferN.set x none 0)) (a6 : o6.map (fun x => portN.set x none 0) = p.ports.map (fun x => portN.set x none 0)) :
  PartOwn W lo (⟨p.id, p.next, o1, some ⟨s1, 0, none⟩, p.procs.length, p.sems, some ⟨s2, 0, none⟩, p.sems.length, p.events, some ⟨s3, 0, none⟩, p.events.length, p.boards, some ⟨s4, 0, none⟩, p.boards.length, o5, some ⟨s5, 0, none⟩, p.buffers.length, o6, some ⟨s6, 0, none⟩, p.ports.length⟩ : PartD) ∧ (⟨p.id, p.next, o1, some ⟨s1, 0, none⟩, p.procs.length, p.sems, some ⟨s2, 0, none⟩, p.sems.length, p.events, some ⟨s3, 0, none⟩, p.events.length, p.boards, some ⟨s4, 0, none⟩, p.boards.length, o5, some ⟨s5, 0, none⟩, p.buffers.length, o6, some ⟨s6, 0, none⟩, p.ports.length⟩ : PartD).pure = p.pure := by
 have l1 := copy_len a1
 have l5 := copy_len a5
 have l6 := copy_len a6
 refine ⟨⟨?_, own_low h2 (by omega), own_low h3 (by omega), own_low h4 (by omega), ?_, ?_, fun x hx => (h1.2 x hx).low (by omega), fun x hx => (h5.2 x hx).low (by omega), fun x hx => (h6.2 x hx).low (by omega), ?_⟩, ?_⟩
 ·have := own_low (base' := lo) h1.1 (by omega)
  simp only [l1]
  exact this
 ·have := own_low (base' := lo) h5.1 (by omega)
  simp only [l5]
  exact this
 ·have := own_low (base' := lo) h6.1 (by omega)
  simp only [l6]
  exact this
 ·simp only [PartD.blocks]
  have := b1.append (b2.append (b3.append (b4.append (b5.append b6 (by omega) (by omega) (by omega)) (by omega) (by omega) (by omega)) (by omega) (by omega) (by omega)) (by omega) (by omega) (by omega)) (by omega) (by omega) (by omega)
  simp only [List.append_assoc] at this
  exact this.1
 ·show PartP.mk _ _ _ _ _ _ _ _ = PartP.mk _ _ _ _ _ _ _ _
  have e1 : o1.map (·.toProcP) = p.procs.map (·.toProcP) := copy_pure (fun _ => rfl) a1
  have e5 : o5.map (·.toBufferP) = p.buffers.map (·.toBufferP) := copy_pure (fun _ => rfl) a5
  have e6 : o6.map (·.toPortP) = p.ports.map (·.toPortP) := copy_pure (fun _ => rfl) a6
  rw [e1, e5, e6]
/-- What is there while a partition is copied. -/
structure ToP (w W : World) (p : PartD) (cur : Array Value) : Prop where
 src : W.heap[w.heap.size]? = some (.cells p.cells 73 (0, 0))
 res : W.heap[w.heap.size + 1]? = some (.cells #[.int .i64 0, .int .i64 0, .slice none 0 0, .slice none 0 0, .slice none 0 0, .slice none 0 0, .slice none 0 0, .slice none 0 0] 32 (0, 0))
 var : W.heap[w.heap.size + 1 + 1]? = some (.cells cur 32 (0, 0))
 bel : Below w.heap.size w W
theorem ToP.lt {w W : World} {p : PartD} {cur : Array Value} (h : ToP w W p cur) : w.heap.size + 1 + 1 < W.heap.size := (Array.getElem?_eq_some_iff.1 h.var).1
theorem ToP.below {w W W' : World} {p : PartD} {cur : Array Value} (h : ToP w W p cur) (hb : Below W.heap.size W W') : ToP w W' p cur := by
 have := h.lt
 exact ⟨(hb.block _ (by omega)).trans h.src, (hb.block _ (by omega)).trans h.res, (hb.block _ (by omega)).trans h.var, h.bel.trans (hb.mono h.bel.size)⟩
theorem ToP.set {w W : World} {p : PartD} {cur : Array Value} (h : ToP w W p cur) (i : Nat) (v : Value) : ToP w (W.setCell ⟨w.heap.size + 1 + 1, i, none⟩ v) p (cur.setIfInBounds i v) :=
 ⟨(Below.heap_setCell W _ v _ (by show ¬ w.heap.size = w.heap.size + 1 + 1; omega)).trans h.src, (Below.heap_setCell W _ v _ (by show ¬ w.heap.size + 1 = w.heap.size + 1 + 1; omega)).trans h.res, heap_setCell_same W _ i cur _ v h.var, h.bel.setCell (by show w.heap.size ≤ w.heap.size + 1 + 1; omega) v⟩
set_option maxRecDepth 100000 in
set_option maxHeartbeats 8000000 in
theorem toPart_l (p : PartD) (w : World) (hs : p.Shorts) (hc : p.Came w) :
  Calls Tryz.prog 59 #[.agg p.cells] w fun e w' => ∃ p', e = .returned (.agg p'.cells) ∧ PartOwn w' w.heap.size p' ∧ p'.pure = p.pure ∧ Below w.heap.size w w' := by
 have HS : Hid p.Shorts := hs
 have HC : Hid (p.Came w) := hc
 have HT0 : Hid (ToP w (((w.alloc (.cells #[.int .i64 p.id, .int .i64 p.next, .slice p.procA p.procs.length p.procC, .slice p.semA p.sems.length p.semC, .slice p.eventA p.events.length p.eventC, .slice p.boardA p.boards.length p.boardC, .slice p.bufferA p.buffers.length p.bufferC, .slice p.portA p.ports.length p.portC] 73)).alloc (.cells #[.int .i64 0, .int .i64 0, .slice none 0 0, .slice none 0 0, .slice none 0 0, .slice none 0 0, .slice none 0 0, .slice none 0 0] 32)).alloc (.cells #[.int .i64 p.id, .int .i64 p.next, .slice none 0 0, .slice none 0 0, .slice none 0 0, .slice none 0 0, .slice none 0 0, .slice none 0 0] 32)) p #[.int .i64 p.id, .int .i64 p.next, .slice none 0 0, .slice none 0 0, .slice none 0 0, .slice none 0 0, .slice none 0 0, .slice none 0 0]) := ⟨(alloc3_facts w _ _ _).1, (alloc3_facts w _ _ _).2.1, (alloc3_facts w _ _ _).2.2.1, alloc3_below w _ _ _⟩
 have HLO : Hid (w.heap.size + 1 + 1 < (((w.alloc (.cells #[.int .i64 p.id, .int .i64 p.next, .slice p.procA p.procs.length p.procC, .slice p.semA p.sems.length p.semC, .slice p.eventA p.events.length p.eventC, .slice p.boardA p.boards.length p.boardC, .slice p.bufferA p.buffers.length p.bufferC, .slice p.portA p.ports.length p.portC] 73)).alloc (.cells #[.int .i64 0, .int .i64 0, .slice none 0 0, .slice none 0 0, .slice none 0 0, .slice none 0 0, .slice none 0 0, .slice none 0 0] 32)).alloc (.cells #[.int .i64 p.id, .int .i64 p.next, .slice none 0 0, .slice none 0 0, .slice none 0 0, .slice none 0 0, .slice none 0 0, .slice none 0 0] 32)).heap.size) := HT0.out.lt
 clear hs hc
 unfold PartD.cells
 go_enter Tryz.func59, Tryz.ntmps59
 go_wp2_with fail
 generalize ((w.alloc (.cells #[.int .i64 p.id, .int .i64 p.next, .slice p.procA p.procs.length p.procC, .slice p.semA p.sems.length p.semC, .slice p.eventA p.events.length p.eventC, .slice p.boardA p.boards.length p.boardC, .slice p.bufferA p.buffers.length p.bufferC, .slice p.portA p.ports.length p.portC] 73)).alloc (.cells #[.int .i64 0, .int .i64 0, .slice none 0 0, .slice none 0 0, .slice none 0 0, .slice none 0 0, .slice none 0 0, .slice none 0 0] 32)).alloc (.cells #[.int .i64 p.id, .int .i64 p.next, .slice none 0 0, .slice none 0 0, .slice none 0 0, .slice none 0 0, .slice none 0 0, .slice none 0 0] 32) = W0 at *
 refine (toSProc_l p.procA p.procs p.procC W0 HS.out.nProc (fun x hx => (HS.out.procs x hx).prog) (HC.out.procs.below HT0.out.bel)).mono ?_
 rintro e v1 ⟨rfl, o1, hcp1⟩
 have HT1 : Hid (ToP w (v1.setCell ⟨w.heap.size + 1 + 1, 2, none⟩ (.slice (some ⟨W0.heap.size, 0, none⟩) p.procs.length p.procs.length)) p #[.int .i64 p.id, .int .i64 p.next, .slice (some ⟨W0.heap.size, 0, none⟩) p.procs.length p.procs.length, .slice none 0 0, .slice none 0 0, .slice none 0 0, .slice none 0 0, .slice none 0 0]) := (HT0.out.below hcp1.bel).set 2 _
 have HK1 : Hid (Keeps (w.heap.size + 1 + 1 + 1) (fun W' => W'.ownsRow W0.heap.size 43 12 (.slice (some ⟨W0.heap.size, 0, none⟩) p.procs.length p.procs.length) p.procs.length (procK.flat o1) ∧ ∀ x ∈ o1, procN.Mine W' W0.heap.size x) (v1.setCell ⟨w.heap.size + 1 + 1, 2, none⟩ (.slice (some ⟨W0.heap.size, 0, none⟩) p.procs.length p.procs.length))) := keep_call (copy_keeps hcp1 (lo := w.heap.size + 1 + 1 + 1) HT0.out.lt) (Below.refl _ _)
 have HB1 : Hid (Btw W0.heap.size v1.heap.size (blk (some ⟨W0.heap.size, 0, none⟩) ++ o1.filterMap procN.kid) ∧ W0.heap.size ≤ v1.heap.size ∧ o1.map (fun x => procN.set x none 0) = p.procs.map (fun x => procN.set x none 0)) := ⟨copy_btw hcp1, hcp1.bel.size, hcp1.alike⟩
 have HV1 : Hid (v1.heap.size = (v1.setCell ⟨w.heap.size + 1 + 1, 2, none⟩ (.slice (some ⟨W0.heap.size, 0, none⟩) p.procs.length p.procs.length)).heap.size) := by show _ = _; simp [World.setCell]
 have hvar := (HT0.out.below hcp1.bel).var
 have d1 : v1.cell? ⟨w.heap.size + 1 + 1, 2, none⟩ = some (.slice none 0 0) := by simp [World.cell?, hvar]
 have f1 : v1.frozen? ⟨w.heap.size + 1 + 1, 2, none⟩ = false := by simp [World.frozen?, hvar]
 clear hvar hcp1
 have m1 : (v1.setCell ⟨w.heap.size + 1 + 1, 2, none⟩ (.slice (some ⟨W0.heap.size, 0, none⟩) p.procs.length p.procs.length)).cell? ⟨w.heap.size, 3, none⟩ = some (.slice p.semA p.sems.length p.semC) := by have := HT1.out.src; simp [World.cell?, this, PartD.cells]
 go_wp2_with fail
 generalize v1.setCell ⟨w.heap.size + 1 + 1, 2, none⟩ (.slice (some ⟨W0.heap.size, 0, none⟩) p.procs.length p.procs.length) = W1 at *
 clear m1 d1 f1 HT0
 generalize hS1 : W0.heap.size = S1 at *
 have HG1 : Hid (W0.heap.size = S1 ∧ v1.heap.size = W1.heap.size) := ⟨hS1, HV1.out⟩
 clear hS1 HV1
 refine (toSSem_l p.semA p.sems p.semC W1 HS.out.nSem (HC.out.sems.below HT1.out.bel)).mono ?_
 rintro e v2 ⟨rfl, hcp2, hb2⟩
 have HT2 : Hid (ToP w (v2.setCell ⟨w.heap.size + 1 + 1, 3, none⟩ (.slice (some ⟨W1.heap.size, 0, none⟩) p.sems.length p.sems.length)) p #[.int .i64 p.id, .int .i64 p.next, .slice (some ⟨S1, 0, none⟩) p.procs.length p.procs.length, .slice (some ⟨W1.heap.size, 0, none⟩) p.sems.length p.sems.length, .slice none 0 0, .slice none 0 0, .slice none 0 0, .slice none 0 0]) := (HT1.out.below hb2).set 3 _
 have HK2 : Hid (Keeps (w.heap.size + 1 + 1 + 1) (fun W' => W'.ownsRow W1.heap.size 49 3 (.slice (some ⟨W1.heap.size, 0, none⟩) p.sems.length p.sems.length) p.sems.length (semK.flat p.sems)) (v2.setCell ⟨w.heap.size + 1 + 1, 3, none⟩ (.slice (some ⟨W1.heap.size, 0, none⟩) p.sems.length p.sems.length))) := keep_call (row_keeps hcp2 (lo := w.heap.size + 1 + 1 + 1) HT1.out.lt) (Below.refl _ _)
 have HZ1 : Hid (Keeps (w.heap.size + 1 + 1 + 1) (fun W' => W'.ownsRow S1 43 12 (.slice (some ⟨S1, 0, none⟩) p.procs.length p.procs.length) p.procs.length (procK.flat o1) ∧ ∀ x ∈ o1, procN.Mine W' S1 x) (v2.setCell ⟨w.heap.size + 1 + 1, 3, none⟩ (.slice (some ⟨W1.heap.size, 0, none⟩) p.sems.length p.sems.length))) := keep_call HK1.out hb2
 clear HK1
 have HK1 := HZ1
 clear HZ1
 have HB2 : Hid (Btw W1.heap.size v2.heap.size (blk (some ⟨W1.heap.size, 0, none⟩)) ∧ W1.heap.size ≤ v2.heap.size) := ⟨row_btw hcp2, hb2.size⟩
 have HV2 : Hid (v2.heap.size = (v2.setCell ⟨w.heap.size + 1 + 1, 3, none⟩ (.slice (some ⟨W1.heap.size, 0, none⟩) p.sems.length p.sems.length)).heap.size) := by show _ = _; simp [World.setCell]
 have hvar := (HT1.out.below hb2).var
 have d2 : v2.cell? ⟨w.heap.size + 1 + 1, 3, none⟩ = some (.slice none 0 0) := by simp [World.cell?, hvar]
 have f2 : v2.frozen? ⟨w.heap.size + 1 + 1, 3, none⟩ = false := by simp [World.frozen?, hvar]
 clear hvar hcp2 hb2
 have m2 : (v2.setCell ⟨w.heap.size + 1 + 1, 3, none⟩ (.slice (some ⟨W1.heap.size, 0, none⟩) p.sems.length p.sems.length)).cell? ⟨w.heap.size, 4, none⟩ = some (.slice p.eventA p.events.length p.eventC) := by have := HT2.out.src; simp [World.cell?, this, PartD.cells]
 go_wp2_with fail
 generalize v2.setCell ⟨w.heap.size + 1 + 1, 3, none⟩ (.slice (some ⟨W1.heap.size, 0, none⟩) p.sems.length p.sems.length) = W2 at *
 clear m2 d2 f2 HT1
 generalize hS2 : W1.heap.size = S2 at *
 have HG2 : Hid (W1.heap.size = S2 ∧ v2.heap.size = W2.heap.size) := ⟨hS2, HV2.out⟩
 clear hS2 HV2
 refine (toSEvent_l p.eventA p.events p.eventC W2 HS.out.nEvent (HC.out.events.below HT2.out.bel)).mono ?_
 rintro e v3 ⟨rfl, hcp3, hb3⟩
 have HT3 : Hid (ToP w (v3.setCell ⟨w.heap.size + 1 + 1, 4, none⟩ (.slice (some ⟨W2.heap.size, 0, none⟩) p.events.length p.events.length)) p #[.int .i64 p.id, .int .i64 p.next, .slice (some ⟨S1, 0, none⟩) p.procs.length p.procs.length, .slice (some ⟨S2, 0, none⟩) p.sems.length p.sems.length, .slice (some ⟨W2.heap.size, 0, none⟩) p.events.length p.events.length, .slice none 0 0, .slice none 0 0, .slice none 0 0]) := (HT2.out.below hb3).set 4 _
 have HK3 : Hid (Keeps (w.heap.size + 1 + 1 + 1) (fun W' => W'.ownsRow W2.heap.size 138 2 (.slice (some ⟨W2.heap.size, 0, none⟩) p.events.length p.events.length) p.events.length (eventK.flat p.events)) (v3.setCell ⟨w.heap.size + 1 + 1, 4, none⟩ (.slice (some ⟨W2.heap.size, 0, none⟩) p.events.length p.events.length))) := keep_call (row_keeps hcp3 (lo := w.heap.size + 1 + 1 + 1) HT2.out.lt) (Below.refl _ _)
 have HZ1 : Hid (Keeps (w.heap.size + 1 + 1 + 1) (fun W' => W'.ownsRow S1 43 12 (.slice (some ⟨S1, 0, none⟩) p.procs.length p.procs.length) p.procs.length (procK.flat o1) ∧ ∀ x ∈ o1, procN.Mine W' S1 x) (v3.setCell ⟨w.heap.size + 1 + 1, 4, none⟩ (.slice (some ⟨W2.heap.size, 0, none⟩) p.events.length p.events.length))) := keep_call HK1.out hb3
 clear HK1
 have HK1 := HZ1
 clear HZ1
 have HZ2 : Hid (Keeps (w.heap.size + 1 + 1 + 1) (fun W' => W'.ownsRow S2 49 3 (.slice (some ⟨S2, 0, none⟩) p.sems.length p.sems.length) p.sems.length (semK.flat p.sems)) (v3.setCell ⟨w.heap.size + 1 + 1, 4, none⟩ (.slice (some ⟨W2.heap.size, 0, none⟩) p.events.length p.events.length))) := keep_call HK2.out hb3
 clear HK2
 have HK2 := HZ2
 clear HZ2
 have HB3 : Hid (Btw W2.heap.size v3.heap.size (blk (some ⟨W2.heap.size, 0, none⟩)) ∧ W2.heap.size ≤ v3.heap.size) := ⟨row_btw hcp3, hb3.size⟩
 have HV3 : Hid (v3.heap.size = (v3.setCell ⟨w.heap.size + 1 + 1, 4, none⟩ (.slice (some ⟨W2.heap.size, 0, none⟩) p.events.length p.events.length)).heap.size) := by show _ = _; simp [World.setCell]
 have hvar := (HT2.out.below hb3).var
 have d3 : v3.cell? ⟨w.heap.size + 1 + 1, 4, none⟩ = some (.slice none 0 0) := by simp [World.cell?, hvar]
 have f3 : v3.frozen? ⟨w.heap.size + 1 + 1, 4, none⟩ = false := by simp [World.frozen?, hvar]
 clear hvar hcp3 hb3
 have m3 : (v3.setCell ⟨w.heap.size + 1 + 1, 4, none⟩ (.slice (some ⟨W2.heap.size, 0, none⟩) p.events.length p.events.length)).cell? ⟨w.heap.size, 5, none⟩ = some (.slice p.boardA p.boards.length p.boardC) := by have := HT3.out.src; simp [World.cell?, this, PartD.cells]
 go_wp2_with fail
 generalize v3.setCell ⟨w.heap.size + 1 + 1, 4, none⟩ (.slice (some ⟨W2.heap.size, 0, none⟩) p.events.length p.events.length) = W3 at *
 clear m3 d3 f3 HT2
 generalize hS3 : W2.heap.size = S3 at *
 have HG3 : Hid (W2.heap.size = S3 ∧ v3.heap.size = W3.heap.size) := ⟨hS3, HV3.out⟩
 clear hS3 HV3
 refine (toSBoard_l p.boardA p.boards p.boardC W3 HS.out.nBoard (HC.out.boards.below HT3.out.bel)).mono ?_
 rintro e v4 ⟨rfl, hcp4, hb4⟩
 have HT4 : Hid (ToP w (v4.setCell ⟨w.heap.size + 1 + 1, 5, none⟩ (.slice (some ⟨W3.heap.size, 0, none⟩) p.boards.length p.boards.length)) p #[.int .i64 p.id, .int .i64 p.next, .slice (some ⟨S1, 0, none⟩) p.procs.length p.procs.length, .slice (some ⟨S2, 0, none⟩) p.sems.length p.sems.length, .slice (some ⟨S3, 0, none⟩) p.events.length p.events.length, .slice (some ⟨W3.heap.size, 0, none⟩) p.boards.length p.boards.length, .slice none 0 0, .slice none 0 0]) := (HT3.out.below hb4).set 5 _
 have HK4 : Hid (Keeps (w.heap.size + 1 + 1 + 1) (fun W' => W'.ownsRow W3.heap.size 141 3 (.slice (some ⟨W3.heap.size, 0, none⟩) p.boards.length p.boards.length) p.boards.length (boardK.flat p.boards)) (v4.setCell ⟨w.heap.size + 1 + 1, 5, none⟩ (.slice (some ⟨W3.heap.size, 0, none⟩) p.boards.length p.boards.length))) := keep_call (row_keeps hcp4 (lo := w.heap.size + 1 + 1 + 1) HT3.out.lt) (Below.refl _ _)
 have HZ1 : Hid (Keeps (w.heap.size + 1 + 1 + 1) (fun W' => W'.ownsRow S1 43 12 (.slice (some ⟨S1, 0, none⟩) p.procs.length p.procs.length) p.procs.length (procK.flat o1) ∧ ∀ x ∈ o1, procN.Mine W' S1 x) (v4.setCell ⟨w.heap.size + 1 + 1, 5, none⟩ (.slice (some ⟨W3.heap.size, 0, none⟩) p.boards.length p.boards.length))) := keep_call HK1.out hb4
 clear HK1
 have HK1 := HZ1
 clear HZ1
 have HZ2 : Hid (Keeps (w.heap.size + 1 + 1 + 1) (fun W' => W'.ownsRow S2 49 3 (.slice (some ⟨S2, 0, none⟩) p.sems.length p.sems.length) p.sems.length (semK.flat p.sems)) (v4.setCell ⟨w.heap.size + 1 + 1, 5, none⟩ (.slice (some ⟨W3.heap.size, 0, none⟩) p.boards.length p.boards.length))) := keep_call HK2.out hb4
 clear HK2
 have HK2 := HZ2
 clear HZ2
 have HZ3 : Hid (Keeps (w.heap.size + 1 + 1 + 1) (fun W' => W'.ownsRow S3 138 2 (.slice (some ⟨S3, 0, none⟩) p.events.length p.events.length) p.events.length (eventK.flat p.events)) (v4.setCell ⟨w.heap.size + 1 + 1, 5, none⟩ (.slice (some ⟨W3.heap.size, 0, none⟩) p.boards.length p.boards.length))) := keep_call HK3.out hb4
 clear HK3
 have HK3 := HZ3
 clear HZ3
 have HB4 : Hid (Btw W3.heap.size v4.heap.size (blk (some ⟨W3.heap.size, 0, none⟩)) ∧ W3.heap.size ≤ v4.heap.size) := ⟨row_btw hcp4, hb4.size⟩
 have HV4 : Hid (v4.heap.size = (v4.setCell ⟨w.heap.size + 1 + 1, 5, none⟩ (.slice (some ⟨W3.heap.size, 0, none⟩) p.boards.length p.boards.length)).heap.size) := by show _ = _; simp [World.setCell]
 have hvar := (HT3.out.below hb4).var
 have d4 : v4.cell? ⟨w.heap.size + 1 + 1, 5, none⟩ = some (.slice none 0 0) := by simp [World.cell?, hvar]
 have f4 : v4.frozen? ⟨w.heap.size + 1 + 1, 5, none⟩ = false := by simp [World.frozen?, hvar]
 clear hvar hcp4 hb4
 have m4 : (v4.setCell ⟨w.heap.size + 1 + 1, 5, none⟩ (.slice (some ⟨W3.heap.size, 0, none⟩) p.boards.length p.boards.length)).cell? ⟨w.heap.size, 6, none⟩ = some (.slice p.bufferA p.buffers.length p.bufferC) := by have := HT4.out.src; simp [World.cell?, this, PartD.cells]
 go_wp2_with fail
 generalize v4.setCell ⟨w.heap.size + 1 + 1, 5, none⟩ (.slice (some ⟨W3.heap.size, 0, none⟩) p.boards.length p.boards.length) = W4 at *
 clear m4 d4 f4 HT3
 generalize hS4 : W3.heap.size = S4 at *
 have HG4 : Hid (W3.heap.size = S4 ∧ v4.heap.size = W4.heap.size) := ⟨hS4, HV4.out⟩
 clear hS4 HV4
 refine (toSBuffer_l p.bufferA p.buffers p.bufferC W4 HS.out.nBuffer (fun x hx => (HS.out.buffers x hx).1) (HC.out.buffers.below HT4.out.bel)).mono ?_
 rintro e v5 ⟨rfl, o5, hcp5⟩
 have HT5 : Hid (ToP w (v5.setCell ⟨w.heap.size + 1 + 1, 6, none⟩ (.slice (some ⟨W4.heap.size, 0, none⟩) p.buffers.length p.buffers.length)) p #[.int .i64 p.id, .int .i64 p.next, .slice (some ⟨S1, 0, none⟩) p.procs.length p.procs.length, .slice (some ⟨S2, 0, none⟩) p.sems.length p.sems.length, .slice (some ⟨S3, 0, none⟩) p.events.length p.events.length, .slice (some ⟨S4, 0, none⟩) p.boards.length p.boards.length, .slice (some ⟨W4.heap.size, 0, none⟩) p.buffers.length p.buffers.length, .slice none 0 0]) := (HT4.out.below hcp5.bel).set 6 _
 have HK5 : Hid (Keeps (w.heap.size + 1 + 1 + 1) (fun W' => W'.ownsRow W4.heap.size 144 3 (.slice (some ⟨W4.heap.size, 0, none⟩) p.buffers.length p.buffers.length) p.buffers.length (bufferK.flat o5) ∧ ∀ x ∈ o5, bufferN.Mine W' W4.heap.size x) (v5.setCell ⟨w.heap.size + 1 + 1, 6, none⟩ (.slice (some ⟨W4.heap.size, 0, none⟩) p.buffers.length p.buffers.length))) := keep_call (copy_keeps hcp5 (lo := w.heap.size + 1 + 1 + 1) HT4.out.lt) (Below.refl _ _)
 have HZ1 : Hid (Keeps (w.heap.size + 1 + 1 + 1) (fun W' => W'.ownsRow S1 43 12 (.slice (some ⟨S1, 0, none⟩) p.procs.length p.procs.length) p.procs.length (procK.flat o1) ∧ ∀ x ∈ o1, procN.Mine W' S1 x) (v5.setCell ⟨w.heap.size + 1 + 1, 6, none⟩ (.slice (some ⟨W4.heap.size, 0, none⟩) p.buffers.length p.buffers.length))) := keep_call HK1.out hcp5.bel
 clear HK1
 have HK1 := HZ1
 clear HZ1
 have HZ2 : Hid (Keeps (w.heap.size + 1 + 1 + 1) (fun W' => W'.ownsRow S2 49 3 (.slice (some ⟨S2, 0, none⟩) p.sems.length p.sems.length) p.sems.length (semK.flat p.sems)) (v5.setCell ⟨w.heap.size + 1 + 1, 6, none⟩ (.slice (some ⟨W4.heap.size, 0, none⟩) p.buffers.length p.buffers.length))) := keep_call HK2.out hcp5.bel
 clear HK2
 have HK2 := HZ2
 clear HZ2
 have HZ3 : Hid (Keeps (w.heap.size + 1 + 1 + 1) (fun W' => W'.ownsRow S3 138 2 (.slice (some ⟨S3, 0, none⟩) p.events.length p.events.length) p.events.length (eventK.flat p.events)) (v5.setCell ⟨w.heap.size + 1 + 1, 6, none⟩ (.slice (some ⟨W4.heap.size, 0, none⟩) p.buffers.length p.buffers.length))) := keep_call HK3.out hcp5.bel
 clear HK3
 have HK3 := HZ3
 clear HZ3
 have HZ4 : Hid (Keeps (w.heap.size + 1 + 1 + 1) (fun W' => W'.ownsRow S4 141 3 (.slice (some ⟨S4, 0, none⟩) p.boards.length p.boards.length) p.boards.length (boardK.flat p.boards)) (v5.setCell ⟨w.heap.size + 1 + 1, 6, none⟩ (.slice (some ⟨W4.heap.size, 0, none⟩) p.buffers.length p.buffers.length))) := keep_call HK4.out hcp5.bel
 clear HK4
 have HK4 := HZ4
 clear HZ4
 have HB5 : Hid (Btw W4.heap.size v5.heap.size (blk (some ⟨W4.heap.size, 0, none⟩) ++ o5.filterMap bufferN.kid) ∧ W4.heap.size ≤ v5.heap.size ∧ o5.map (fun x => bufferN.set x none 0) = p.buffers.map (fun x => bufferN.set x none 0)) := ⟨copy_btw hcp5, hcp5.bel.size, hcp5.alike⟩
 have HV5 : Hid (v5.heap.size = (v5.setCell ⟨w.heap.size + 1 + 1, 6, none⟩ (.slice (some ⟨W4.heap.size, 0, none⟩) p.buffers.length p.buffers.length)).heap.size) := by show _ = _; simp [World.setCell]
 have hvar := (HT4.out.below hcp5.bel).var
 have d5 : v5.cell? ⟨w.heap.size + 1 + 1, 6, none⟩ = some (.slice none 0 0) := by simp [World.cell?, hvar]
 have f5 : v5.frozen? ⟨w.heap.size + 1 + 1, 6, none⟩ = false := by simp [World.frozen?, hvar]
 clear hvar hcp5
 have m5 : (v5.setCell ⟨w.heap.size + 1 + 1, 6, none⟩ (.slice (some ⟨W4.heap.size, 0, none⟩) p.buffers.length p.buffers.length)).cell? ⟨w.heap.size, 7, none⟩ = some (.slice p.portA p.ports.length p.portC) := by have := HT5.out.src; simp [World.cell?, this, PartD.cells]
 go_wp2_with fail
 generalize v5.setCell ⟨w.heap.size + 1 + 1, 6, none⟩ (.slice (some ⟨W4.heap.size, 0, none⟩) p.buffers.length p.buffers.length) = W5 at *
 clear m5 d5 f5 HT4
 generalize hS5 : W4.heap.size = S5 at *
 have HG5 : Hid (W4.heap.size = S5 ∧ v5.heap.size = W5.heap.size) := ⟨hS5, HV5.out⟩
 clear hS5 HV5
 refine (toSPort_l p.portA p.ports p.portC W5 HS.out.nPort (fun x hx => (HS.out.ports x hx).1) (HC.out.ports.below HT5.out.bel)).mono ?_
 rintro e v6 ⟨rfl, o6, hcp6⟩
 have HT6 : Hid (ToP w (v6.setCell ⟨w.heap.size + 1 + 1, 7, none⟩ (.slice (some ⟨W5.heap.size, 0, none⟩) p.ports.length p.ports.length)) p #[.int .i64 p.id, .int .i64 p.next, .slice (some ⟨S1, 0, none⟩) p.procs.length p.procs.length, .slice (some ⟨S2, 0, none⟩) p.sems.length p.sems.length, .slice (some ⟨S3, 0, none⟩) p.events.length p.events.length, .slice (some ⟨S4, 0, none⟩) p.boards.length p.boards.length, .slice (some ⟨S5, 0, none⟩) p.buffers.length p.buffers.length, .slice (some ⟨W5.heap.size, 0, none⟩) p.ports.length p.ports.length]) := (HT5.out.below hcp6.bel).set 7 _
 have HK6 : Hid (Keeps (w.heap.size + 1 + 1 + 1) (fun W' => W'.ownsRow W5.heap.size 61 5 (.slice (some ⟨W5.heap.size, 0, none⟩) p.ports.length p.ports.length) p.ports.length (portK.flat o6) ∧ ∀ x ∈ o6, portN.Mine W' W5.heap.size x) (v6.setCell ⟨w.heap.size + 1 + 1, 7, none⟩ (.slice (some ⟨W5.heap.size, 0, none⟩) p.ports.length p.ports.length))) := keep_call (copy_keeps hcp6 (lo := w.heap.size + 1 + 1 + 1) HT5.out.lt) (Below.refl _ _)
 have HZ1 : Hid (Keeps (w.heap.size + 1 + 1 + 1) (fun W' => W'.ownsRow S1 43 12 (.slice (some ⟨S1, 0, none⟩) p.procs.length p.procs.length) p.procs.length (procK.flat o1) ∧ ∀ x ∈ o1, procN.Mine W' S1 x) (v6.setCell ⟨w.heap.size + 1 + 1, 7, none⟩ (.slice (some ⟨W5.heap.size, 0, none⟩) p.ports.length p.ports.length))) := keep_call HK1.out hcp6.bel
 clear HK1
 have HK1 := HZ1
 clear HZ1
 have HZ2 : Hid (Keeps (w.heap.size + 1 + 1 + 1) (fun W' => W'.ownsRow S2 49 3 (.slice (some ⟨S2, 0, none⟩) p.sems.length p.sems.length) p.sems.length (semK.flat p.sems)) (v6.setCell ⟨w.heap.size + 1 + 1, 7, none⟩ (.slice (some ⟨W5.heap.size, 0, none⟩) p.ports.length p.ports.length))) := keep_call HK2.out hcp6.bel
 clear HK2
 have HK2 := HZ2
 clear HZ2
 have HZ3 : Hid (Keeps (w.heap.size + 1 + 1 + 1) (fun W' => W'.ownsRow S3 138 2 (.slice (some ⟨S3, 0, none⟩) p.events.length p.events.length) p.events.length (eventK.flat p.events)) (v6.setCell ⟨w.heap.size + 1 + 1, 7, none⟩ (.slice (some ⟨W5.heap.size, 0, none⟩) p.ports.length p.ports.length))) := keep_call HK3.out hcp6.bel
 clear HK3
 have HK3 := HZ3
 clear HZ3
 have HZ4 : Hid (Keeps (w.heap.size + 1 + 1 + 1) (fun W' => W'.ownsRow S4 141 3 (.slice (some ⟨S4, 0, none⟩) p.boards.length p.boards.length) p.boards.length (boardK.flat p.boards)) (v6.setCell ⟨w.heap.size + 1 + 1, 7, none⟩ (.slice (some ⟨W5.heap.size, 0, none⟩) p.ports.length p.ports.length))) := keep_call HK4.out hcp6.bel
 clear HK4
 have HK4 := HZ4
 clear HZ4
 have HZ5 : Hid (Keeps (w.heap.size + 1 + 1 + 1) (fun W' => W'.ownsRow S5 144 3 (.slice (some ⟨S5, 0, none⟩) p.buffers.length p.buffers.length) p.buffers.length (bufferK.flat o5) ∧ ∀ x ∈ o5, bufferN.Mine W' S5 x) (v6.setCell ⟨w.heap.size + 1 + 1, 7, none⟩ (.slice (some ⟨W5.heap.size, 0, none⟩) p.ports.length p.ports.length))) := keep_call HK5.out hcp6.bel
 clear HK5
 have HK5 := HZ5
 clear HZ5
 have HB6 : Hid (Btw W5.heap.size v6.heap.size (blk (some ⟨W5.heap.size, 0, none⟩) ++ o6.filterMap portN.kid) ∧ W5.heap.size ≤ v6.heap.size ∧ o6.map (fun x => portN.set x none 0) = p.ports.map (fun x => portN.set x none 0)) := ⟨copy_btw hcp6, hcp6.bel.size, hcp6.alike⟩
 have HV6 : Hid (v6.heap.size = (v6.setCell ⟨w.heap.size + 1 + 1, 7, none⟩ (.slice (some ⟨W5.heap.size, 0, none⟩) p.ports.length p.ports.length)).heap.size) := by show _ = _; simp [World.setCell]
 have hvar := (HT5.out.below hcp6.bel).var
 have d6 : v6.cell? ⟨w.heap.size + 1 + 1, 7, none⟩ = some (.slice none 0 0) := by simp [World.cell?, hvar]
 have f6 : v6.frozen? ⟨w.heap.size + 1 + 1, 7, none⟩ = false := by simp [World.frozen?, hvar]
 clear hvar hcp6
 have hvar := HT6.out.var
 have hres := HT6.out.res
 have x0 : (v6.setCell ⟨w.heap.size + 1 + 1, 7, none⟩ (.slice (some ⟨W5.heap.size, 0, none⟩) p.ports.length p.ports.length)).cell? ⟨w.heap.size + 1 + 1, 0, none⟩ = some (.int .i64 p.id) := by simp [World.cell?, hvar]
 have y0 : (v6.setCell ⟨w.heap.size + 1 + 1, 7, none⟩ (.slice (some ⟨W5.heap.size, 0, none⟩) p.ports.length p.ports.length)).cell? ⟨w.heap.size + 1, 0, none⟩ = some (.int .i64 0) := by simp [World.cell?, hres]
 have z0 : (v6.setCell ⟨w.heap.size + 1 + 1, 7, none⟩ (.slice (some ⟨W5.heap.size, 0, none⟩) p.ports.length p.ports.length)).frozen? ⟨w.heap.size + 1, 0, none⟩ = false := by simp [World.frozen?, hres]
 have x1 : (v6.setCell ⟨w.heap.size + 1 + 1, 7, none⟩ (.slice (some ⟨W5.heap.size, 0, none⟩) p.ports.length p.ports.length)).cell? ⟨w.heap.size + 1 + 1, 1, none⟩ = some (.int .i64 p.next) := by simp [World.cell?, hvar]
 have y1 : (v6.setCell ⟨w.heap.size + 1 + 1, 7, none⟩ (.slice (some ⟨W5.heap.size, 0, none⟩) p.ports.length p.ports.length)).cell? ⟨w.heap.size + 1, 1, none⟩ = some (.int .i64 0) := by simp [World.cell?, hres]
 have z1 : (v6.setCell ⟨w.heap.size + 1 + 1, 7, none⟩ (.slice (some ⟨W5.heap.size, 0, none⟩) p.ports.length p.ports.length)).frozen? ⟨w.heap.size + 1, 1, none⟩ = false := by simp [World.frozen?, hres]
 have x2 : (v6.setCell ⟨w.heap.size + 1 + 1, 7, none⟩ (.slice (some ⟨W5.heap.size, 0, none⟩) p.ports.length p.ports.length)).cell? ⟨w.heap.size + 1 + 1, 2, none⟩ = some (.slice (some ⟨S1, 0, none⟩) p.procs.length p.procs.length) := by simp [World.cell?, hvar]
 have y2 : (v6.setCell ⟨w.heap.size + 1 + 1, 7, none⟩ (.slice (some ⟨W5.heap.size, 0, none⟩) p.ports.length p.ports.length)).cell? ⟨w.heap.size + 1, 2, none⟩ = some (.slice none 0 0) := by simp [World.cell?, hres]
 have z2 : (v6.setCell ⟨w.heap.size + 1 + 1, 7, none⟩ (.slice (some ⟨W5.heap.size, 0, none⟩) p.ports.length p.ports.length)).frozen? ⟨w.heap.size + 1, 2, none⟩ = false := by simp [World.frozen?, hres]
 have x3 : (v6.setCell ⟨w.heap.size + 1 + 1, 7, none⟩ (.slice (some ⟨W5.heap.size, 0, none⟩) p.ports.length p.ports.length)).cell? ⟨w.heap.size + 1 + 1, 3, none⟩ = some (.slice (some ⟨S2, 0, none⟩) p.sems.length p.sems.length) := by simp [World.cell?, hvar]
 have y3 : (v6.setCell ⟨w.heap.size + 1 + 1, 7, none⟩ (.slice (some ⟨W5.heap.size, 0, none⟩) p.ports.length p.ports.length)).cell? ⟨w.heap.size + 1, 3, none⟩ = some (.slice none 0 0) := by simp [World.cell?, hres]
 have z3 : (v6.setCell ⟨w.heap.size + 1 + 1, 7, none⟩ (.slice (some ⟨W5.heap.size, 0, none⟩) p.ports.length p.ports.length)).frozen? ⟨w.heap.size + 1, 3, none⟩ = false := by simp [World.frozen?, hres]
 have x4 : (v6.setCell ⟨w.heap.size + 1 + 1, 7, none⟩ (.slice (some ⟨W5.heap.size, 0, none⟩) p.ports.length p.ports.length)).cell? ⟨w.heap.size + 1 + 1, 4, none⟩ = some (.slice (some ⟨S3, 0, none⟩) p.events.length p.events.length) := by simp [World.cell?, hvar]
 have y4 : (v6.setCell ⟨w.heap.size + 1 + 1, 7, none⟩ (.slice (some ⟨W5.heap.size, 0, none⟩) p.ports.length p.ports.length)).cell? ⟨w.heap.size + 1, 4, none⟩ = some (.slice none 0 0) := by simp [World.cell?, hres]
 have z4 : (v6.setCell ⟨w.heap.size + 1 + 1, 7, none⟩ (.slice (some ⟨W5.heap.size, 0, none⟩) p.ports.length p.ports.length)).frozen? ⟨w.heap.size + 1, 4, none⟩ = false := by simp [World.frozen?, hres]
 have x5 : (v6.setCell ⟨w.heap.size + 1 + 1, 7, none⟩ (.slice (some ⟨W5.heap.size, 0, none⟩) p.ports.length p.ports.length)).cell? ⟨w.heap.size + 1 + 1, 5, none⟩ = some (.slice (some ⟨S4, 0, none⟩) p.boards.length p.boards.length) := by simp [World.cell?, hvar]
 have y5 : (v6.setCell ⟨w.heap.size + 1 + 1, 7, none⟩ (.slice (some ⟨W5.heap.size, 0, none⟩) p.ports.length p.ports.length)).cell? ⟨w.heap.size + 1, 5, none⟩ = some (.slice none 0 0) := by simp [World.cell?, hres]
 have z5 : (v6.setCell ⟨w.heap.size + 1 + 1, 7, none⟩ (.slice (some ⟨W5.heap.size, 0, none⟩) p.ports.length p.ports.length)).frozen? ⟨w.heap.size + 1, 5, none⟩ = false := by simp [World.frozen?, hres]
 have x6 : (v6.setCell ⟨w.heap.size + 1 + 1, 7, none⟩ (.slice (some ⟨W5.heap.size, 0, none⟩) p.ports.length p.ports.length)).cell? ⟨w.heap.size + 1 + 1, 6, none⟩ = some (.slice (some ⟨S5, 0, none⟩) p.buffers.length p.buffers.length) := by simp [World.cell?, hvar]
 have y6 : (v6.setCell ⟨w.heap.size + 1 + 1, 7, none⟩ (.slice (some ⟨W5.heap.size, 0, none⟩) p.ports.length p.ports.length)).cell? ⟨w.heap.size + 1, 6, none⟩ = some (.slice none 0 0) := by simp [World.cell?, hres]
 have z6 : (v6.setCell ⟨w.heap.size + 1 + 1, 7, none⟩ (.slice (some ⟨W5.heap.size, 0, none⟩) p.ports.length p.ports.length)).frozen? ⟨w.heap.size + 1, 6, none⟩ = false := by simp [World.frozen?, hres]
 have x7 : (v6.setCell ⟨w.heap.size + 1 + 1, 7, none⟩ (.slice (some ⟨W5.heap.size, 0, none⟩) p.ports.length p.ports.length)).cell? ⟨w.heap.size + 1 + 1, 7, none⟩ = some (.slice (some ⟨W5.heap.size, 0, none⟩) p.ports.length p.ports.length) := by simp [World.cell?, hvar]
 have y7 : (v6.setCell ⟨w.heap.size + 1 + 1, 7, none⟩ (.slice (some ⟨W5.heap.size, 0, none⟩) p.ports.length p.ports.length)).cell? ⟨w.heap.size + 1, 7, none⟩ = some (.slice none 0 0) := by simp [World.cell?, hres]
 have z7 : (v6.setCell ⟨w.heap.size + 1 + 1, 7, none⟩ (.slice (some ⟨W5.heap.size, 0, none⟩) p.ports.length p.ports.length)).frozen? ⟨w.heap.size + 1, 7, none⟩ = false := by simp [World.frozen?, hres]
 clear hvar hres
 go_wp2_with fail
 have h9 := setAllW_full (vs := [.int .i64 p.id, .int .i64 p.next, .slice (some ⟨S1, 0, none⟩) p.procs.length p.procs.length, .slice (some ⟨S2, 0, none⟩) p.sems.length p.sems.length, .slice (some ⟨S3, 0, none⟩) p.events.length p.events.length, .slice (some ⟨S4, 0, none⟩) p.boards.length p.boards.length, .slice (some ⟨S5, 0, none⟩) p.buffers.length p.buffers.length, .slice (some ⟨W5.heap.size, 0, none⟩) p.ports.length p.ports.length]) HT6.out.res rfl
 have h10 : Below w.heap.size w (setAllW (v6.setCell ⟨w.heap.size + 1 + 1, 7, none⟩ (.slice (some ⟨W5.heap.size, 0, none⟩) p.ports.length p.ports.length)) (w.heap.size + 1) 0 [.int .i64 p.id, .int .i64 p.next, .slice (some ⟨S1, 0, none⟩) p.procs.length p.procs.length, .slice (some ⟨S2, 0, none⟩) p.sems.length p.sems.length, .slice (some ⟨S3, 0, none⟩) p.events.length p.events.length, .slice (some ⟨S4, 0, none⟩) p.boards.length p.boards.length, .slice (some ⟨S5, 0, none⟩) p.buffers.length p.buffers.length, .slice (some ⟨W5.heap.size, 0, none⟩) p.ports.length p.ports.length]) := setAllW_below _ (by omega) HT6.out.bel
 have h11 : PartOwn (setAllW (v6.setCell ⟨w.heap.size + 1 + 1, 7, none⟩ (.slice (some ⟨W5.heap.size, 0, none⟩) p.ports.length p.ports.length)) (w.heap.size + 1) 0 [.int .i64 p.id, .int .i64 p.next, .slice (some ⟨S1, 0, none⟩) p.procs.length p.procs.length, .slice (some ⟨S2, 0, none⟩) p.sems.length p.sems.length, .slice (some ⟨S3, 0, none⟩) p.events.length p.events.length, .slice (some ⟨S4, 0, none⟩) p.boards.length p.boards.length, .slice (some ⟨S5, 0, none⟩) p.buffers.length p.buffers.length, .slice (some ⟨W5.heap.size, 0, none⟩) p.ports.length p.ports.length]) (w.heap.size + 1 + 1 + 1) (⟨p.id, p.next, o1, some ⟨S1, 0, none⟩, p.procs.length, p.sems, some ⟨S2, 0, none⟩, p.sems.length, p.events, some ⟨S3, 0, none⟩, p.events.length, p.boards, some ⟨S4, 0, none⟩, p.boards.length, o5, some ⟨S5, 0, none⟩, p.buffers.length, o6, some ⟨W5.heap.size, 0, none⟩, p.ports.length⟩ : PartD) ∧ (⟨p.id, p.next, o1, some ⟨S1, 0, none⟩, p.procs.length, p.sems, some ⟨S2, 0, none⟩, p.sems.length, p.events, some ⟨S3, 0, none⟩, p.events.length, p.boards, some ⟨S4, 0, none⟩, p.boards.length, o5, some ⟨S5, 0, none⟩, p.buffers.length, o6, some ⟨W5.heap.size, 0, none⟩, p.ports.length⟩ : PartD).pure = p.pure :=
  toPart_end ⟨HLO.out, by have := HG1.out.2; have := HG2.out.1; omega, by have := HG2.out.2; have := HG3.out.1; omega, by have := HG3.out.2; have := HG4.out.1; omega, by have := HG4.out.2; have := HG5.out.1; omega, by have := HG5.out.2; omega⟩
   ⟨HB1.out.2.1, HB2.out.2, HB3.out.2, HB4.out.2, HB5.out.2.1, HB6.out.2.1⟩
   (keep_end HK1.out) HB1.out.1 (keep_end HK2.out) HB2.out.1 (keep_end HK3.out) HB3.out.1 (keep_end HK4.out) HB4.out.1 (keep_end HK5.out) HB5.out.1 (keep_end HK6.out) HB6.out.1 HB1.out.2.2 HB5.out.2.2 HB6.out.2.2
 have l1 := copy_len HB1.out.2.2
 have l5 := copy_len HB5.out.2.2
 have l6 := copy_len HB6.out.2.2
 simp only [setAllW, Nat.reduceAdd, Nat.zero_add] at h9 h10 h11
 refine bodyPost_ret (v := .agg #[.int .i64 p.id, .int .i64 p.next, .slice (some ⟨S1, 0, none⟩) p.procs.length p.procs.length, .slice (some ⟨S2, 0, none⟩) p.sems.length p.sems.length, .slice (some ⟨S3, 0, none⟩) p.events.length p.events.length, .slice (some ⟨S4, 0, none⟩) p.boards.length p.boards.length, .slice (some ⟨S5, 0, none⟩) p.buffers.length p.buffers.length, .slice (some ⟨W5.heap.size, 0, none⟩) p.ports.length p.ports.length]) (results_cell_row Tryz.results59 _ _ (w.heap.size + 1) _ _ (0, 0) _ rfl h9 Tryz.underlying32 rfl (by kernel_rfl)) rfl ?_
 exact ⟨(⟨p.id, p.next, o1, some ⟨S1, 0, none⟩, p.procs.length, p.sems, some ⟨S2, 0, none⟩, p.sems.length, p.events, some ⟨S3, 0, none⟩, p.events.length, p.boards, some ⟨S4, 0, none⟩, p.boards.length, o5, some ⟨S5, 0, none⟩, p.buffers.length, o6, some ⟨W5.heap.size, 0, none⟩, p.ports.length⟩ : PartD), by simp only [l1, l5, l6], h11.1.lower (by omega), h11.2, h10⟩
set_option maxRecDepth 100000 in
set_option maxHeartbeats 8000000 in
theorem eqPart_l (p q : PartD) (w : World) (hs : p.pure.Small) (hp : q.pure = p.pure) (h : PartD.At w p) (h' : PartD.At w q) :
  Calls Tryz.prog 60 #[.agg p.cells, .agg q.cells] w fun e w' => e = .returned (.bool true) ∧ Below w.heap.size w w' := by
 have e0 : q.id = p.id := congrArg PartP.id hp
 have e1 : q.next = p.next := congrArg PartP.next hp
 have g1 : q.procs.map (·.toProcP) = p.procs.map (·.toProcP) := congrArg PartP.procs hp
 have g2 : q.sems = p.sems := congrArg PartP.sems hp
 have g3 : q.events = p.events := congrArg PartP.events hp
 have g4 : q.boards = p.boards := congrArg PartP.boards hp
 have g5 : q.buffers.map (·.toBufferP) = p.buffers.map (·.toBufferP) := congrArg PartP.buffers hp
 have g6 : q.ports.map (·.toPortP) = p.ports.map (·.toPortP) := congrArg PartP.ports hp
 have l1 : q.procs.length = p.procs.length := by have := congrArg List.length g1; simpa using this
 have l5 : q.buffers.length = p.buffers.length := by have := congrArg List.length g5; simpa using this
 have l6 : q.ports.length = p.ports.length := by have := congrArg List.length g6; simpa using this
 have hq : q.cells = #[.int .i64 p.id, .int .i64 p.next, .slice q.procA p.procs.length q.procC, .slice q.semA p.sems.length q.semC, .slice q.eventA p.events.length q.eventC, .slice q.boardA p.boards.length q.boardC, .slice q.bufferA p.buffers.length q.bufferC, .slice q.portA p.ports.length q.portC] := by unfold PartD.cells; rw [e0, e1, l1, g2, g3, g4, l5, l6]
 have HX : Hid (((w.alloc (.cells #[.int .i64 p.id, .int .i64 p.next, .slice p.procA p.procs.length p.procC, .slice p.semA p.sems.length p.semC, .slice p.eventA p.events.length p.eventC, .slice p.boardA p.boards.length p.boardC, .slice p.bufferA p.buffers.length p.bufferC, .slice p.portA p.ports.length p.portC] 32)).alloc (.cells #[.int .i64 p.id, .int .i64 p.next, .slice q.procA p.procs.length q.procC, .slice q.semA p.sems.length q.semC, .slice q.eventA p.events.length q.eventC, .slice q.boardA p.boards.length q.boardC, .slice q.bufferA p.buffers.length q.bufferC, .slice q.portA p.ports.length q.portC] 32)).heap[w.heap.size]? = some (.cells #[.int .i64 p.id, .int .i64 p.next, .slice p.procA p.procs.length p.procC, .slice p.semA p.sems.length p.semC, .slice p.eventA p.events.length p.eventC, .slice p.boardA p.boards.length p.boardC, .slice p.bufferA p.buffers.length p.bufferC, .slice p.portA p.ports.length p.portC] 32 (0, 0)) ∧ ((w.alloc (.cells #[.int .i64 p.id, .int .i64 p.next, .slice p.procA p.procs.length p.procC, .slice p.semA p.sems.length p.semC, .slice p.eventA p.events.length p.eventC, .slice p.boardA p.boards.length p.boardC, .slice p.bufferA p.buffers.length p.bufferC, .slice p.portA p.ports.length p.portC] 32)).alloc (.cells #[.int .i64 p.id, .int .i64 p.next, .slice q.procA p.procs.length q.procC, .slice q.semA p.sems.length q.semC, .slice q.eventA p.events.length q.eventC, .slice q.boardA p.boards.length q.boardC, .slice q.bufferA p.buffers.length q.bufferC, .slice q.portA p.ports.length q.portC] 32)).heap[w.heap.size + 1]? = some (.cells #[.int .i64 p.id, .int .i64 p.next, .slice q.procA p.procs.length q.procC, .slice q.semA p.sems.length q.semC, .slice q.eventA p.events.length q.eventC, .slice q.boardA p.boards.length q.boardC, .slice q.bufferA p.buffers.length q.bufferC, .slice q.portA p.ports.length q.portC] 32 (0, 0)) ∧ Below w.heap.size w ((w.alloc (.cells #[.int .i64 p.id, .int .i64 p.next, .slice p.procA p.procs.length p.procC, .slice p.semA p.sems.length p.semC, .slice p.eventA p.events.length p.eventC, .slice p.boardA p.boards.length p.boardC, .slice p.bufferA p.buffers.length p.bufferC, .slice p.portA p.ports.length p.portC] 32)).alloc (.cells #[.int .i64 p.id, .int .i64 p.next, .slice q.procA p.procs.length q.procC, .slice q.semA p.sems.length q.semC, .slice q.eventA p.events.length q.eventC, .slice q.boardA p.boards.length q.boardC, .slice q.bufferA p.buffers.length q.bufferC, .slice q.portA p.ports.length q.portC] 32))) := ⟨(alloc2_facts _ _ _).1, (alloc2_facts _ _ _).2, alloc2_below _ _ _⟩
 have HL : Hid (PartD.At w p ∧ PartD.At w q ∧ p.pure.Small) := ⟨h, h', hs⟩
 have HG : Hid (q.procs.map (·.toProcP) = p.procs.map (·.toProcP) ∧ q.buffers.map (·.toBufferP) = p.buffers.map (·.toBufferP) ∧ q.ports.map (·.toPortP) = p.ports.map (·.toPortP) ∧ q.sems = p.sems ∧ q.events = p.events ∧ q.boards = p.boards) := ⟨g1, g5, g6, g2, g3, g4⟩
 rw [hq]
 clear h h' hs hp hq g1 g2 g3 g4 g5 g6 l1 l5 l6 e0 e1
 unfold PartD.cells
 go_enter Tryz.func60, Tryz.ntmps60
 go_wp2_with fail
 generalize (w.alloc (.cells #[.int .i64 p.id, .int .i64 p.next, .slice p.procA p.procs.length p.procC, .slice p.semA p.sems.length p.semC, .slice p.eventA p.events.length p.eventC, .slice p.boardA p.boards.length p.boardC, .slice p.bufferA p.buffers.length p.bufferC, .slice p.portA p.ports.length p.portC] 32)).alloc (.cells #[.int .i64 p.id, .int .i64 p.next, .slice q.procA p.procs.length q.procC, .slice q.semA p.sems.length q.semC, .slice q.eventA p.events.length q.eventC, .slice q.boardA p.boards.length q.boardC, .slice q.bufferA p.buffers.length q.bufferC, .slice q.portA p.ports.length q.portC] 32) = W0 at *
 refine (eqSProc_l p.procA q.procA p.procs q.procs p.procC q.procC W0 (small_short HL.out.2.2).procs (fun x hx => (small_proc HL.out.2.2 hx).1.prog) HG.out.1 (HL.out.1.1.below HX.out.2.2) (HL.out.2.1.1.below HX.out.2.2)).mono ?_
 rintro e W1 ⟨rfl, hb1⟩
 have HY : Hid (W1.heap[w.heap.size]? = some (.cells #[.int .i64 p.id, .int .i64 p.next, .slice p.procA p.procs.length p.procC, .slice p.semA p.sems.length p.semC, .slice p.eventA p.events.length p.eventC, .slice p.boardA p.boards.length p.boardC, .slice p.bufferA p.buffers.length p.bufferC, .slice p.portA p.ports.length p.portC] 32 (0, 0)) ∧ W1.heap[w.heap.size + 1]? = some (.cells #[.int .i64 p.id, .int .i64 p.next, .slice q.procA p.procs.length q.procC, .slice q.semA p.sems.length q.semC, .slice q.eventA p.events.length q.eventC, .slice q.boardA p.boards.length q.boardC, .slice q.bufferA p.buffers.length q.bufferC, .slice q.portA p.ports.length q.portC] 32 (0, 0)) ∧ Below w.heap.size w W1) := ⟨(hb1.block _ (Array.getElem?_eq_some_iff.1 HX.out.1).1).trans HX.out.1, (hb1.block _ (Array.getElem?_eq_some_iff.1 HX.out.2.1).1).trans HX.out.2.1, HX.out.2.2.trans (hb1.mono HX.out.2.2.size)⟩
 clear hb1 HX
 have HX := HY
 clear HY
 have m1 : W1.cell? ⟨w.heap.size, 3, none⟩ = some (.slice p.semA p.sems.length p.semC) := by have := HX.out.1; simp [World.cell?, this]
 have n1 : W1.cell? ⟨w.heap.size + 1, 3, none⟩ = some (.slice q.semA p.sems.length q.semC) := by have := HX.out.2.1; simp [World.cell?, this]
 go_wp2_with fail
 clear m1 n1
 refine (eqSSem_l p.semA q.semA p.sems p.semC q.semC W1 (small_short HL.out.2.2).sems (HL.out.1.2.1.below HX.out.2.2) (by have h5 := HL.out.2.1.2.1.below HX.out.2.2; rw [HG.out.2.2.2.1] at h5; exact h5)).mono ?_
 rintro e W2 ⟨rfl, hb2⟩
 have HY : Hid (W2.heap[w.heap.size]? = some (.cells #[.int .i64 p.id, .int .i64 p.next, .slice p.procA p.procs.length p.procC, .slice p.semA p.sems.length p.semC, .slice p.eventA p.events.length p.eventC, .slice p.boardA p.boards.length p.boardC, .slice p.bufferA p.buffers.length p.bufferC, .slice p.portA p.ports.length p.portC] 32 (0, 0)) ∧ W2.heap[w.heap.size + 1]? = some (.cells #[.int .i64 p.id, .int .i64 p.next, .slice q.procA p.procs.length q.procC, .slice q.semA p.sems.length q.semC, .slice q.eventA p.events.length q.eventC, .slice q.boardA p.boards.length q.boardC, .slice q.bufferA p.buffers.length q.bufferC, .slice q.portA p.ports.length q.portC] 32 (0, 0)) ∧ Below w.heap.size w W2) := ⟨(hb2.block _ (Array.getElem?_eq_some_iff.1 HX.out.1).1).trans HX.out.1, (hb2.block _ (Array.getElem?_eq_some_iff.1 HX.out.2.1).1).trans HX.out.2.1, HX.out.2.2.trans (hb2.mono HX.out.2.2.size)⟩
 clear hb2 HX
 have HX := HY
 clear HY
 have m2 : W2.cell? ⟨w.heap.size, 4, none⟩ = some (.slice p.eventA p.events.length p.eventC) := by have := HX.out.1; simp [World.cell?, this]
 have n2 : W2.cell? ⟨w.heap.size + 1, 4, none⟩ = some (.slice q.eventA p.events.length q.eventC) := by have := HX.out.2.1; simp [World.cell?, this]
 go_wp2_with fail
 clear m2 n2
 refine (eqSEvent_l p.eventA q.eventA p.events p.eventC q.eventC W2 (small_short HL.out.2.2).events (HL.out.1.2.2.1.below HX.out.2.2) (by have h5 := HL.out.2.1.2.2.1.below HX.out.2.2; rw [HG.out.2.2.2.2.1] at h5; exact h5)).mono ?_
 rintro e W3 ⟨rfl, hb3⟩
 have HY : Hid (W3.heap[w.heap.size]? = some (.cells #[.int .i64 p.id, .int .i64 p.next, .slice p.procA p.procs.length p.procC, .slice p.semA p.sems.length p.semC, .slice p.eventA p.events.length p.eventC, .slice p.boardA p.boards.length p.boardC, .slice p.bufferA p.buffers.length p.bufferC, .slice p.portA p.ports.length p.portC] 32 (0, 0)) ∧ W3.heap[w.heap.size + 1]? = some (.cells #[.int .i64 p.id, .int .i64 p.next, .slice q.procA p.procs.length q.procC, .slice q.semA p.sems.length q.semC, .slice q.eventA p.events.length q.eventC, .slice q.boardA p.boards.length q.boardC, .slice q.bufferA p.buffers.length q.bufferC, .slice q.portA p.ports.length q.portC] 32 (0, 0)) ∧ Below w.heap.size w W3) := ⟨(hb3.block _ (Array.getElem?_eq_some_iff.1 HX.out.1).1).trans HX.out.1, (hb3.block _ (Array.getElem?_eq_some_iff.1 HX.out.2.1).1).trans HX.out.2.1, HX.out.2.2.trans (hb3.mono HX.out.2.2.size)⟩
 clear hb3 HX
 have HX := HY
 clear HY
 have m3 : W3.cell? ⟨w.heap.size, 5, none⟩ = some (.slice p.boardA p.boards.length p.boardC) := by have := HX.out.1; simp [World.cell?, this]
 have n3 : W3.cell? ⟨w.heap.size + 1, 5, none⟩ = some (.slice q.boardA p.boards.length q.boardC) := by have := HX.out.2.1; simp [World.cell?, this]
 go_wp2_with fail
 clear m3 n3
 refine (eqSBoard_l p.boardA q.boardA p.boards p.boardC q.boardC W3 (small_short HL.out.2.2).boards (HL.out.1.2.2.2.1.below HX.out.2.2) (by have h5 := HL.out.2.1.2.2.2.1.below HX.out.2.2; rw [HG.out.2.2.2.2.2] at h5; exact h5)).mono ?_
 rintro e W4 ⟨rfl, hb4⟩
 have HY : Hid (W4.heap[w.heap.size]? = some (.cells #[.int .i64 p.id, .int .i64 p.next, .slice p.procA p.procs.length p.procC, .slice p.semA p.sems.length p.semC, .slice p.eventA p.events.length p.eventC, .slice p.boardA p.boards.length p.boardC, .slice p.bufferA p.buffers.length p.bufferC, .slice p.portA p.ports.length p.portC] 32 (0, 0)) ∧ W4.heap[w.heap.size + 1]? = some (.cells #[.int .i64 p.id, .int .i64 p.next, .slice q.procA p.procs.length q.procC, .slice q.semA p.sems.length q.semC, .slice q.eventA p.events.length q.eventC, .slice q.boardA p.boards.length q.boardC, .slice q.bufferA p.buffers.length q.bufferC, .slice q.portA p.ports.length q.portC] 32 (0, 0)) ∧ Below w.heap.size w W4) := ⟨(hb4.block _ (Array.getElem?_eq_some_iff.1 HX.out.1).1).trans HX.out.1, (hb4.block _ (Array.getElem?_eq_some_iff.1 HX.out.2.1).1).trans HX.out.2.1, HX.out.2.2.trans (hb4.mono HX.out.2.2.size)⟩
 clear hb4 HX
 have HX := HY
 clear HY
 have m4 : W4.cell? ⟨w.heap.size, 6, none⟩ = some (.slice p.bufferA p.buffers.length p.bufferC) := by have := HX.out.1; simp [World.cell?, this]
 have n4 : W4.cell? ⟨w.heap.size + 1, 6, none⟩ = some (.slice q.bufferA p.buffers.length q.bufferC) := by have := HX.out.2.1; simp [World.cell?, this]
 go_wp2_with fail
 clear m4 n4
 refine (eqSBuffer_l p.bufferA q.bufferA p.buffers q.buffers p.bufferC q.bufferC W4 (small_short HL.out.2.2).buffers (fun x hx => (small_buffer HL.out.2.2 hx).2.1) HG.out.2.1 (HL.out.1.2.2.2.2.1.below HX.out.2.2) (HL.out.2.1.2.2.2.2.1.below HX.out.2.2)).mono ?_
 rintro e W5 ⟨rfl, hb5⟩
 have HY : Hid (W5.heap[w.heap.size]? = some (.cells #[.int .i64 p.id, .int .i64 p.next, .slice p.procA p.procs.length p.procC, .slice p.semA p.sems.length p.semC, .slice p.eventA p.events.length p.eventC, .slice p.boardA p.boards.length p.boardC, .slice p.bufferA p.buffers.length p.bufferC, .slice p.portA p.ports.length p.portC] 32 (0, 0)) ∧ W5.heap[w.heap.size + 1]? = some (.cells #[.int .i64 p.id, .int .i64 p.next, .slice q.procA p.procs.length q.procC, .slice q.semA p.sems.length q.semC, .slice q.eventA p.events.length q.eventC, .slice q.boardA p.boards.length q.boardC, .slice q.bufferA p.buffers.length q.bufferC, .slice q.portA p.ports.length q.portC] 32 (0, 0)) ∧ Below w.heap.size w W5) := ⟨(hb5.block _ (Array.getElem?_eq_some_iff.1 HX.out.1).1).trans HX.out.1, (hb5.block _ (Array.getElem?_eq_some_iff.1 HX.out.2.1).1).trans HX.out.2.1, HX.out.2.2.trans (hb5.mono HX.out.2.2.size)⟩
 clear hb5 HX
 have HX := HY
 clear HY
 have m5 : W5.cell? ⟨w.heap.size, 7, none⟩ = some (.slice p.portA p.ports.length p.portC) := by have := HX.out.1; simp [World.cell?, this]
 have n5 : W5.cell? ⟨w.heap.size + 1, 7, none⟩ = some (.slice q.portA p.ports.length q.portC) := by have := HX.out.2.1; simp [World.cell?, this]
 go_wp2_with fail
 clear m5 n5
 refine (eqSPort_l p.portA q.portA p.ports q.ports p.portC q.portC W5 (small_short HL.out.2.2).ports (fun x hx => (small_port HL.out.2.2 hx).2.1) HG.out.2.2.1 (HL.out.1.2.2.2.2.2.below HX.out.2.2) (HL.out.2.1.2.2.2.2.2.below HX.out.2.2)).mono ?_
 rintro e W6 ⟨rfl, hb6⟩
 have HY : Hid (W6.heap[w.heap.size]? = some (.cells #[.int .i64 p.id, .int .i64 p.next, .slice p.procA p.procs.length p.procC, .slice p.semA p.sems.length p.semC, .slice p.eventA p.events.length p.eventC, .slice p.boardA p.boards.length p.boardC, .slice p.bufferA p.buffers.length p.bufferC, .slice p.portA p.ports.length p.portC] 32 (0, 0)) ∧ W6.heap[w.heap.size + 1]? = some (.cells #[.int .i64 p.id, .int .i64 p.next, .slice q.procA p.procs.length q.procC, .slice q.semA p.sems.length q.semC, .slice q.eventA p.events.length q.eventC, .slice q.boardA p.boards.length q.boardC, .slice q.bufferA p.buffers.length q.bufferC, .slice q.portA p.ports.length q.portC] 32 (0, 0)) ∧ Below w.heap.size w W6) := ⟨(hb6.block _ (Array.getElem?_eq_some_iff.1 HX.out.1).1).trans HX.out.1, (hb6.block _ (Array.getElem?_eq_some_iff.1 HX.out.2.1).1).trans HX.out.2.1, HX.out.2.2.trans (hb6.mono HX.out.2.2.size)⟩
 clear hb6 HX
 have HX := HY
 clear HY
 go_wp2
 go_ret
 exact ⟨rfl, HX.out.2.2⟩
end Go.Proofs.YtkbcplnlehdjfaaGreat
