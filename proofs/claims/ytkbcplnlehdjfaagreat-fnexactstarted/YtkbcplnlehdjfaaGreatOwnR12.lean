/- What the proof leans on, part 12: PSpec3, PartOwn, MkB, MkN. -/
import Derived.Test.YtkbcplnlehdjfaaGreatOwnR5
import Derived.Test.YtkbcplnlehdjfaaGreatOwnR7
import Derived.Test.YtkbcplnlehdjfaaGreatOwnR10
import Derived.Test.YtkbcplnlehdjfaaGreatOwnR11

namespace Go.Proofs.YtkbcplnlehdjfaaGreat
open Go.RowKit
attribute [local go_sem ↓] Go.wp_at_zero Go.wp_at_succ
def specOk (p : PartD) (x : ProcD) : Bool := procB x.toProcP && turnB p.next x.toProcP && waitB p.pure x.toProcP
theorem procOkB_spec (p : PartD) (x : ProcD) : procOkB p.pure x.toProcP = (inB x.id 1 1000 && specOk p x) := by
 show (inB x.id 1 1000 && procB x.toProcP && turnB p.next x.toProcP && waitB p.pure x.toProcP) = _
 simp only [specOk, Bool.and_assoc]
def ApartD (l : List ProcD) : Prop := (l.map (·.since)).Pairwise (fun a b => ¬ (a = b ∧ 0 < b))
theorem apart_snoc {l : List ProcD} {k : Nat} {x : ProcD} (hx : l[k]? = some x) (h : ApartD (l.take k)) (hn : ∀ m y, m < k → l[m]? = some y → ¬ (y.since = x.since ∧ 0 < x.since)) : ApartD (l.take (k + 1)) := by
 rw [take_up hx]
 unfold ApartD
 rw [List.map_append, List.pairwise_append]
 refine ⟨h, List.pairwise_singleton _ _, fun a ha b hb => ?_⟩
 simp only [List.map_cons, List.map_nil, List.mem_cons, List.not_mem_nil, or_false] at hb
 subst hb
 obtain ⟨y, hy, rfl⟩ := List.mem_map.1 ha
 obtain ⟨m, hm⟩ := List.mem_iff_getElem?.1 hy
 rw [List.getElem?_take] at hm
 split at hm
 ·rename_i hlt
  exact hn m y hlt hm
 ·cases hm
theorem apart_not {l : List ProcD} {i m : Nat} {x y : ProcD} (hx : l[i]? = some x) (hy : l[m]? = some y) (hm : m < i) (h : y.since = x.since ∧ 0 < x.since) : ¬ ApartD l := fun ha => by
 unfold ApartD at ha
 rw [List.pairwise_map, List.pairwise_iff_getElem] at ha
 obtain ⟨hi, rfl⟩ := List.getElem?_eq_some_iff.1 hx
 obtain ⟨hj, rfl⟩ := List.getElem?_eq_some_iff.1 hy
 exact ha m i hj hi hm h
theorem partR_iff (p : PartD) : PartR p.pure ↔ (inB p.id 1 6 = true ∧ inB p.next 1 1000000000 = true ∧ p.procs.length ≤ 6 ∧ thingsOk p = true ∧ thingsB (fun x : ProcD => x.id) (specOk p) 0 p.procs = true ∧ ApartD p.procs) := by
 have e1 : thingsB (·.id) (fun x => procB x && turnB p.pure.next x && waitB p.pure x) 0 p.pure.procs = thingsB (fun x : ProcD => x.id) (specOk p) 0 p.procs := thingsB_map _ _ _ _ _
 have e2 : p.pure.procs.length = p.procs.length := by simp [PartD.pure]
 have e3 : thingsB (·.id) bufferB 0 p.pure.buffers = thingsB (fun x : BufferD => x.id) (fun x => bufferB x.toBufferP) 0 p.buffers := thingsB_map _ _ _ _ _
 have e4 : thingsB (·.id) portB 0 p.pure.ports = thingsB (fun x : PortD => x.id) (fun x => portB x.toPortP) 0 p.ports := thingsB_map _ _ _ _ _
 have e5 : p.pure.buffers.length = p.buffers.length := by simp [PartD.pure]
 have e6 : p.pure.ports.length = p.ports.length := by simp [PartD.pure]
 have e7 : Apart p.pure.procs ↔ ApartD p.procs := by
  unfold Apart ApartD
  show (((p.procs.map (·.toProcP))).map (·.since)).Pairwise _ ↔ _
  rw [List.map_map]
  rfl
 constructor
 ·intro h
  have hp := h.procs
  rw [e1] at hp
  have hb := h.buffers
  rw [e3] at hb
  have hq := h.ports
  rw [e4] at hq
  have n1 := h.nProc
  have n2 := h.nBuffer
  have n3 := h.nPort
  rw [e2] at n1
  rw [e5] at n2
  rw [e6] at n3
  have hs : thingsB (fun x : SemD => x.id) semB 0 p.sems = true := h.sems
  have he : thingsB (fun x : EventD => x.id) eventB 0 p.events = true := h.events
  have hd : thingsB (fun x : BoardD => x.id) boardB 0 p.boards = true := h.boards
  have l1 : p.sems.length ≤ 5 := h.nSem
  have l2 : p.events.length ≤ 5 := h.nEvent
  have l3 : p.boards.length ≤ 5 := h.nBoard
  refine ⟨h.id, h.next, n1, ?_, hp, e7.1 h.apart⟩
  simp only [thingsOk, hs, he, hd, hb, hq, decide_eq_true l1, decide_eq_true l2, decide_eq_true l3, decide_eq_true n2, decide_eq_true n3, Bool.and_self]
 ·rintro ⟨h1, h2, h3, h4, h5, h6⟩
  simp only [thingsOk, Bool.and_eq_true, decide_eq_true_eq] at h4
  obtain ⟨⟨⟨⟨⟨⟨⟨⟨⟨t1, t2⟩, t3⟩, t4⟩, t5⟩, d1⟩, d2⟩, d3⟩, d4⟩, d5⟩ := h4
  exact ⟨h1, h2, by rw [e2]; exact h3, d1, d2, d3, by rw [e5]; exact d4, by rw [e6]; exact d5, by rw [e1]; exact h5, t1, t2, t3, by rw [e3]; exact t4, by rw [e4]; exact t5, e7.2 h6⟩
/-- All that the walk reads at the k-th process. -/
def SpecS (w : World) (p : PartD) (x : ProcD) (gs k : Nat) (pre : World → Prop) (w' : World) : Prop := ((w'.cell? ⟨w.heap.size, 0, none⟩ = some (.int .i64 p.id) ∧ w'.cell? ⟨w.heap.size, 1, none⟩ = some (.int .i64 p.next) ∧ w'.cell? ⟨w.heap.size, 2, none⟩ = some (.slice (some ⟨gs, 0, none⟩) p.procs.length p.procC) ∧ w'.cell? ⟨w.heap.size, 3, none⟩ = some (.slice p.semA p.sems.length p.semC) ∧ w'.cell? ⟨w.heap.size, 4, none⟩ = some (.slice p.eventA p.events.length p.eventC) ∧ w'.cell? ⟨w.heap.size, 5, none⟩ = some (.slice p.boardA p.boards.length p.boardC) ∧ w'.cell? ⟨w.heap.size, 6, none⟩ = some (.slice p.bufferA p.buffers.length p.bufferC) ∧ w'.cell? ⟨w.heap.size, 7, none⟩ = some (.slice p.portA p.ports.length p.portC)) ∧ (w'.cell? ⟨gs, k * 12, none⟩ = some (.int .i64 x.id) ∧ w'.cell? ⟨gs, k * 12 + 1, none⟩ = some (.int .i64 x.prio) ∧ w'.cell? ⟨gs, k * 12 + 2, none⟩ = some (.slice x.progA x.prog.length x.progC) ∧ w'.cell? ⟨gs, k * 12 + 3, none⟩ = some (.int .i64 x.state) ∧ w'.cell? ⟨gs, k * 12 + 4, none⟩ = some (.int .i64 x.pc) ∧ w'.cell? ⟨gs, k * 12 + 5, none⟩ = some (.int .i64 x.left) ∧ w'.cell? ⟨gs, k * 12 + 6, none⟩ = some (.int .i64 x.wake) ∧ w'.cell? ⟨gs, k * 12 + 7, none⟩ = some (.int .i64 x.on) ∧ w'.cell? ⟨gs, k * 12 + 8, none⟩ = some (.string x.held) ∧ w'.cell? ⟨gs, k * 12 + 9, none⟩ = some (.string x.got) ∧ w'.cell? ⟨gs, k * 12 + 10, none⟩ = some (.int .i64 x.code) ∧ w'.cell? ⟨gs, k * 12 + 11, none⟩ = some (.int .i64 x.since)) ∧ pre w') ∧ Hid (PartBox w' w.heap.size p ∧ PartD.At w' p ∧ Below w.heap.size w w')
theorem specS_of {w w' : World} {p : PartD} {x : ProcD} {gs k : Nat} {pre : World → Prop} (ha : p.procA = some ⟨gs, 0, none⟩) (hx : p.procs[k]? = some x) (h : PartBox w' w.heap.size p ∧ PartD.At w' p ∧ Below w.heap.size w w') (hp : pre w') : SpecS w p x gs k pre w' := by
 refine ⟨⟨?_, ?_, hp⟩, h⟩
 ·have := h.1.cells
  rw [ha] at this
  exact this
 ·obtain ⟨g, e, hat⟩ := proc_at h.2.1.1 hx
  rw [ha] at e
  cases e
  exact hat
/-- The number of the one ahead. -/
def PrevS (gs j : Nat) (y : ProcD) (w' : World) : Prop := w'.cell? ⟨gs, j * 12, none⟩ = some (.int .i64 y.id)
theorem prevS_of {w' : World} {p : PartD} {gs j : Nat} {y : ProcD} (ha : p.procA = some ⟨gs, 0, none⟩) (hy : p.procs[j]? = some y) (h : PartD.At w' p) : PrevS gs j y w' := by
 obtain ⟨g, e, hat⟩ := proc_at h.1 hy
 rw [ha] at e
 cases e
 exact hat.1
set_option maxRecDepth 100000 in
set_option maxHeartbeats 16000000 in
theorem specPartOk_any (p : PartD) (w : World) (hf : p.Fit) (hs : ∀ x ∈ p.procs, x.Short) (h : PartD.At w p) :
  Calls Tryz.prog 54 #[.agg p.cells] w fun e w' => e = .returned (.bool (partB p.pure)) ∧ Below w.heap.size w w' := by
 have HB : Hid (PartBox (w.alloc (.cells p.cells 32)) w.heap.size p ∧ PartD.At (w.alloc (.cells p.cells 32)) p ∧ Below w.heap.size w (w.alloc (.cells p.cells 32))) := ⟨heap_alloc_new _ _, h.below ((Below.refl _ _).alloc (Nat.le_refl _) _), (Below.refl _ _).alloc (Nat.le_refl _) _⟩
 have HFT : Hid (p.Fit ∧ ∀ x ∈ p.procs, x.Short) := ⟨hf, hs⟩
 have hpl := hf.short.procs
 clear h hf hs
 obtain ⟨m0, m1, m2, m3, m4, m5, m6, m7⟩ := HB.out.1.cells
 unfold PartD.cells at *
 go_enter Tryz.func54, Tryz.ntmps54
 go_wp2_with fail
 generalize w.alloc (.cells #[.int .i64 p.id, .int .i64 p.next, .slice p.procA p.procs.length p.procC, .slice p.semA p.sems.length p.semC, .slice p.eventA p.events.length p.eventC, .slice p.boardA p.boards.length p.boardC, .slice p.bufferA p.buffers.length p.bufferC, .slice p.portA p.ports.length p.portC] 32) = W at *
 refine (l1In_any p.id 1 6 _).mono ?_
 rintro e w9 ⟨rfl, hw9⟩
 rw [hw9]
 clear hw9 w9
 cases h1 : inB p.id 1 6
 ·have hz : True := trivial
  have HN : Hid (partB p.pure = false) := partB_false fun hr => by have := ((partR_iff p).1 hr).1; rw [h1] at this; cases this
  clear h1
  go_wp2
  go_ret
  exact ⟨ret_bool HN.out.symm, HB.out.2.2⟩
 have H1 : Hid (inB p.id 1 6 = true) := h1
 clear h1
 go_wp2_with fail
 refine (l1In_any p.next 1 1000000000 _).mono ?_
 rintro e w9 ⟨rfl, hw9⟩
 rw [hw9]
 clear hw9 w9
 cases h2 : inB p.next 1 1000000000
 ·have hz : True := trivial
  have HN : Hid (partB p.pure = false) := partB_false fun hr => by have := ((partR_iff p).1 hr).2.1; rw [h2] at this; cases this
  clear h2
  go_wp2
  go_ret
  exact ⟨ret_bool HN.out.symm, HB.out.2.2⟩
 have H2 : Hid (inB p.next 1 1000000000 = true) := h2
 clear h2
 by_cases h3 : (6 : Int) < (p.procs.length : Int)
 ·have hz : True := trivial
  have HN : Hid (partB p.pure = false) := partB_false fun hr => by have := ((partR_iff p).1 hr).2.2.1; omega
  go_wp2
  go_ret
  exact ⟨ret_bool HN.out.symm, HB.out.2.2⟩
 have H3 : Hid (p.procs.length ≤ 6) := by show p.procs.length ≤ 6; omega
 go_wp2_with fail
 refine (l3Things_any p W HFT.out.1 HB.out.2.1).mono ?_
 rintro e W1 ⟨rfl, hb1⟩
 have HB1 : Hid (PartBox W1 w.heap.size p ∧ PartD.At W1 p ∧ Below w.heap.size w W1) := ⟨HB.out.1.below hb1, HB.out.2.1.below hb1, HB.out.2.2.trans (hb1.mono HB.out.2.2.size)⟩
 clear hb1 m0 m1 m2 m3 m4 m5 m6 m7 HB
 cases h4 : thingsOk p
 ·have hz : True := trivial
  have HN : Hid (partB p.pure = false) := partB_false fun hr => by have := ((partR_iff p).1 hr).2.2.2.1; rw [h4] at this; cases this
  clear h4
  go_wp2
  go_ret
  exact ⟨ret_bool HN.out.symm, HB1.out.2.2⟩
 have H4 : Hid (thingsOk p = true) := h4
 clear h4
 go_wp2_with fail
 go_loopw [3] (fun i wr => ∃ k : Nat, k ≤ p.procs.length ∧ i = .int .i64 k ∧ Hid (thingsB (fun x : ProcD => x.id) (specOk p) 0 (p.procs.take k) = true ∧ ApartD (p.procs.take k) ∧ Below W1.heap.size W1 wr)) (fun i _ => p.procs.length - (intOf i).toNat)
 case atStart => exact ⟨0, Nat.zero_le _, rfl, ⟨rfl, List.Pairwise.nil, Below.refl _ _⟩⟩
 case round =>
  obtain ⟨k, hk, rfl, HA⟩ := hrel
  have HB2 : Hid (PartBox wr w.heap.size p ∧ PartD.At wr p ∧ Below w.heap.size w wr) := ⟨HB1.out.1.below HA.out.2.2, HB1.out.2.1.below HA.out.2.2, HB1.out.2.2.trans (HA.out.2.2.mono HB1.out.2.2.size)⟩
  obtain ⟨m0, m1, m2, m3, m4, m5, m6, m7⟩ := HB2.out.1.cells
  by_cases hlt : k < p.procs.length
  ·have i0 : (0 : Int) ≤ (k : Int) := by omega
   have i1 : (k : Int) < (p.procs.length : Int) := by omega
   obtain ⟨x, hx⟩ : ∃ x, p.procs[k]? = some x := ⟨_, List.getElem?_eq_getElem hlt⟩
   have hmem := List.mem_of_getElem? hx
   obtain ⟨gs, ha, hat⟩ := proc_at HB2.out.2.1.1 hx
   have HAX : Hid (p.procA = some ⟨gs, 0, none⟩ ∧ p.procs[k]? = some x) := ⟨ha, hx⟩
   have HXS : Hid (x.Short ∧ Row wr x.progA (opK.flat x.prog)) := ⟨HFT.out.2 x hmem, proc_prog HB2.out.2.1.1 hx⟩
   have HNX : Hid (1 ≤ p.next ∧ p.next ≤ 1000000000) := inB_iff.1 H2.out
   rw [ha] at m2
   clear hx hmem ha hat
   go_wp2_with fail
   cases hpo : procOkB p.pure x.toProcP
   ·have HPO : Hid (procOkB p.pure x.toProcP = false) := hpo
    have HN : Hid (partB p.pure = false) := partB_false fun hr => by have h9 := ((partR_iff p).1 hr).2.2.2.2.1; rw [things_no HAX.out.2 (fun hh => by have h8 := HPO.out; rw [procOkB_spec, hh.1, hh.2.2] at h8; cases h8)] at h9; cases h9
    clear hpo m0 m1 m2 m3 m4 m5 m6 m7
    refine tame_region (SpecS w p x gs k (fun _ => True)) (by kernel_rfl) (specS_of HAX.out.1 HAX.out.2 ⟨HB2.out.1, HB2.out.2.1, HB2.out.2.2.drew⟩ trivial) ?_
    iterate 6 (refine yl (v := ?_) ?_ ?_; rotate_left; (intro w0 hS0; obtain ⟨⟨⟨q0, q1, q2, q3, q4, q5, q6, q7⟩, ⟨x0, x1, x2, x3, x4, x5, x6, x7, x8, x9, x10, x11⟩, hpre⟩, hH⟩ := hS0; go_simp; try with_reducible rfl); simp only [pt, sb, s0, s1])
    refine cl (.bool false) 103 #[.agg #[.int .i64 p.id, .int .i64 p.next, .slice (some ⟨gs, 0, none⟩) p.procs.length p.procC, .slice p.semA p.sems.length p.semC, .slice p.eventA p.events.length p.eventC, .slice p.boardA p.boards.length p.boardC, .slice p.bufferA p.buffers.length p.bufferC, .slice p.portA p.ports.length p.portC], .agg #[.int .i64 x.id, .int .i64 x.prio, .slice x.progA x.prog.length x.progC, .int .i64 x.state, .int .i64 x.pc, .int .i64 x.left, .int .i64 x.wake, .int .i64 x.on, .string x.held, .string x.got, .int .i64 x.code, .int .i64 x.since]] ?_ ?_ ?_
    ·intro w0 hS0
     obtain ⟨⟨⟨q0, q1, q2, q3, q4, q5, q6, q7⟩, ⟨x0, x1, x2, x3, x4, x5, x6, x7, x8, x9, x10, x11⟩, hpre⟩, hH⟩ := hS0
     go_simp
     try with_reducible rfl
    ·intro w0 hS0
     have hq := hS0.2.out
     rw [show (Value.agg #[.int .i64 p.id, .int .i64 p.next, .slice (some ⟨gs, 0, none⟩) p.procs.length p.procC, .slice p.semA p.sems.length p.semC, .slice p.eventA p.events.length p.eventC, .slice p.boardA p.boards.length p.boardC, .slice p.bufferA p.buffers.length p.bufferC, .slice p.portA p.ports.length p.portC]) = .agg p.cells by unfold PartD.cells; rw [HAX.out.1]]
     refine (l3ProcOk_any p x w0 HFT.out.1.short HXS.out.1 HNX.out.1 HNX.out.2 hq.2.1 (proc_prog hq.2.1.1 HAX.out.2)).mono ?_
     rintro e w2 ⟨rfl, hb2⟩
     exact ⟨ret_bool HPO.out, specS_of HAX.out.1 HAX.out.2 ⟨hq.1.below hb2, hq.2.1.below hb2, hq.2.2.trans (hb2.mono hq.2.2.size)⟩ trivial⟩
    simp only [pt, sb, s0, s1]
    iterate 2 (refine yl (v := ?_) ?_ ?_; rotate_left; (intro w0 hS0; obtain ⟨⟨⟨q0, q1, q2, q3, q4, q5, q6, q7⟩, ⟨x0, x1, x2, x3, x4, x5, x6, x7, x8, x9, x10, x11⟩, hpre⟩, hH⟩ := hS0; go_simp; try with_reducible rfl); simp only [pt, sb, s0, s1])
    iterate 18 (refine nl ?_; simp only [pt, sb, s0, s1])
    (refine yl (v := ?_) ?_ ?_; rotate_left; (intro w0 hS0; obtain ⟨⟨⟨q0, q1, q2, q3, q4, q5, q6, q7⟩, ⟨x0, x1, x2, x3, x4, x5, x6, x7, x8, x9, x10, x11⟩, hpre⟩, hH⟩ := hS0; go_simp; try with_reducible rfl); simp only [pt, sb, s0, s1])
    refine tame_done (by kernel_rfl) ?_ _
    intro w1 hS1
    have HZ : Hid (Below w.heap.size w w1) := hS1.2.out.2.2
    clear hS1
    go_wp2
    go_ret
    exact ⟨ret_bool HN.out.symm, HZ.out⟩
   have HPO : Hid (procOkB p.pure x.toProcP = true) := hpo
   have HIN : Hid (inB x.id 1 1000 = true ∧ specOk p x = true) := by have h8 := HPO.out; rw [procOkB_spec, Bool.and_eq_true] at h8; exact h8
   clear hpo
   by_cases hk0 : k = 0
   ·have dk : decide (0 < k) = false := decide_eq_false (by omega)
    have HLT : Hid (lastOf (fun x : ProcD => x.id) 0 (p.procs.take k) < x.id) := by show _ < _; rw [hk0, last_none]; have := inB_iff.1 HIN.out.1; omega
    clear hk0 m0 m1 m2 m3 m4 m5 m6 m7
    refine tame_region (fun w' => SpecS w p x gs k (fun _ => True) w' ∧ Hid (Below wr.heap.size wr w')) (by kernel_rfl) ⟨specS_of HAX.out.1 HAX.out.2 ⟨HB2.out.1, HB2.out.2.1, HB2.out.2.2.drew⟩ trivial, (Below.refl _ _).drew⟩ ?_
    iterate 6 (refine yl (v := ?_) ?_ ?_; rotate_left; (intro w0 hS0; obtain ⟨⟨⟨⟨q0, q1, q2, q3, q4, q5, q6, q7⟩, ⟨x0, x1, x2, x3, x4, x5, x6, x7, x8, x9, x10, x11⟩, hpre⟩, hH⟩, hH2⟩ := hS0; go_simp; try with_reducible rfl); simp only [pt, sb, s0, s1])
    refine cl (.bool true) 103 #[.agg #[.int .i64 p.id, .int .i64 p.next, .slice (some ⟨gs, 0, none⟩) p.procs.length p.procC, .slice p.semA p.sems.length p.semC, .slice p.eventA p.events.length p.eventC, .slice p.boardA p.boards.length p.boardC, .slice p.bufferA p.buffers.length p.bufferC, .slice p.portA p.ports.length p.portC], .agg #[.int .i64 x.id, .int .i64 x.prio, .slice x.progA x.prog.length x.progC, .int .i64 x.state, .int .i64 x.pc, .int .i64 x.left, .int .i64 x.wake, .int .i64 x.on, .string x.held, .string x.got, .int .i64 x.code, .int .i64 x.since]] ?_ ?_ ?_
    ·intro w0 hS0
     obtain ⟨⟨⟨⟨q0, q1, q2, q3, q4, q5, q6, q7⟩, ⟨x0, x1, x2, x3, x4, x5, x6, x7, x8, x9, x10, x11⟩, hpre⟩, hH⟩, hH2⟩ := hS0
     go_simp
     try with_reducible rfl
    ·intro w0 hS0
     have hq := hS0.1.2.out
     rw [show (Value.agg #[.int .i64 p.id, .int .i64 p.next, .slice (some ⟨gs, 0, none⟩) p.procs.length p.procC, .slice p.semA p.sems.length p.semC, .slice p.eventA p.events.length p.eventC, .slice p.boardA p.boards.length p.boardC, .slice p.bufferA p.buffers.length p.bufferC, .slice p.portA p.ports.length p.portC]) = .agg p.cells by unfold PartD.cells; rw [HAX.out.1]]
     refine (l3ProcOk_any p x w0 HFT.out.1.short HXS.out.1 HNX.out.1 HNX.out.2 hq.2.1 (proc_prog hq.2.1.1 HAX.out.2)).mono ?_
     rintro e w2 ⟨rfl, hb2⟩
     exact ⟨ret_bool HPO.out, specS_of HAX.out.1 HAX.out.2 ⟨hq.1.below hb2, hq.2.1.below hb2, hq.2.2.trans (hb2.mono hq.2.2.size)⟩ trivial, hS0.2.out.trans (hb2.mono hS0.2.out.size)⟩
    simp only [pt, sb, s0, s1]
    iterate 5 (refine yl (v := ?_) ?_ ?_; rotate_left; (intro w0 hS0; obtain ⟨⟨⟨⟨q0, q1, q2, q3, q4, q5, q6, q7⟩, ⟨x0, x1, x2, x3, x4, x5, x6, x7, x8, x9, x10, x11⟩, hpre⟩, hH⟩, hH2⟩ := hS0; go_simp; try with_reducible rfl); simp only [pt, sb, s0, s1])
    iterate 14 (refine nl ?_; simp only [pt, sb, s0, s1])
    iterate 2 (refine yl (v := ?_) ?_ ?_; rotate_left; (intro w0 hS0; obtain ⟨⟨⟨⟨q0, q1, q2, q3, q4, q5, q6, q7⟩, ⟨x0, x1, x2, x3, x4, x5, x6, x7, x8, x9, x10, x11⟩, hpre⟩, hH⟩, hH2⟩ := hS0; go_simp; try with_reducible rfl); simp only [pt, sb, s0, s1])
    refine tame_done (by kernel_rfl) ?_ _
    intro w1 hS1
    have HZ : Hid (PartBox w1 w.heap.size p ∧ PartD.At w1 p ∧ Below w.heap.size w w1) := hS1.1.2.out
    have HZW : Hid (Below wr.heap.size wr w1) := hS1.2.out
    clear hS1
    obtain ⟨z0, z1, z2, z3, z4, z5, z6, z7⟩ := HZ.out.1.cells
    go_wp2_with fail
    clear z0 z1 z2 z3 z4 z5 z6 z7
    go_loopw [4] (fun i wr => ∃ n : Nat, n ≤ k ∧ i = .int .i64 n ∧ Hid ((∀ m y, m < n → p.procs[m]? = some y → ¬ (y.since = x.since ∧ 0 < x.since)) ∧ Below w1.heap.size w1 wr)) (fun i _ => k - (intOf i).toNat)
    case atStart => exact ⟨0, Nat.zero_le _, rfl, ⟨fun m y hm => absurd hm (by omega), Below.refl _ _⟩⟩
    case round =>
     obtain ⟨n, hn, rfl, HI⟩ := hrel
     rename World => wi
     have HZ2 : Hid (PartBox wi w.heap.size p ∧ PartD.At wi p ∧ Below w.heap.size w wi) := ⟨HZ.out.1.below HI.out.2, HZ.out.2.1.below HI.out.2, HZ.out.2.2.trans (HI.out.2.mono HZ.out.2.2.size)⟩
     obtain ⟨z0, z1, z2, z3, z4, z5, z6, z7⟩ := HZ2.out.1.cells
     rw [HAX.out.1] at z2
     by_cases hnk : n < k
     ·have j0' : (0 : Int) ≤ (n : Int) := by omega
      have j1' : (n : Int) < (p.procs.length : Int) := by omega
      have j2' : (n : Int) < ((k : Nat) : Int) := by omega
      obtain ⟨v, hv⟩ : ∃ v, p.procs[n]? = some v := ⟨_, List.getElem?_eq_getElem (by omega)⟩
      obtain ⟨g1, e1, hat1⟩ := proc_at HZ2.out.2.1.1 hv
      obtain ⟨g2, e2, hat2⟩ := proc_at HZ2.out.2.1.1 HAX.out.2
      rw [HAX.out.1] at e1 e2
      cases e1
      cases e2
      have d0 := hat1.2.2.2.2.2.2.2.2.2.2.2
      have d1 := hat2.2.2.2.2.2.2.2.2.2.2.2
      have HV : Hid (p.procs[n]? = some v) := hv
      clear hat1 hat2 hv
      by_cases hsi : v.since = x.since
      ·have es : (v.since == x.since) = true := by simp [hsi]
       have HSI : Hid (v.since = x.since) := hsi
       clear hsi
       by_cases hpos : 0 < x.since
       ·have dpos : decide (0 < x.since) = true := decide_eq_true hpos
        have HN : Hid (partB p.pure = false) := partB_false fun hr => absurd ((partR_iff p).1 hr).2.2.2.2.2 (apart_not HAX.out.2 HV.out hnk ⟨HSI.out, hpos⟩)
        go_wp2_with fail
        go_quiet (fail)
        go_wp2
        go_ret
        exact ⟨ret_bool HN.out.symm, below_drewN HZ2.out.2.2 _⟩
       have dpos : decide (0 < x.since) = false := decide_eq_false hpos
       have HNX2 : Hid (¬ (v.since = x.since ∧ 0 < x.since)) := fun hh => hpos hh.2
       clear hpos
       go_wp2_with fail
       go_quiet (fail)
       go_wp2
       go_roundw
       case rel => exact ⟨n + 1, by omega, by go_num, ⟨fun m y hm hy => by rcases Nat.lt_succ_iff_lt_or_eq.1 hm with h5 | h5; exact HI.out.1 m y h5 hy; subst h5; rw [HV.out] at hy; cases hy; exact HNX2.out, below_drewN HI.out.2 _⟩⟩
       case measure => simp [intOf]; omega
      have es : (v.since == x.since) = false := by simp [hsi]
      have HNX2 : Hid (¬ (v.since = x.since ∧ 0 < x.since)) := fun hh => hsi hh.1
      clear hsi
      go_wp2_with fail
      go_quiet (fail)
      go_wp2
      go_roundw
      case rel => exact ⟨n + 1, by omega, by go_num, ⟨fun m y hm hy => by rcases Nat.lt_succ_iff_lt_or_eq.1 hm with h5 | h5; exact HI.out.1 m y h5 hy; subst h5; rw [HV.out] at hy; cases hy; exact HNX2.out, below_drewN HI.out.2 _⟩⟩
      case measure => simp [intOf]; omega
     ·have j2' : ¬ (n : Int) < ((k : Nat) : Int) := by omega
      have en : n = k := by omega
      have HAP : Hid (ApartD (p.procs.take (k + 1))) := apart_snoc HAX.out.2 HA.out.2.1 (fun m y hm hy => HI.out.1 m y (by omega) hy)
      have HY : Hid (thingsB (fun x : ProcD => x.id) (specOk p) 0 (p.procs.take (k + 1)) = true) := things_yes HA.out.1 HAX.out.2 HIN.out.1 HLT.out HIN.out.2
      clear en
      have HE : Hid (Below W1.heap.size W1 wi) := HA.out.2.2.trans ((HZW.out.trans (HI.out.2.mono HZW.out.size)).mono HA.out.2.2.size)
      go_wp2
      go_roundw
      case rel => exact ⟨k + 1, by omega, by go_num, ⟨HY.out, HAP.out, HE.out⟩⟩
      case measure => simp [intOf]; omega
   obtain ⟨j, rfl⟩ : ∃ j, k = j + 1 := ⟨k - 1, by omega⟩
   obtain ⟨y, hy⟩ : ∃ y, p.procs[j]? = some y := ⟨_, List.getElem?_eq_getElem (by omega)⟩
   have j0 : (0 : Int) ≤ (j : Int) := by omega
   have j1 : (j : Int) < (p.procs.length : Int) := by omega
   have i2 : (0 : Int) ≤ (j : Int) + 1 := by omega
   have i3 : (j : Int) + 1 < (p.procs.length : Int) := by omega
   have wk : IntKind.i64.wrap (j : Int) = (j : Int) := by rw [IntKind.wrap_i64]; omega
   have HLA : Hid (lastOf (fun x : ProcD => x.id) 0 (p.procs.take (j + 1)) = y.id ∧ p.procs[j]? = some y) := ⟨lastOf_take hy 0, hy⟩
   clear hy hk0 m0 m1 m2 m3 m4 m5 m6 m7
   by_cases hle : x.id ≤ y.id
   ·have dp : decide (x.id ≤ y.id) = true := decide_eq_true hle
    have HN : Hid (partB p.pure = false) := partB_false fun hr => by have h9 := ((partR_iff p).1 hr).2.2.2.2.1; rw [things_no HAX.out.2 (fun hh => by have h8 := hh.2.1; rw [HLA.out.1] at h8; have h8 : y.id < x.id := h8; omega)] at h9; cases h9
    refine tame_region (fun w' => SpecS w p x gs (j + 1) (PrevS gs j y) w' ∧ Hid (Below wr.heap.size wr w')) (by kernel_rfl) ⟨specS_of HAX.out.1 HAX.out.2 ⟨HB2.out.1, HB2.out.2.1, HB2.out.2.2.drew⟩ (prevS_of HAX.out.1 HLA.out.2 HB2.out.2.1), (Below.refl _ _).drew⟩ ?_
    iterate 6 (refine yl (v := ?_) ?_ ?_; rotate_left; (intro w0 hS0; obtain ⟨⟨⟨⟨q0, q1, q2, q3, q4, q5, q6, q7⟩, ⟨x0, x1, x2, x3, x4, x5, x6, x7, x8, x9, x10, x11⟩, hpre⟩, hH⟩, hH2⟩ := hS0; unfold PrevS at hpre; go_simp; try with_reducible rfl); simp only [pt, sb, s0, s1])
    refine cl (.bool true) 103 #[.agg #[.int .i64 p.id, .int .i64 p.next, .slice (some ⟨gs, 0, none⟩) p.procs.length p.procC, .slice p.semA p.sems.length p.semC, .slice p.eventA p.events.length p.eventC, .slice p.boardA p.boards.length p.boardC, .slice p.bufferA p.buffers.length p.bufferC, .slice p.portA p.ports.length p.portC], .agg #[.int .i64 x.id, .int .i64 x.prio, .slice x.progA x.prog.length x.progC, .int .i64 x.state, .int .i64 x.pc, .int .i64 x.left, .int .i64 x.wake, .int .i64 x.on, .string x.held, .string x.got, .int .i64 x.code, .int .i64 x.since]] ?_ ?_ ?_
    ·intro w0 hS0
     obtain ⟨⟨⟨⟨q0, q1, q2, q3, q4, q5, q6, q7⟩, ⟨x0, x1, x2, x3, x4, x5, x6, x7, x8, x9, x10, x11⟩, hpre⟩, hH⟩, hH2⟩ := hS0; unfold PrevS at hpre
     go_simp
     try with_reducible rfl
    ·intro w0 hS0
     have hq := hS0.1.2.out
     rw [show (Value.agg #[.int .i64 p.id, .int .i64 p.next, .slice (some ⟨gs, 0, none⟩) p.procs.length p.procC, .slice p.semA p.sems.length p.semC, .slice p.eventA p.events.length p.eventC, .slice p.boardA p.boards.length p.boardC, .slice p.bufferA p.buffers.length p.bufferC, .slice p.portA p.ports.length p.portC]) = .agg p.cells by unfold PartD.cells; rw [HAX.out.1]]
     refine (l3ProcOk_any p x w0 HFT.out.1.short HXS.out.1 HNX.out.1 HNX.out.2 hq.2.1 (proc_prog hq.2.1.1 HAX.out.2)).mono ?_
     rintro e w2 ⟨rfl, hb2⟩
     exact ⟨ret_bool HPO.out, specS_of HAX.out.1 HAX.out.2 ⟨hq.1.below hb2, hq.2.1.below hb2, hq.2.2.trans (hb2.mono hq.2.2.size)⟩ (prevS_of HAX.out.1 HLA.out.2 (hq.2.1.below hb2)), hS0.2.out.trans (hb2.mono hS0.2.out.size)⟩
    simp only [pt, sb, s0, s1]
    iterate 21 (refine yl (v := ?_) ?_ ?_; rotate_left; (intro w0 hS0; obtain ⟨⟨⟨⟨q0, q1, q2, q3, q4, q5, q6, q7⟩, ⟨x0, x1, x2, x3, x4, x5, x6, x7, x8, x9, x10, x11⟩, hpre⟩, hH⟩, hH2⟩ := hS0; unfold PrevS at hpre; go_simp; try with_reducible rfl); simp only [pt, sb, s0, s1])
    refine tame_done (by kernel_rfl) ?_ _
    intro w1 hS1
    have HZ : Hid (Below w.heap.size w w1) := hS1.1.2.out.2.2
    clear hS1
    go_wp2
    go_ret
    exact ⟨ret_bool HN.out.symm, HZ.out⟩
   have dp : decide (x.id ≤ y.id) = false := decide_eq_false hle
   have HLT : Hid (lastOf (fun x : ProcD => x.id) 0 (p.procs.take (j + 1)) < x.id) := by show _ < _; rw [HLA.out.1]; show y.id < x.id; omega
   clear hle
   refine tame_region (fun w' => SpecS w p x gs (j + 1) (PrevS gs j y) w' ∧ Hid (Below wr.heap.size wr w')) (by kernel_rfl) ⟨specS_of HAX.out.1 HAX.out.2 ⟨HB2.out.1, HB2.out.2.1, HB2.out.2.2.drew⟩ (prevS_of HAX.out.1 HLA.out.2 HB2.out.2.1), (Below.refl _ _).drew⟩ ?_
   iterate 6 (refine yl (v := ?_) ?_ ?_; rotate_left; (intro w0 hS0; obtain ⟨⟨⟨⟨q0, q1, q2, q3, q4, q5, q6, q7⟩, ⟨x0, x1, x2, x3, x4, x5, x6, x7, x8, x9, x10, x11⟩, hpre⟩, hH⟩, hH2⟩ := hS0; unfold PrevS at hpre; go_simp; try with_reducible rfl); simp only [pt, sb, s0, s1])
   refine cl (.bool true) 103 #[.agg #[.int .i64 p.id, .int .i64 p.next, .slice (some ⟨gs, 0, none⟩) p.procs.length p.procC, .slice p.semA p.sems.length p.semC, .slice p.eventA p.events.length p.eventC, .slice p.boardA p.boards.length p.boardC, .slice p.bufferA p.buffers.length p.bufferC, .slice p.portA p.ports.length p.portC], .agg #[.int .i64 x.id, .int .i64 x.prio, .slice x.progA x.prog.length x.progC, .int .i64 x.state, .int .i64 x.pc, .int .i64 x.left, .int .i64 x.wake, .int .i64 x.on, .string x.held, .string x.got, .int .i64 x.code, .int .i64 x.since]] ?_ ?_ ?_
   ·intro w0 hS0
    obtain ⟨⟨⟨⟨q0, q1, q2, q3, q4, q5, q6, q7⟩, ⟨x0, x1, x2, x3, x4, x5, x6, x7, x8, x9, x10, x11⟩, hpre⟩, hH⟩, hH2⟩ := hS0; unfold PrevS at hpre
    go_simp
    try with_reducible rfl
   ·intro w0 hS0
    have hq := hS0.1.2.out
    rw [show (Value.agg #[.int .i64 p.id, .int .i64 p.next, .slice (some ⟨gs, 0, none⟩) p.procs.length p.procC, .slice p.semA p.sems.length p.semC, .slice p.eventA p.events.length p.eventC, .slice p.boardA p.boards.length p.boardC, .slice p.bufferA p.buffers.length p.bufferC, .slice p.portA p.ports.length p.portC]) = .agg p.cells by unfold PartD.cells; rw [HAX.out.1]]
    refine (l3ProcOk_any p x w0 HFT.out.1.short HXS.out.1 HNX.out.1 HNX.out.2 hq.2.1 (proc_prog hq.2.1.1 HAX.out.2)).mono ?_
    rintro e w2 ⟨rfl, hb2⟩
    exact ⟨ret_bool HPO.out, specS_of HAX.out.1 HAX.out.2 ⟨hq.1.below hb2, hq.2.1.below hb2, hq.2.2.trans (hb2.mono hq.2.2.size)⟩ (prevS_of HAX.out.1 HLA.out.2 (hq.2.1.below hb2)), hS0.2.out.trans (hb2.mono hS0.2.out.size)⟩
   simp only [pt, sb, s0, s1]
   iterate 21 (refine yl (v := ?_) ?_ ?_; rotate_left; (intro w0 hS0; obtain ⟨⟨⟨⟨q0, q1, q2, q3, q4, q5, q6, q7⟩, ⟨x0, x1, x2, x3, x4, x5, x6, x7, x8, x9, x10, x11⟩, hpre⟩, hH⟩, hH2⟩ := hS0; unfold PrevS at hpre; go_simp; try with_reducible rfl); simp only [pt, sb, s0, s1])
   refine tame_done (by kernel_rfl) ?_ _
   intro w1 hS1
   have HZ : Hid (PartBox w1 w.heap.size p ∧ PartD.At w1 p ∧ Below w.heap.size w w1) := hS1.1.2.out
   have HZW : Hid (Below wr.heap.size wr w1) := hS1.2.out
   clear hS1
   obtain ⟨z0, z1, z2, z3, z4, z5, z6, z7⟩ := HZ.out.1.cells
   go_wp2_with fail
   clear z0 z1 z2 z3 z4 z5 z6 z7
   go_loopw [4] (fun i wr => ∃ n : Nat, n ≤ (j + 1) ∧ i = .int .i64 n ∧ Hid ((∀ m y, m < n → p.procs[m]? = some y → ¬ (y.since = x.since ∧ 0 < x.since)) ∧ Below w1.heap.size w1 wr)) (fun i _ => (j + 1) - (intOf i).toNat)
   case atStart => exact ⟨0, Nat.zero_le _, rfl, ⟨fun m y hm => absurd hm (by omega), Below.refl _ _⟩⟩
   case round =>
    obtain ⟨n, hn, rfl, HI⟩ := hrel
    rename World => wi
    have HZ2 : Hid (PartBox wi w.heap.size p ∧ PartD.At wi p ∧ Below w.heap.size w wi) := ⟨HZ.out.1.below HI.out.2, HZ.out.2.1.below HI.out.2, HZ.out.2.2.trans (HI.out.2.mono HZ.out.2.2.size)⟩
    obtain ⟨z0, z1, z2, z3, z4, z5, z6, z7⟩ := HZ2.out.1.cells
    rw [HAX.out.1] at z2
    by_cases hnk : n < (j + 1)
    ·have j0' : (0 : Int) ≤ (n : Int) := by omega
     have j1' : (n : Int) < (p.procs.length : Int) := by omega
     have j2' : (n : Int) < (((j + 1) : Nat) : Int) := by omega
     obtain ⟨v, hv⟩ : ∃ v, p.procs[n]? = some v := ⟨_, List.getElem?_eq_getElem (by omega)⟩
     obtain ⟨g1, e1, hat1⟩ := proc_at HZ2.out.2.1.1 hv
     obtain ⟨g2, e2, hat2⟩ := proc_at HZ2.out.2.1.1 HAX.out.2
     rw [HAX.out.1] at e1 e2
     cases e1
     cases e2
     have d0 := hat1.2.2.2.2.2.2.2.2.2.2.2
     have d1 := hat2.2.2.2.2.2.2.2.2.2.2.2
     have HV : Hid (p.procs[n]? = some v) := hv
     clear hat1 hat2 hv
     by_cases hsi : v.since = x.since
     ·have es : (v.since == x.since) = true := by simp [hsi]
      have HSI : Hid (v.since = x.since) := hsi
      clear hsi
      by_cases hpos : 0 < x.since
      ·have dpos : decide (0 < x.since) = true := decide_eq_true hpos
       have HN : Hid (partB p.pure = false) := partB_false fun hr => absurd ((partR_iff p).1 hr).2.2.2.2.2 (apart_not HAX.out.2 HV.out hnk ⟨HSI.out, hpos⟩)
       go_wp2_with fail
       go_quiet (fail)
       go_wp2
       go_ret
       exact ⟨ret_bool HN.out.symm, below_drewN HZ2.out.2.2 _⟩
      have dpos : decide (0 < x.since) = false := decide_eq_false hpos
      have HNX2 : Hid (¬ (v.since = x.since ∧ 0 < x.since)) := fun hh => hpos hh.2
      clear hpos
      go_wp2_with fail
      go_quiet (fail)
      go_wp2
      go_roundw
      case rel => exact ⟨n + 1, by omega, by go_num, ⟨fun m y hm hy => by rcases Nat.lt_succ_iff_lt_or_eq.1 hm with h5 | h5; exact HI.out.1 m y h5 hy; subst h5; rw [HV.out] at hy; cases hy; exact HNX2.out, below_drewN HI.out.2 _⟩⟩
      case measure => simp [intOf]; omega
     have es : (v.since == x.since) = false := by simp [hsi]
     have HNX2 : Hid (¬ (v.since = x.since ∧ 0 < x.since)) := fun hh => hsi hh.1
     clear hsi
     go_wp2_with fail
     go_quiet (fail)
     go_wp2
     go_roundw
     case rel => exact ⟨n + 1, by omega, by go_num, ⟨fun m y hm hy => by rcases Nat.lt_succ_iff_lt_or_eq.1 hm with h5 | h5; exact HI.out.1 m y h5 hy; subst h5; rw [HV.out] at hy; cases hy; exact HNX2.out, below_drewN HI.out.2 _⟩⟩
     case measure => simp [intOf]; omega
    ·have j2' : ¬ (n : Int) < (((j + 1) : Nat) : Int) := by omega
     have en : n = (j + 1) := by omega
     have HAP : Hid (ApartD (p.procs.take ((j + 1) + 1))) := apart_snoc HAX.out.2 HA.out.2.1 (fun m y hm hy => HI.out.1 m y (by omega) hy)
     have HY : Hid (thingsB (fun x : ProcD => x.id) (specOk p) 0 (p.procs.take ((j + 1) + 1)) = true) := things_yes HA.out.1 HAX.out.2 HIN.out.1 HLT.out HIN.out.2
     clear en
     have HE : Hid (Below W1.heap.size W1 wi) := HA.out.2.2.trans ((HZW.out.trans (HI.out.2.mono HZW.out.size)).mono HA.out.2.2.size)
     go_wp2
     go_roundw
     case rel => exact ⟨(j + 1) + 1, by omega, by go_num, ⟨HY.out, HAP.out, HE.out⟩⟩
     case measure => simp [intOf]; omega
  ·have i1 : ¬ (k : Int) < (p.procs.length : Int) := by omega
   have ek : p.procs.take k = p.procs := List.take_of_length_le (by omega)
   have HY : Hid (partB p.pure = true) := partB_true ((partR_iff p).2 ⟨H1.out, H2.out, H3.out, H4.out, by have := HA.out.1; rwa [ek] at this, by have := HA.out.2.1; rwa [ek] at this⟩)
   clear ek
   go_wp2
   go_ret
   exact ⟨ret_bool HY.out.symm, HB2.out.2.2⟩
end Go.Proofs.YtkbcplnlehdjfaaGreat

/- A partition in memory of its own. (Made by mklwp.py.) -/
namespace Go.Proofs.YtkbcplnlehdjfaaGreat
open Go.RowKit
def blk (a : Option Addr) : List Nat := (a.map (·.block)).toList
theorem mem_blk {a : Option Addr} {g : Nat} : g ∈ blk a ↔ a.map (·.block) = some g := by
 unfold blk
 cases a <;> simp [eq_comm]
/-- The blocks of a partition's lists. -/
def PartD.blocks (p : PartD) : List Nat := blk p.procA ++ (p.procs.filterMap procN.kid ++ (blk p.semA ++ (blk p.eventA ++ (blk p.boardA ++ (blk p.bufferA ++ (p.buffers.filterMap bufferN.kid ++ (blk p.portA ++ (p.ports.filterMap portN.kid))))))))
/-- All its lists are its own, no two of them in one block. -/
structure PartOwn (w : World) (base : Nat) (p : PartD) : Prop where
 procs : w.ownsRow base 43 12 (.slice p.procA p.procs.length p.procC) p.procs.length (procK.flat p.procs)
 sems : w.ownsRow base 49 3 (.slice p.semA p.sems.length p.semC) p.sems.length (semK.flat p.sems)
 events : w.ownsRow base 138 2 (.slice p.eventA p.events.length p.eventC) p.events.length (eventK.flat p.events)
 boards : w.ownsRow base 141 3 (.slice p.boardA p.boards.length p.boardC) p.boards.length (boardK.flat p.boards)
 buffers : w.ownsRow base 144 3 (.slice p.bufferA p.buffers.length p.bufferC) p.buffers.length (bufferK.flat p.buffers)
 ports : w.ownsRow base 61 5 (.slice p.portA p.ports.length p.portC) p.ports.length (portK.flat p.ports)
 mineP : ∀ x ∈ p.procs, procN.Mine w base x
 mineF : ∀ x ∈ p.buffers, bufferN.Mine w base x
 mineQ : ∀ x ∈ p.ports, portN.Mine w base x
 nodup : p.blocks.Nodup
theorem own_same {w w' : World} {base n size cap : Nat} {e : TypeId} {a : Option Addr} {xs : List Value} (h : w.ownsRow base e size (.slice a n cap) n xs) (hs : ∀ g, g ∈ blk a → w'.heap[g]? = w.heap[g]?) : w'.ownsRow base e size (.slice a n cap) n xs := by
 obtain ⟨hl, h2⟩ := h
 refine ⟨hl, ?_⟩
 rcases h2 with h2 | ⟨g, c, cur, hv, h1, hg, r⟩
 ·exact .inl h2
 ·simp only [Value.slice.injEq] at hv
  exact .inr ⟨g, c, cur, by rw [hv.1, hv.2.2], h1, (hs g (by rw [mem_blk, hv.1]; rfl)).trans hg, r⟩
theorem own_lt {w : World} {base n size cap : Nat} {e : TypeId} {a : Option Addr} {xs : List Value} (h : w.ownsRow base e size (.slice a n cap) n xs) {g : Nat} (hg : g ∈ blk a) : base ≤ g ∧ g < w.heap.size := by
 rcases h.2 with ⟨hv, -⟩ | ⟨g', c, cur, hv, h1, hg', r⟩
 ·simp only [Value.slice.injEq] at hv
  rw [hv.1] at hg
  simp [blk] at hg
 ·simp only [Value.slice.injEq] at hv
  rw [mem_blk, hv.1] at hg
  simp only [Option.map_some, Option.some.injEq] at hg
  subst hg
  exact ⟨h1, (Array.getElem?_eq_some_iff.1 hg').1⟩
theorem mem_kids {α : Type} {N : Nest α} {l : List α} {g : Nat} : g ∈ l.filterMap N.kid ↔ ∃ x ∈ l, N.kid x = some g := List.mem_filterMap
theorem PartOwn.lt {w : World} {base : Nat} {p : PartD} (h : PartOwn w base p) : ∀ g ∈ p.blocks, base ≤ g ∧ g < w.heap.size := fun g hg => by
 simp only [PartD.blocks, List.mem_append] at hg
 rcases hg with hg | hg | hg | hg | hg | hg | hg | hg | hg
 ·exact own_lt h.procs hg
 ·obtain ⟨x, hx, hk⟩ := mem_kids.1 hg
  exact (h.mineP x hx).lt hk
 ·exact own_lt h.sems hg
 ·exact own_lt h.events hg
 ·exact own_lt h.boards hg
 ·exact own_lt h.buffers hg
 ·obtain ⟨x, hx, hk⟩ := mem_kids.1 hg
  exact (h.mineF x hx).lt hk
 ·exact own_lt h.ports hg
 ·obtain ⟨x, hx, hk⟩ := mem_kids.1 hg
  exact (h.mineQ x hx).lt hk
theorem PartOwn.same {w w' : World} {base : Nat} {p : PartD} (h : PartOwn w base p) (hs : ∀ g ∈ p.blocks, w'.heap[g]? = w.heap[g]?) : PartOwn w' base p := by
 have hm : ∀ g, (g ∈ blk p.procA ∨ g ∈ p.procs.filterMap procN.kid ∨ g ∈ blk p.semA ∨ g ∈ blk p.eventA ∨ g ∈ blk p.boardA ∨ g ∈ blk p.bufferA ∨ g ∈ p.buffers.filterMap bufferN.kid ∨ g ∈ blk p.portA ∨ g ∈ p.ports.filterMap portN.kid) → g ∈ p.blocks := fun g hg => by
  simp only [PartD.blocks, List.mem_append]
  exact hg
 exact ⟨own_same h.procs fun g hg => hs g (hm g (.inl hg)), own_same h.sems fun g hg => hs g (hm g (.inr (.inr (.inl hg)))), own_same h.events fun g hg => hs g (hm g (.inr (.inr (.inr (.inl hg))))), own_same h.boards fun g hg => hs g (hm g (.inr (.inr (.inr (.inr (.inl hg)))))), own_same h.buffers fun g hg => hs g (hm g (.inr (.inr (.inr (.inr (.inr (.inl hg))))))), own_same h.ports fun g hg => hs g (hm g (.inr (.inr (.inr (.inr (.inr (.inr (.inr (.inl hg))))))))), fun x hx => (h.mineP x hx).same fun g hk => hs g (hm g (.inr (.inl ((mem_kids.2 ⟨x, hx, hk⟩))))), fun x hx => (h.mineF x hx).same fun g hk => hs g (hm g (.inr (.inr (.inr (.inr (.inr (.inr (.inl ((mem_kids.2 ⟨x, hx, hk⟩)))))))))), fun x hx => (h.mineQ x hx).same fun g hk => hs g (hm g (.inr (.inr (.inr (.inr (.inr (.inr (.inr (.inr ((mem_kids.2 ⟨x, hx, hk⟩))))))))))), h.nodup⟩
theorem PartOwn.below {w w' : World} {base : Nat} {p : PartD} (h : PartOwn w base p) (hb : Below w.heap.size w w') : PartOwn w' base p := h.same fun g hg => hb.block g (h.lt g hg).2
theorem PartOwn.lower {w : World} {base base' : Nat} {p : PartD} (h : PartOwn w base p) (hb : base' ≤ base) : PartOwn w base' p :=
 ⟨own_low h.procs hb, own_low h.sems hb, own_low h.events hb, own_low h.boards hb, own_low h.buffers hb, own_low h.ports hb, fun x hx => (h.mineP x hx).low hb, fun x hx => (h.mineF x hx).low hb, fun x hx => (h.mineQ x hx).low hb, h.nodup⟩
theorem PartOwn.at {w : World} {base : Nat} {p : PartD} (h : PartOwn w base p) : PartD.At w p := by
 refine ⟨⟨own_row h.procs, fun x hx r hr => ?_⟩, ⟨own_row h.sems, fun x hx r hr => ?_⟩, ⟨own_row h.events, fun x hx r hr => ?_⟩, ⟨own_row h.boards, fun x hx r hr => ?_⟩, ⟨own_row h.buffers, fun x hx r hr => ?_⟩, ⟨own_row h.ports, fun x hx r hr => ?_⟩⟩
 ·simp only [procK, List.mem_cons, List.not_mem_nil, or_false] at hr
  subst hr
  exact (h.mineP x hx).row
 ·simp [semK] at hr
 ·simp [eventK] at hr
 ·simp [boardK] at hr
 ·simp only [bufferK, List.mem_cons, List.not_mem_nil, or_false] at hr
  subst hr
  exact (h.mineF x hx).row
 ·simp only [portK, List.mem_cons, List.not_mem_nil, or_false] at hr
  subst hr
  exact (h.mineQ x hx).row
/-- Not too great for a machine. -/
structure PartP.Small (p : PartP) : Prop where
 nProc : p.procs.length ≤ 1048576
 nSem : p.sems.length ≤ 1048576
 nEvent : p.events.length ≤ 1048576
 nBoard : p.boards.length ≤ 1048576
 nBuffer : p.buffers.length ≤ 1048576
 nPort : p.ports.length ≤ 1048576
 procs : ∀ x ∈ p.procs, (x.prog.length ≤ 1048576 ∧ (∀ o ∈ x.prog, o.2.2.2.size ≤ 1048576) ∧ x.held.size ≤ 1048576 ∧ x.got.size ≤ 1048576) ∧ (Lit.int .i64 x.id).wf = true ∧ (Lit.int .i64 x.on).wf = true ∧ (Lit.int .i64 x.since).wf = true
 sems : ∀ x ∈ p.sems, (Lit.int .i64 x.id).wf = true
 events : ∀ x ∈ p.events, (Lit.int .i64 x.id).wf = true
 boards : ∀ x ∈ p.boards, (Lit.int .i64 x.id).wf = true ∧ x.text.size ≤ 1048576
 buffers : ∀ x ∈ p.buffers, (Lit.int .i64 x.id).wf = true ∧ x.items.length ≤ 1048576 ∧ ∀ s ∈ x.items, s.size ≤ 1048576
 ports : ∀ x ∈ p.ports, (Lit.int .i64 x.id).wf = true ∧ x.items.length ≤ 1048576 ∧ ∀ s ∈ x.items, s.size ≤ 1048576
section
variable {p : PartD}
theorem small_short (h : p.pure.Small) : p.Short := by
 have h1 := h.nProc
 have h2 := h.nBuffer
 have h3 := h.nPort
 simp only [PartD.pure, List.length_map] at h1 h2 h3
 exact ⟨h1, h.nSem, h.nEvent, h.nBoard, h2, h3⟩
theorem small_proc (h : p.pure.Small) {x : ProcD} (hx : x ∈ p.procs) : x.Short ∧ x.Wf := by
 have := h.procs x.toProcP (List.mem_map.2 ⟨x, hx, rfl⟩)
 exact ⟨⟨this.1.1, this.1.2.1, this.1.2.2.1, this.1.2.2.2⟩, ⟨this.2.1, this.2.2.1, this.2.2.2⟩⟩
theorem small_buffer (h : p.pure.Small) {x : BufferD} (hx : x ∈ p.buffers) : (Lit.int .i64 x.id).wf = true ∧ x.items.length ≤ 1048576 ∧ ∀ s ∈ x.items, s.size ≤ 1048576 := h.buffers x.toBufferP (List.mem_map.2 ⟨x, hx, rfl⟩)
theorem small_port (h : p.pure.Small) {x : PortD} (hx : x ∈ p.ports) : (Lit.int .i64 x.id).wf = true ∧ x.items.length ≤ 1048576 ∧ ∀ s ∈ x.items, s.size ≤ 1048576 := h.ports x.toPortP (List.mem_map.2 ⟨x, hx, rfl⟩)
theorem small_fit (h : p.pure.Small) : p.Fit := ⟨small_short h, fun b hb => (h.boards b hb).2, fun _ hb => (small_buffer h hb).2, fun _ hb => (small_port h hb).2⟩
theorem small_good (h : p.pure.Small) {w : World} {base : Nat} (ho : PartOwn w base p) : p.Good w :=
 ⟨ho.at, small_short h, fun _ hx => small_proc h hx, h.sems, h.events, h.boards, fun _ hx => small_buffer h hx, fun _ hx => small_port h hx, fun x hx _ hk => ((ho.mineP x hx).lt hk).2, fun x hx _ hk => ((ho.mineF x hx).lt hk).2, fun x hx _ hk => ((ho.mineQ x hx).lt hk).2⟩
end
/-- What holds in every world that keeps what was made from lo on. -/
def Keeps (lo : Nat) (F : World → Prop) (W : World) : Prop := ∀ W', (∀ g, lo ≤ g → g < W.heap.size → W'.heap[g]? = W.heap[g]?) → W.heap.size ≤ W'.heap.size → F W'
theorem Keeps.here {lo : Nat} {F : World → Prop} {W : World} (h : Keeps lo F W) : F W := h W (fun _ _ _ => rfl) (Nat.le_refl _)
theorem Keeps.step {lo : Nat} {F : World → Prop} {W W1 : World} (h : Keeps lo F W) (hs : ∀ g, lo ≤ g → g < W.heap.size → W1.heap[g]? = W.heap[g]?) (hz : W.heap.size ≤ W1.heap.size) : Keeps lo F W1 := fun W' h' hz' =>
 h W' (fun g h1 h2 => (h' g h1 (by omega)).trans (hs g h1 h2)) (by omega)
theorem keep_call {lo i : Nat} {F : World → Prop} {W w1 : World} {v : Value} (h : Keeps (lo + 1) F W) (hb : Below W.heap.size W w1) : Keeps (lo + 1) F (w1.setCell ⟨lo, i, none⟩ v) :=
 h.step (fun g h1 h2 => (Below.heap_setCell w1 _ v g (by show ¬ g = lo; omega)).trans (hb.block g h2)) (by have := hb.size; simp [World.setCell]; omega)
end Go.Proofs.YtkbcplnlehdjfaaGreat

/- Lists that are marked, cell by cell, and read again: what all kinds have in common. -/
namespace Go.Proofs.YtkbcplnlehdjfaaGreat
open Go.RowKit
/-- All but some blocks are as they were. -/
structure KeptBut (w w' : World) (bs : List Nat) : Prop where
 os : w'.os = w.os
 tape : w'.tape = w.tape
 output : w'.output = w.output
 size : w.heap.size ≤ w'.heap.size
 same : ∀ g, g < w.heap.size → g ∉ bs → w'.heap[g]? = w.heap[g]?
section
variable {w w1 w2 : World} {bs bs' : List Nat}
theorem KeptBut.refl (w : World) (bs : List Nat) : KeptBut w w bs := ⟨rfl, rfl, rfl, Nat.le_refl _, fun _ _ _ => rfl⟩
theorem KeptBut.trans (h : KeptBut w w1 bs) (h' : KeptBut w1 w2 bs) : KeptBut w w2 bs :=
 ⟨h'.os.trans h.os, h'.tape.trans h.tape, h'.output.trans h.output, Nat.le_trans h.size h'.size, fun g hg hn => (h'.same g (Nat.lt_of_lt_of_le hg h.size) hn).trans (h.same g hg hn)⟩
theorem KeptBut.mono (h : KeptBut w w1 bs) (hs : ∀ g ∈ bs, g ∈ bs') : KeptBut w w1 bs' := ⟨h.os, h.tape, h.output, h.size, fun g hg hn => h.same g hg fun hm => hn (hs g hm)⟩
theorem KeptBut.of_below (h : Below w.heap.size w w1) : KeptBut w w1 bs := ⟨h.os, h.tape, h.output, h.size, fun g hg _ => h.block g hg⟩
theorem KeptBut.below {base : Nat} (h : KeptBut w w1 bs) (hb : base ≤ w.heap.size) (hs : ∀ g ∈ bs, base ≤ g) : Below base w w1 := ⟨h.os, h.tape, h.output, h.size, fun g hg => h.same g (by omega) fun hm => by have := hs g hm; omega⟩
theorem KeptBut.set {g off : Nat} (vs : List Value) (hg : g ∈ bs) : KeptBut w (setAllW w g off vs) bs :=
 have hb : ∀ (vs : List Value) (w : World) (off : Nat), (setAllW w g off vs).os = w.os ∧ (setAllW w g off vs).tape = w.tape ∧ (setAllW w g off vs).output = w.output := fun vs => by
  induction vs with
  | nil => exact fun _ _ => ⟨rfl, rfl, rfl⟩
  | cons v r ih => exact fun w off => ih (w.setCell ⟨g, off, none⟩ v) (off + 1)
 ⟨(hb vs w off).1, (hb vs w off).2.1, (hb vs w off).2.2, by rw [setAllW_size]; exact Nat.le_refl _, fun k _ hn => setAllW_other vs fun e => hn (by rw [e]; exact hg)⟩
end
theorem setAll_high : ∀ (vs : List Value) (cur : Array Value) (off j : Nat), off + vs.length ≤ j → (setAll cur off vs)[j]? = cur[j]?
 | [], _, _, _, _ => rfl
 | v :: r, cur, off, j, h => by
  simp only [List.length_cons] at h
  rw [setAll, setAll_high r _ _ _ (by omega), Array.getElem?_setIfInBounds_ne (by omega)]
section
variable {α : Type} {K : Kind α}
theorem Kind.flat_ext {xs : List Value} {l : List α} (hl : xs.length = l.length * K.n) (h : ∀ i y r, l[i]? = some y → r < K.n → xs[i * K.n + r]? = (K.vals y)[r]?) : xs = K.flat l := by
 apply List.ext_getElem?
 intro q
 by_cases hq : q < l.length * K.n
 ·have hi : q / K.n < l.length := Nat.div_lt_of_lt_mul (by rw [Nat.mul_comm]; exact hq)
  have hr : q % K.n < K.n := Nat.mod_lt _ K.pos
  have e : q / K.n * K.n + q % K.n = q := by rw [Nat.mul_comm]; exact Nat.div_add_mod q K.n
  obtain ⟨y, hy⟩ : ∃ y, l[q / K.n]? = some y := ⟨_, List.getElem?_eq_getElem hi⟩
  have h1 := h _ y _ hy hr
  rw [← K.flat_get hy hr, e] at h1
  exact h1
 ·rw [List.getElem?_eq_none (by omega), List.getElem?_eq_none (by rw [K.flat_length]; omega)]
/-- Some cells of one element are stored anew. -/
theorem row_part {cur : Array Value} {A B : List α} {x y : α} {j : Nat} {vs : List Value} (h : cur.toList.take ((A ++ x :: B).length * K.n) = K.flat (A ++ x :: B)) (hs : (A ++ x :: B).length * K.n ≤ cur.size) (hj : j + vs.length ≤ K.n)
  (h1 : ∀ r, r < vs.length → (K.vals y)[j + r]? = vs[r]?) (h2 : ∀ r, r < K.n → ¬ (j ≤ r ∧ r < j + vs.length) → (K.vals y)[r]? = (K.vals x)[r]?) :
  (setAll cur (A.length * K.n + j) vs).toList.take ((A ++ y :: B).length * K.n) = K.flat (A ++ y :: B) := by
 have hlen : (A ++ y :: B).length = (A ++ x :: B).length := by simp
 have hA : A.length < (A ++ x :: B).length := by rw [List.length_append, List.length_cons]; omega
 have hle : A.length * K.n + K.n ≤ (A ++ x :: B).length * K.n := by rw [← Nat.succ_mul]; exact Nat.mul_le_mul_right _ hA
 have hcur : ∀ q, q < (A ++ x :: B).length * K.n → cur[q]? = (K.flat (A ++ x :: B))[q]? := fun q hq => by
  rw [← h, List.getElem?_take, if_pos hq, Array.getElem?_toList]
 have e0 : (setAll cur (A.length * K.n + j) vs).toList.length = cur.size := by rw [Array.length_toList, setAll_size]
 refine Kind.flat_ext (by rw [List.length_take, e0, hlen]; omega) fun i z r hz hr => ?_
 have hi : i < (A ++ x :: B).length := by rw [← hlen]; exact (List.getElem?_eq_some_iff.1 hz).1
 have hq : i * K.n + r < (A ++ x :: B).length * K.n := by
  have : (i + 1) * K.n ≤ (A ++ x :: B).length * K.n := Nat.mul_le_mul_right _ hi
  rw [Nat.succ_mul] at this
  omega
 rw [List.getElem?_take, hlen, if_pos hq, Array.getElem?_toList]
 by_cases e : i = A.length
 ·subst e
  have hzy : z = y := by
   rw [List.getElem?_append_right (Nat.le_refl _)] at hz
   simpa using hz.symm
  subst hzy
  have hx : (A ++ x :: B)[A.length]? = some x := by rw [List.getElem?_append_right (Nat.le_refl _)]; simp
  by_cases hr2 : j ≤ r ∧ r < j + vs.length
  ·obtain ⟨d, rfl⟩ : ∃ d, r = j + d := ⟨r - j, by omega⟩
   rw [h1 d (by omega), show A.length * K.n + (j + d) = A.length * K.n + j + d by omega, List.getElem?_eq_getElem (by omega)]
   exact setAll_at vs cur (A.length * K.n + j) d _ (by omega) (List.getElem?_eq_getElem (by omega))
  ·rw [h2 r hr hr2, ← K.flat_get hx hr, ← hcur _ hq]
   by_cases h3 : r < j
   ·exact setAll_low vs cur _ _ (by omega)
   ·exact setAll_high vs cur _ _ (by omega)
 ·have hx : (A ++ x :: B)[i]? = some z := by
   by_cases h3 : i < A.length
   ·rw [List.getElem?_append_left h3] at hz ⊢
    exact hz
   ·rw [List.getElem?_append_right (by omega)] at hz ⊢
    obtain ⟨d, hd⟩ : ∃ d, i - A.length = d + 1 := ⟨i - A.length - 1, by omega⟩
    rw [hd] at hz ⊢
    exact hz
  rw [← K.flat_get hx hr, ← hcur _ hq]
  by_cases h3 : i < A.length
  ·have : (i + 1) * K.n ≤ A.length * K.n := Nat.mul_le_mul_right _ h3
   rw [Nat.succ_mul] at this
   exact setAll_low vs cur _ _ (by omega)
  ·have : (A.length + 1) * K.n ≤ i * K.n := Nat.mul_le_mul_right _ (by omega)
   rw [Nat.succ_mul] at this
   exact setAll_high vs cur _ _ (by omega)
/-- A list lies in its own block g. -/
def RowAt (K : Kind α) (T : TypeId) (w : World) (base g cap : Nat) (l : List α) : Prop := ∃ cur : Array Value, w.heap[g]? = some (.cells cur T (0, 0)) ∧ base ≤ g ∧ l.length ≤ cap ∧ cap ≤ maxLen ∧ cur.size = cap * K.n ∧ cur.toList.take (l.length * K.n) = K.flat l
theorem RowAt.owns {T : TypeId} {w : World} {base g cap : Nat} {l : List α} (h : RowAt K T w base g cap l) : w.ownsRow base T K.n (.slice (some ⟨g, 0, none⟩) l.length cap) l.length (K.flat l) := by
 obtain ⟨cur, h1, h2, h3, h4, h5, h6⟩ := h
 exact ⟨K.flat_length l, .inr ⟨g, cap, cur, rfl, h2, h1, h3, h4, h5, h6⟩⟩
theorem RowAt.of_owns {T : TypeId} {w : World} {base cap : Nat} {a : Option Addr} {l : List α} (h : w.ownsRow base T K.n (.slice a l.length cap) l.length (K.flat l)) (hl : ¬ l.length = 0) : ∃ g, a = some ⟨g, 0, none⟩ ∧ RowAt K T w base g cap l := by
 rcases h.2 with ⟨_, h0⟩ | ⟨g, c, cur, hv, h1, h2, h3, h4, h5, h6⟩
 ·exact absurd h0 hl
 ·simp only [Value.slice.injEq] at hv
  obtain ⟨rfl, -, rfl⟩ := hv
  exact ⟨g, rfl, cur, h2, h1, h3, h4, h5, h6⟩
theorem RowAt.same {T : TypeId} {w w' : World} {base g cap : Nat} {l : List α} (h : RowAt K T w base g cap l) (hs : w'.heap[g]? = w.heap[g]?) : RowAt K T w' base g cap l := by
 obtain ⟨cur, h1, h2⟩ := h
 exact ⟨cur, hs.trans h1, h2⟩
theorem RowAt.lt {T : TypeId} {w : World} {base g cap : Nat} {l : List α} (h : RowAt K T w base g cap l) : g < w.heap.size := by
 obtain ⟨cur, h1, _⟩ := h
 exact (Array.getElem?_eq_some_iff.1 h1).1
theorem RowAt.cell {T : TypeId} {w : World} {base g cap : Nat} {l : List α} (h : RowAt K T w base g cap l) {i : Nat} {x : α} (hx : l[i]? = some x) {r : Nat} (hr : r < K.n) : w.cell? ⟨g, i * K.n + r, none⟩ = (K.vals x)[r]? ∧ w.frozen? ⟨g, i * K.n + r, none⟩ = false := by
 obtain ⟨cur, h1, h2, h3, h4, h5, h6⟩ := h
 refine ⟨?_, frozen_of_row _ _ _ _ _ h1⟩
 have hi : i < l.length := (List.getElem?_eq_some_iff.1 hx).1
 have hq : i * K.n + r < l.length * K.n := by
  have : (i + 1) * K.n ≤ l.length * K.n := Nat.mul_le_mul_right _ hi
  rw [Nat.succ_mul] at this
  omega
 rw [cell_of_row _ _ _ _ _ _ h1, ← K.flat_get hx hr, ← h6, List.getElem?_take, if_pos hq, Array.getElem?_toList]
theorem RowAt.part {T : TypeId} {w : World} {base g cap : Nat} {A B : List α} {x y : α} {j : Nat} {vs : List Value} (h : RowAt K T w base g cap (A ++ x :: B)) (hj : j + vs.length ≤ K.n)
  (h1 : ∀ r, r < vs.length → (K.vals y)[j + r]? = vs[r]?) (h2 : ∀ r, r < K.n → ¬ (j ≤ r ∧ r < j + vs.length) → (K.vals y)[r]? = (K.vals x)[r]?) :
  RowAt K T (setAllW w g (A.length * K.n + j) vs) base g cap (A ++ y :: B) := by
 obtain ⟨cur, c1, c2, c3, c4, c5, c6⟩ := h
 have hl : (A ++ y :: B).length = (A ++ x :: B).length := by simp
 refine ⟨_, setAllW_heap vs c1, c2, by rw [hl]; exact c3, c4, by rw [setAll_size]; exact c5, ?_⟩
 exact row_part c6 (by rw [c5]; exact Nat.mul_le_mul_right _ c3) hj h1 h2
theorem RowAt.at_mid {T : TypeId} {w : World} {base g cap j : Nat} {A B : List α} {x : α} (h : RowAt K T w base g cap (A ++ x :: B)) (hA : A.length = j) {r : Nat} (hr : r < K.n) : (∃ u, w.cell? ⟨g, j * K.n + r, none⟩ = some u) ∧ w.frozen? ⟨g, j * K.n + r, none⟩ = false := by
 have hx : (A ++ x :: B)[j]? = some x := by
  subst hA
  rw [List.getElem?_append_right (Nat.le_refl _)]
  simp
 obtain ⟨h1, h2⟩ := h.cell hx hr
 rw [List.getElem?_eq_getElem (by rw [K.len]; exact hr)] at h1
 exact ⟨⟨_, h1⟩, h2⟩
theorem RowAt.mid_cell {T : TypeId} {w : World} {base g cap j : Nat} {A B : List α} {x : α} (h : RowAt K T w base g cap (A ++ x :: B)) (hA : A.length = j) {r : Nat} (hr : r < K.n) : w.cell? ⟨g, j * K.n + r, none⟩ = (K.vals x)[r]? := by
 have hx : (A ++ x :: B)[j]? = some x := by
  subst hA
  rw [List.getElem?_append_right (Nat.le_refl _)]
  simp
 exact (h.cell hx hr).1
theorem drop_at {l : List α} {k : Nat} {x : α} (hx : l[k]? = some x) : l.drop k = x :: l.drop (k + 1) := by
 obtain ⟨hk, rfl⟩ := List.getElem?_eq_some_iff.1 hx
 exact List.drop_eq_getElem_cons hk
/-- Each element turned by its mark, which counts on. -/
def markL (f : Int → α → α) (c : α → Nat) : Int → List α → List α
 | _, [] => []
 | k, x :: r => f k x :: markL f c (k + c x) r
def cntL (c : α → Nat) : List α → Nat
 | [] => 0
 | x :: r => c x + cntL c r
theorem cntL_append (c : α → Nat) : ∀ l r : List α, cntL c (l ++ r) = cntL c l + cntL c r
 | [], r => by simp [cntL]
 | x :: l, r => by simp only [List.cons_append, cntL, cntL_append c l r]; omega
theorem markL_append (f : Int → α → α) (c : α → Nat) : ∀ (k : Int) (l r : List α), markL f c k (l ++ r) = markL f c k l ++ markL f c (k + cntL c l) r
 | k, [], r => by simp [markL, cntL]
 | k, x :: l, r => by
  simp only [List.cons_append, markL, cntL, markL_append f c (k + c x) l r]
  rw [show k + (c x : Int) + (cntL c l : Int) = k + ((c x + cntL c l : Nat) : Int) by omega]
theorem markL_length (f : Int → α → α) (c : α → Nat) : ∀ (k : Int) (l : List α), (markL f c k l).length = l.length
 | _, [] => rfl
 | k, x :: r => by simp [markL, markL_length f c (k + c x) r]
theorem cntL_const {c : α → Nat} {n : Nat} (h : ∀ x, c x = n) : ∀ l : List α, cntL c l = l.length * n
 | [] => by simp [cntL]
 | x :: r => by rw [cntL, h x, cntL_const h r, List.length_cons, Nat.succ_mul]; omega
theorem cntL_take_lt {c : α → Nat} {l : List α} {i : Nat} {x : α} (hx : l[i]? = some x) : cntL c (l.take i) + c x ≤ cntL c l := by
 have e := split_at hx
 have : cntL c l = cntL c (l.take i ++ x :: l.drop (i + 1)) := by rw [← e]
 rw [this, cntL_append, cntL]
 omega
theorem cntL_up {c : α → Nat} {l : List α} {i : Nat} {x : α} (hx : l[i]? = some x) : cntL c (l.take (i + 1)) = cntL c (l.take i) + c x := by
 rw [take_up hx, cntL_append]
 simp [cntL]
theorem markL_get {f : Int → α → α} {c : α → Nat} {k : Int} {l : List α} {i : Nat} {x : α} (hx : l[i]? = some x) : (markL f c k l)[i]? = some (f (k + cntL c (l.take i)) x) := by
 have hi : i < l.length := (List.getElem?_eq_some_iff.1 hx).1
 have e : markL f c k l = markL f c k (l.take i ++ x :: l.drop (i + 1)) := by rw [← split_at hx]
 have hn : (markL f c k (l.take i)).length = i := by rw [markL_length, List.length_take]; omega
 rw [e, markL_append, List.getElem?_append_right (by omega), hn, Nat.sub_self]
 rfl
theorem markL_up {f : Int → α → α} {c : α → Nat} {k : Int} {l : List α} {i : Nat} {x : α} (hx : l[i]? = some x) : markL f c k (l.take (i + 1)) = markL f c k (l.take i) ++ [f (k + cntL c (l.take i)) x] := by
 rw [take_up hx, markL_append]
 rfl
end
end Go.Proofs.YtkbcplnlehdjfaaGreat

/- Lists of things that have a list each, while they are marked: whose list is whose. -/
namespace Go.Proofs.YtkbcplnlehdjfaaGreat
open Go.RowKit
section
variable {α : Type} {N : Nest α} {w w' : World} {base g : Nat} {A B : List α} {x y : α}
/-- Every thing's list is its own, no two in one block, none in the block of the things themselves. -/
structure Mines (N : Nest α) (w : World) (base g : Nat) (l : List α) : Prop where
 mine : ∀ z ∈ l, N.Mine w base z
 nodup : (g :: l.filterMap N.kid).Nodup
theorem Mines.keep {l : List α} (h : Mines N w base g l) (hk : KeptBut w w' [g]) : Mines N w' base g l :=
 ⟨fun z hz => (h.mine z hz).same fun b hb => hk.same b ((h.mine z hz).lt hb).2 fun hm => by
  simp only [List.mem_cons, List.not_mem_nil, or_false] at hm
  subst hm
  exact (List.nodup_cons.1 h.nodup).1 (List.mem_filterMap.2 ⟨z, hz, hb⟩), h.nodup⟩
/-- The thing itself turns, its list stays. -/
theorem Mines.turn (h : Mines N w base g (A ++ x :: B)) (hk : N.kid y = N.kid x) (hm : N.Mine w base y) : Mines N w base g (A ++ y :: B) := by
 refine ⟨fun z hz => ?_, ?_⟩
 ·rcases List.mem_append.1 hz with hz | hz
  ·exact h.mine z (List.mem_append_left _ hz)
  ·rcases List.mem_cons.1 hz with rfl | hz
   ·exact hm
   ·exact h.mine z (List.mem_append_right _ (List.mem_cons_of_mem _ hz))
 ·have := h.nodup
  rw [List.filterMap_append, List.filterMap_cons] at this ⊢
  rw [hk]
  exact this
/-- Its list alone is written into. -/
theorem Mines.inner (h : Mines N w base g (A ++ x :: B)) (hw : KeptBut w w' (blk (N.ad x))) (hk : N.kid y = N.kid x) (hm : N.Mine w' base y) : Mines N w' base g (A ++ y :: B) := by
 have hmem : ∀ b, b ∈ blk (N.ad x) ↔ N.kid x = some b := fun b => mem_blk
 have hn := (List.nodup_cons.1 h.nodup).2
 rw [List.filterMap_append] at hn
 have key : ∀ z ∈ A ++ B, ∀ b, N.kid z = some b → ¬ N.kid x = some b := fun z hz b hb hx => by
  rw [List.nodup_append] at hn
  rcases List.mem_append.1 hz with hz | hz
  ·exact hn.2.2 b (List.mem_filterMap.2 ⟨z, hz, hb⟩) b (List.mem_filterMap.2 ⟨x, by simp, hx⟩) rfl
  ·have h2 := hn.2.1
   rw [List.filterMap_cons, hx, List.nodup_cons] at h2
   exact h2.1 (List.mem_filterMap.2 ⟨z, hz, hb⟩)
 have hz : ∀ z ∈ A ++ B, N.Mine w base z → N.Mine w' base z := fun z hz hmz => hmz.same fun b hb => hw.same b (hmz.lt hb).2 fun hm' => key z hz b hb ((hmem b).1 hm')
 refine ⟨fun z hz' => ?_, ?_⟩
 ·rcases List.mem_append.1 hz' with h1 | h1
  ·exact hz z (List.mem_append_left _ h1) (h.mine z (List.mem_append_left _ h1))
  ·rcases List.mem_cons.1 h1 with rfl | h1
   ·exact hm
   ·exact hz z (List.mem_append_right _ h1) (h.mine z (List.mem_append_right _ (List.mem_cons_of_mem _ h1)))
 ·have := h.nodup
  rw [List.filterMap_append, List.filterMap_cons] at this ⊢
  rw [hk]
  exact this
/-- The block of the things is not one of their lists. -/
theorem Mines.apart {l : List α} (h : Mines N w base g l) {z : α} (hz : z ∈ l) : g ∉ blk (N.ad z) := fun hm =>
 (List.nodup_cons.1 h.nodup).1 (List.mem_filterMap.2 ⟨z, hz, mem_blk.1 hm⟩)
end
end Go.Proofs.YtkbcplnlehdjfaaGreat
