/- What the proof leans on, part 17: PSpec3. -/
import Derived.Test.YtkbcplnlehdjfaaGreatOwnCh1
import Derived.Test.YtkbcplnlehdjfaaGreatOwnCh14

namespace Go.Proofs.YtkbcplnlehdjfaaGreat
open Go.RowKit
attribute [local go_sem ↓] Go.wp_at_zero Go.wp_at_succ
def specOk (p : PartD) (x : ProcD) : Bool := procB x.toProcP && turnB p.next x.toProcP && waitB p.pure x.toProcP
theorem procOkB_spec (p : PartD) (x : ProcD) : procOkB p.pure x.toProcP = (inB x.id 1 1000 && specOk p x) := by
 show (inB x.id 1 1000 && procB x.toProcP && turnB p.next x.toProcP && waitB p.pure x.toProcP) = _
 simp only [specOk, Bool.and_assoc]
def ApartD (l : List ProcD) : Prop := (l.map (·.since)).Pairwise (fun a b => ¬ (a = b ∧ 0 < b))
theorem apart_snoc {l : List ProcD} {k : Nat} {x : ProcD} (hx : l[k]? = some x) (h : ApartD (l.take k)) (hn : ∀ m y, m < k → l[m]? = some y → ¬ (y.since = x.since ∧ 0 < x.since)) : ApartD (l.take (k + 1)) := by
 rw [take_up hx]
 unfold ApartD
 rw [List.map_append, List.pairwise_append]
 refine ⟨h, List.pairwise_singleton _ _, fun a ha b hb => ?_⟩
 simp only [List.map_cons, List.map_nil, List.mem_cons, List.not_mem_nil, or_false] at hb
 subst hb
 obtain ⟨y, hy, rfl⟩ := List.mem_map.1 ha
 obtain ⟨m, hm⟩ := List.mem_iff_getElem?.1 hy
 rw [List.getElem?_take] at hm
 split at hm
 ·rename_i hlt
  exact hn m y hlt hm
 ·cases hm
theorem apart_not {l : List ProcD} {i m : Nat} {x y : ProcD} (hx : l[i]? = some x) (hy : l[m]? = some y) (hm : m < i) (h : y.since = x.since ∧ 0 < x.since) : ¬ ApartD l := fun ha => by
 unfold ApartD at ha
 rw [List.pairwise_map, List.pairwise_iff_getElem] at ha
 obtain ⟨hi, rfl⟩ := List.getElem?_eq_some_iff.1 hx
 obtain ⟨hj, rfl⟩ := List.getElem?_eq_some_iff.1 hy
 exact ha m i hj hi hm h
theorem partR_iff (p : PartD) : PartR p.pure ↔ (inB p.id 1 6 = true ∧ inB p.next 1 1000000000 = true ∧ p.procs.length ≤ 6 ∧ thingsOk p = true ∧ thingsB (fun x : ProcD => x.id) (specOk p) 0 p.procs = true ∧ ApartD p.procs) := by
 have e1 : thingsB (·.id) (fun x => procB x && turnB p.pure.next x && waitB p.pure x) 0 p.pure.procs = thingsB (fun x : ProcD => x.id) (specOk p) 0 p.procs := thingsB_map _ _ _ _ _
 have e2 : p.pure.procs.length = p.procs.length := by simp [PartD.pure]
 have e3 : thingsB (·.id) bufferB 0 p.pure.buffers = thingsB (fun x : BufferD => x.id) (fun x => bufferB x.toBufferP) 0 p.buffers := thingsB_map _ _ _ _ _
 have e4 : thingsB (·.id) portB 0 p.pure.ports = thingsB (fun x : PortD => x.id) (fun x => portB x.toPortP) 0 p.ports := thingsB_map _ _ _ _ _
 have e5 : p.pure.buffers.length = p.buffers.length := by simp [PartD.pure]
 have e6 : p.pure.ports.length = p.ports.length := by simp [PartD.pure]
 have e7 : Apart p.pure.procs ↔ ApartD p.procs := by
  unfold Apart ApartD
  show (((p.procs.map (·.toProcP))).map (·.since)).Pairwise _ ↔ _
  rw [List.map_map]
  rfl
 constructor
 ·intro h
  have hp := h.procs
  rw [e1] at hp
  have hb := h.buffers
  rw [e3] at hb
  have hq := h.ports
  rw [e4] at hq
  have n1 := h.nProc
  have n2 := h.nBuffer
  have n3 := h.nPort
  rw [e2] at n1
  rw [e5] at n2
  rw [e6] at n3
  have hs : thingsB (fun x : SemD => x.id) semB 0 p.sems = true := h.sems
  have he : thingsB (fun x : EventD => x.id) eventB 0 p.events = true := h.events
  have hd : thingsB (fun x : BoardD => x.id) boardB 0 p.boards = true := h.boards
  have l1 : p.sems.length ≤ 5 := h.nSem
  have l2 : p.events.length ≤ 5 := h.nEvent
  have l3 : p.boards.length ≤ 5 := h.nBoard
  refine ⟨h.id, h.next, n1, ?_, hp, e7.1 h.apart⟩
  simp only [thingsOk, hs, he, hd, hb, hq, decide_eq_true l1, decide_eq_true l2, decide_eq_true l3, decide_eq_true n2, decide_eq_true n3, Bool.and_self]
 ·rintro ⟨h1, h2, h3, h4, h5, h6⟩
  simp only [thingsOk, Bool.and_eq_true, decide_eq_true_eq] at h4
  obtain ⟨⟨⟨⟨⟨⟨⟨⟨⟨t1, t2⟩, t3⟩, t4⟩, t5⟩, d1⟩, d2⟩, d3⟩, d4⟩, d5⟩ := h4
  exact ⟨h1, h2, by rw [e2]; exact h3, d1, d2, d3, by rw [e5]; exact d4, by rw [e6]; exact d5, by rw [e1]; exact h5, t1, t2, t3, by rw [e3]; exact t4, by rw [e4]; exact t5, e7.2 h6⟩
def SpecS (w : World) (p : PartD) (x : ProcD) (gs k : Nat) (pre : World → Prop) (w' : World) : Prop := ((w'.cell? ⟨w.heap.size, 0, none⟩ = some (.int .i64 p.id) ∧ w'.cell? ⟨w.heap.size, 1, none⟩ = some (.int .i64 p.next) ∧ w'.cell? ⟨w.heap.size, 2, none⟩ = some (.slice (some ⟨gs, 0, none⟩) p.procs.length p.procC) ∧ w'.cell? ⟨w.heap.size, 3, none⟩ = some (.slice p.semA p.sems.length p.semC) ∧ w'.cell? ⟨w.heap.size, 4, none⟩ = some (.slice p.eventA p.events.length p.eventC) ∧ w'.cell? ⟨w.heap.size, 5, none⟩ = some (.slice p.boardA p.boards.length p.boardC) ∧ w'.cell? ⟨w.heap.size, 6, none⟩ = some (.slice p.bufferA p.buffers.length p.bufferC) ∧ w'.cell? ⟨w.heap.size, 7, none⟩ = some (.slice p.portA p.ports.length p.portC)) ∧ (w'.cell? ⟨gs, k * 12, none⟩ = some (.int .i64 x.id) ∧ w'.cell? ⟨gs, k * 12 + 1, none⟩ = some (.int .i64 x.prio) ∧ w'.cell? ⟨gs, k * 12 + 2, none⟩ = some (.slice x.progA x.prog.length x.progC) ∧ w'.cell? ⟨gs, k * 12 + 3, none⟩ = some (.int .i64 x.state) ∧ w'.cell? ⟨gs, k * 12 + 4, none⟩ = some (.int .i64 x.pc) ∧ w'.cell? ⟨gs, k * 12 + 5, none⟩ = some (.int .i64 x.left) ∧ w'.cell? ⟨gs, k * 12 + 6, none⟩ = some (.int .i64 x.wake) ∧ w'.cell? ⟨gs, k * 12 + 7, none⟩ = some (.int .i64 x.on) ∧ w'.cell? ⟨gs, k * 12 + 8, none⟩ = some (.string x.held) ∧ w'.cell? ⟨gs, k * 12 + 9, none⟩ = some (.string x.got) ∧ w'.cell? ⟨gs, k * 12 + 10, none⟩ = some (.int .i64 x.code) ∧ w'.cell? ⟨gs, k * 12 + 11, none⟩ = some (.int .i64 x.since)) ∧ pre w') ∧ Hid (PartBox w' w.heap.size p ∧ PartD.At w' p ∧ Below w.heap.size w w')
theorem specS_of {w w' : World} {p : PartD} {x : ProcD} {gs k : Nat} {pre : World → Prop} (ha : p.procA = some ⟨gs, 0, none⟩) (hx : p.procs[k]? = some x) (h : PartBox w' w.heap.size p ∧ PartD.At w' p ∧ Below w.heap.size w w') (hp : pre w') : SpecS w p x gs k pre w' := by
 refine ⟨⟨?_, ?_, hp⟩, h⟩
 ·have := h.1.cells
  rw [ha] at this
  exact this
 ·obtain ⟨g, e, hat⟩ := proc_at h.2.1.1 hx
  rw [ha] at e
  cases e
  exact hat
def PrevS (gs j : Nat) (y : ProcD) (w' : World) : Prop := w'.cell? ⟨gs, j * 12, none⟩ = some (.int .i64 y.id)
theorem prevS_of {w' : World} {p : PartD} {gs j : Nat} {y : ProcD} (ha : p.procA = some ⟨gs, 0, none⟩) (hy : p.procs[j]? = some y) (h : PartD.At w' p) : PrevS gs j y w' := by
 obtain ⟨g, e, hat⟩ := proc_at h.1 hy
 rw [ha] at e
 cases e
 exact hat.1
set_option maxRecDepth 100000 in
set_option maxHeartbeats 16000000 in
theorem specPartOk_any (p : PartD) (w : World) (hf : p.Fit) (hs : ∀ x ∈ p.procs, x.Short) (h : PartD.At w p) :
  Calls Tryz.prog 54 #[.agg p.cells] w fun e w' => e = .returned (.bool (partB p.pure)) ∧ Below w.heap.size w w' := by
 have HB : Hid (PartBox (w.alloc (.cells p.cells 32)) w.heap.size p ∧ PartD.At (w.alloc (.cells p.cells 32)) p ∧ Below w.heap.size w (w.alloc (.cells p.cells 32))) := ⟨heap_alloc_new _ _, h.below ((Below.refl _ _).alloc (Nat.le_refl _) _), (Below.refl _ _).alloc (Nat.le_refl _) _⟩
 have HFT : Hid (p.Fit ∧ ∀ x ∈ p.procs, x.Short) := ⟨hf, hs⟩
 have hpl := hf.short.procs
 clear h hf hs
 obtain ⟨m0, m1, m2, m3, m4, m5, m6, m7⟩ := HB.out.1.cells
 unfold PartD.cells at *
 go_enter Tryz.func54, Tryz.ntmps54
 go_wp2_with fail
 generalize w.alloc (.cells #[.int .i64 p.id, .int .i64 p.next, .slice p.procA p.procs.length p.procC, .slice p.semA p.sems.length p.semC, .slice p.eventA p.events.length p.eventC, .slice p.boardA p.boards.length p.boardC, .slice p.bufferA p.buffers.length p.bufferC, .slice p.portA p.ports.length p.portC] 32) = W at *
 refine (l1In_any p.id 1 6 _).mono ?_
 rintro e w9 ⟨rfl, hw9⟩
 rw [hw9]
 clear hw9 w9
 cases h1 : inB p.id 1 6
 ·have hz : True := trivial
  have HN : Hid (partB p.pure = false) := partB_false fun hr => by have := ((partR_iff p).1 hr).1; rw [h1] at this; cases this
  clear h1
  go_wp2
  go_ret
  exact ⟨ret_bool HN.out.symm, HB.out.2.2⟩
 have H1 : Hid (inB p.id 1 6 = true) := h1
 clear h1
 go_wp2_with fail
 refine (l1In_any p.next 1 1000000000 _).mono ?_
 rintro e w9 ⟨rfl, hw9⟩
 rw [hw9]
 clear hw9 w9
 cases h2 : inB p.next 1 1000000000
 ·have hz : True := trivial
  have HN : Hid (partB p.pure = false) := partB_false fun hr => by have := ((partR_iff p).1 hr).2.1; rw [h2] at this; cases this
  clear h2
  go_wp2
  go_ret
  exact ⟨ret_bool HN.out.symm, HB.out.2.2⟩
 have H2 : Hid (inB p.next 1 1000000000 = true) := h2
 clear h2
 by_cases h3 : (6 : Int) < (p.procs.length : Int)
 ·have hz : True := trivial
  have HN : Hid (partB p.pure = false) := partB_false fun hr => by have := ((partR_iff p).1 hr).2.2.1; omega
  go_wp2
  go_ret
  exact ⟨ret_bool HN.out.symm, HB.out.2.2⟩
 have H3 : Hid (p.procs.length ≤ 6) := by show p.procs.length ≤ 6; omega
 go_wp2_with fail
 refine (l3Things_any p W HFT.out.1 HB.out.2.1).mono ?_
 rintro e W1 ⟨rfl, hb1⟩
 have HB1 : Hid (PartBox W1 w.heap.size p ∧ PartD.At W1 p ∧ Below w.heap.size w W1) := ⟨HB.out.1.below hb1, HB.out.2.1.below hb1, HB.out.2.2.trans (hb1.mono HB.out.2.2.size)⟩
 clear hb1 m0 m1 m2 m3 m4 m5 m6 m7 HB
 cases h4 : thingsOk p
 ·have hz : True := trivial
  have HN : Hid (partB p.pure = false) := partB_false fun hr => by have := ((partR_iff p).1 hr).2.2.2.1; rw [h4] at this; cases this
  clear h4
  go_wp2
  go_ret
  exact ⟨ret_bool HN.out.symm, HB1.out.2.2⟩
 have H4 : Hid (thingsOk p = true) := h4
 clear h4
 go_wp2_with fail
 go_loopw [3] (fun i wr => ∃ k : Nat, k ≤ p.procs.length ∧ i = .int .i64 k ∧ Hid (thingsB (fun x : ProcD => x.id) (specOk p) 0 (p.procs.take k) = true ∧ ApartD (p.procs.take k) ∧ Below W1.heap.size W1 wr)) (fun i _ => p.procs.length - (intOf i).toNat)
 case atStart => exact ⟨0, Nat.zero_le _, rfl, ⟨rfl, List.Pairwise.nil, Below.refl _ _⟩⟩
 case round =>
  obtain ⟨k, hk, rfl, HA⟩ := hrel
  have HB2 : Hid (PartBox wr w.heap.size p ∧ PartD.At wr p ∧ Below w.heap.size w wr) := ⟨HB1.out.1.below HA.out.2.2, HB1.out.2.1.below HA.out.2.2, HB1.out.2.2.trans (HA.out.2.2.mono HB1.out.2.2.size)⟩
  obtain ⟨m0, m1, m2, m3, m4, m5, m6, m7⟩ := HB2.out.1.cells
  by_cases hlt : k < p.procs.length
  ·have i0 : (0 : Int) ≤ (k : Int) := by omega
   have i1 : (k : Int) < (p.procs.length : Int) := by omega
   obtain ⟨x, hx⟩ : ∃ x, p.procs[k]? = some x := ⟨_, List.getElem?_eq_getElem hlt⟩
   have hmem := List.mem_of_getElem? hx
   obtain ⟨gs, ha, hat⟩ := proc_at HB2.out.2.1.1 hx
   have HAX : Hid (p.procA = some ⟨gs, 0, none⟩ ∧ p.procs[k]? = some x) := ⟨ha, hx⟩
   have HXS : Hid (x.Short ∧ Row wr x.progA (opK.flat x.prog)) := ⟨HFT.out.2 x hmem, proc_prog HB2.out.2.1.1 hx⟩
   have HNX : Hid (1 ≤ p.next ∧ p.next ≤ 1000000000) := inB_iff.1 H2.out
   rw [ha] at m2
   clear hx hmem ha hat
   go_wp2_with fail
   cases hpo : procOkB p.pure x.toProcP
   ·have HPO : Hid (procOkB p.pure x.toProcP = false) := hpo
    have HN : Hid (partB p.pure = false) := partB_false fun hr => by have h9 := ((partR_iff p).1 hr).2.2.2.2.1; rw [things_no HAX.out.2 (fun hh => by have h8 := HPO.out; rw [procOkB_spec, hh.1, hh.2.2] at h8; cases h8)] at h9; cases h9
    clear hpo m0 m1 m2 m3 m4 m5 m6 m7
    refine tame_region (SpecS w p x gs k (fun _ => True)) (by kernel_rfl) (specS_of HAX.out.1 HAX.out.2 ⟨HB2.out.1, HB2.out.2.1, HB2.out.2.2.drew⟩ trivial) ?_
    iterate 6 (refine yl (v := ?_) ?_ ?_; rotate_left; (intro w0 hS0; obtain ⟨⟨⟨q0, q1, q2, q3, q4, q5, q6, q7⟩, ⟨x0, x1, x2, x3, x4, x5, x6, x7, x8, x9, x10, x11⟩, hpre⟩, hH⟩ := hS0; go_simp; try with_reducible rfl); simp only [pt, sb, s0, s1])
    refine cl (.bool false) 103 #[.agg #[.int .i64 p.id, .int .i64 p.next, .slice (some ⟨gs, 0, none⟩) p.procs.length p.procC, .slice p.semA p.sems.length p.semC, .slice p.eventA p.events.length p.eventC, .slice p.boardA p.boards.length p.boardC, .slice p.bufferA p.buffers.length p.bufferC, .slice p.portA p.ports.length p.portC], .agg #[.int .i64 x.id, .int .i64 x.prio, .slice x.progA x.prog.length x.progC, .int .i64 x.state, .int .i64 x.pc, .int .i64 x.left, .int .i64 x.wake, .int .i64 x.on, .string x.held, .string x.got, .int .i64 x.code, .int .i64 x.since]] ?_ ?_ ?_
    ·intro w0 hS0
     obtain ⟨⟨⟨q0, q1, q2, q3, q4, q5, q6, q7⟩, ⟨x0, x1, x2, x3, x4, x5, x6, x7, x8, x9, x10, x11⟩, hpre⟩, hH⟩ := hS0
     go_simp
     try with_reducible rfl
    ·intro w0 hS0
     have hq := hS0.2.out
     rw [show (Value.agg #[.int .i64 p.id, .int .i64 p.next, .slice (some ⟨gs, 0, none⟩) p.procs.length p.procC, .slice p.semA p.sems.length p.semC, .slice p.eventA p.events.length p.eventC, .slice p.boardA p.boards.length p.boardC, .slice p.bufferA p.buffers.length p.bufferC, .slice p.portA p.ports.length p.portC]) = .agg p.cells by unfold PartD.cells; rw [HAX.out.1]]
     refine (l3ProcOk_any p x w0 HFT.out.1.short HXS.out.1 HNX.out.1 HNX.out.2 hq.2.1 (proc_prog hq.2.1.1 HAX.out.2)).mono ?_
     rintro e w2 ⟨rfl, hb2⟩
     exact ⟨ret_bool HPO.out, specS_of HAX.out.1 HAX.out.2 ⟨hq.1.below hb2, hq.2.1.below hb2, hq.2.2.trans (hb2.mono hq.2.2.size)⟩ trivial⟩
    simp only [pt, sb, s0, s1]
    iterate 2 (refine yl (v := ?_) ?_ ?_; rotate_left; (intro w0 hS0; obtain ⟨⟨⟨q0, q1, q2, q3, q4, q5, q6, q7⟩, ⟨x0, x1, x2, x3, x4, x5, x6, x7, x8, x9, x10, x11⟩, hpre⟩, hH⟩ := hS0; go_simp; try with_reducible rfl); simp only [pt, sb, s0, s1])
    iterate 18 (refine nl ?_; simp only [pt, sb, s0, s1])
    (refine yl (v := ?_) ?_ ?_; rotate_left; (intro w0 hS0; obtain ⟨⟨⟨q0, q1, q2, q3, q4, q5, q6, q7⟩, ⟨x0, x1, x2, x3, x4, x5, x6, x7, x8, x9, x10, x11⟩, hpre⟩, hH⟩ := hS0; go_simp; try with_reducible rfl); simp only [pt, sb, s0, s1])
    refine tame_done (by kernel_rfl) ?_ _
    intro w1 hS1
    have HZ : Hid (Below w.heap.size w w1) := hS1.2.out.2.2
    clear hS1
    go_wp2
    go_ret
    exact ⟨ret_bool HN.out.symm, HZ.out⟩
   have HPO : Hid (procOkB p.pure x.toProcP = true) := hpo
   have HIN : Hid (inB x.id 1 1000 = true ∧ specOk p x = true) := by have h8 := HPO.out; rw [procOkB_spec, Bool.and_eq_true] at h8; exact h8
   clear hpo
   by_cases hk0 : k = 0
   ·have dk : decide (0 < k) = false := decide_eq_false (by omega)
    have HLT : Hid (lastOf (fun x : ProcD => x.id) 0 (p.procs.take k) < x.id) := by show _ < _; rw [hk0, last_none]; have := inB_iff.1 HIN.out.1; omega
    clear hk0 m0 m1 m2 m3 m4 m5 m6 m7
    refine tame_region (fun w' => SpecS w p x gs k (fun _ => True) w' ∧ Hid (Below wr.heap.size wr w')) (by kernel_rfl) ⟨specS_of HAX.out.1 HAX.out.2 ⟨HB2.out.1, HB2.out.2.1, HB2.out.2.2.drew⟩ trivial, (Below.refl _ _).drew⟩ ?_
    iterate 6 (refine yl (v := ?_) ?_ ?_; rotate_left; (intro w0 hS0; obtain ⟨⟨⟨⟨q0, q1, q2, q3, q4, q5, q6, q7⟩, ⟨x0, x1, x2, x3, x4, x5, x6, x7, x8, x9, x10, x11⟩, hpre⟩, hH⟩, hH2⟩ := hS0; go_simp; try with_reducible rfl); simp only [pt, sb, s0, s1])
    refine cl (.bool true) 103 #[.agg #[.int .i64 p.id, .int .i64 p.next, .slice (some ⟨gs, 0, none⟩) p.procs.length p.procC, .slice p.semA p.sems.length p.semC, .slice p.eventA p.events.length p.eventC, .slice p.boardA p.boards.length p.boardC, .slice p.bufferA p.buffers.length p.bufferC, .slice p.portA p.ports.length p.portC], .agg #[.int .i64 x.id, .int .i64 x.prio, .slice x.progA x.prog.length x.progC, .int .i64 x.state, .int .i64 x.pc, .int .i64 x.left, .int .i64 x.wake, .int .i64 x.on, .string x.held, .string x.got, .int .i64 x.code, .int .i64 x.since]] ?_ ?_ ?_
    ·intro w0 hS0
     obtain ⟨⟨⟨⟨q0, q1, q2, q3, q4, q5, q6, q7⟩, ⟨x0, x1, x2, x3, x4, x5, x6, x7, x8, x9, x10, x11⟩, hpre⟩, hH⟩, hH2⟩ := hS0
     go_simp
     try with_reducible rfl
    ·intro w0 hS0
     have hq := hS0.1.2.out
     rw [show (Value.agg #[.int .i64 p.id, .int .i64 p.next, .slice (some ⟨gs, 0, none⟩) p.procs.length p.procC, .slice p.semA p.sems.length p.semC, .slice p.eventA p.events.length p.eventC, .slice p.boardA p.boards.length p.boardC, .slice p.bufferA p.buffers.length p.bufferC, .slice p.portA p.ports.length p.portC]) = .agg p.cells by unfold PartD.cells; rw [HAX.out.1]]
     refine (l3ProcOk_any p x w0 HFT.out.1.short HXS.out.1 HNX.out.1 HNX.out.2 hq.2.1 (proc_prog hq.2.1.1 HAX.out.2)).mono ?_
     rintro e w2 ⟨rfl, hb2⟩
     exact ⟨ret_bool HPO.out, specS_of HAX.out.1 HAX.out.2 ⟨hq.1.below hb2, hq.2.1.below hb2, hq.2.2.trans (hb2.mono hq.2.2.size)⟩ trivial, hS0.2.out.trans (hb2.mono hS0.2.out.size)⟩
    simp only [pt, sb, s0, s1]
    iterate 5 (refine yl (v := ?_) ?_ ?_; rotate_left; (intro w0 hS0; obtain ⟨⟨⟨⟨q0, q1, q2, q3, q4, q5, q6, q7⟩, ⟨x0, x1, x2, x3, x4, x5, x6, x7, x8, x9, x10, x11⟩, hpre⟩, hH⟩, hH2⟩ := hS0; go_simp; try with_reducible rfl); simp only [pt, sb, s0, s1])
    iterate 14 (refine nl ?_; simp only [pt, sb, s0, s1])
    iterate 2 (refine yl (v := ?_) ?_ ?_; rotate_left; (intro w0 hS0; obtain ⟨⟨⟨⟨q0, q1, q2, q3, q4, q5, q6, q7⟩, ⟨x0, x1, x2, x3, x4, x5, x6, x7, x8, x9, x10, x11⟩, hpre⟩, hH⟩, hH2⟩ := hS0; go_simp; try with_reducible rfl); simp only [pt, sb, s0, s1])
    refine tame_done (by kernel_rfl) ?_ _
    intro w1 hS1
    have HZ : Hid (PartBox w1 w.heap.size p ∧ PartD.At w1 p ∧ Below w.heap.size w w1) := hS1.1.2.out
    have HZW : Hid (Below wr.heap.size wr w1) := hS1.2.out
    clear hS1
    obtain ⟨z0, z1, z2, z3, z4, z5, z6, z7⟩ := HZ.out.1.cells
    go_wp2_with fail
    clear z0 z1 z2 z3 z4 z5 z6 z7
    go_loopw [4] (fun i wr => ∃ n : Nat, n ≤ k ∧ i = .int .i64 n ∧ Hid ((∀ m y, m < n → p.procs[m]? = some y → ¬ (y.since = x.since ∧ 0 < x.since)) ∧ Below w1.heap.size w1 wr)) (fun i _ => k - (intOf i).toNat)
    case atStart => exact ⟨0, Nat.zero_le _, rfl, ⟨fun m y hm => absurd hm (by omega), Below.refl _ _⟩⟩
    case round =>
     obtain ⟨n, hn, rfl, HI⟩ := hrel
     rename World => wi
     have HZ2 : Hid (PartBox wi w.heap.size p ∧ PartD.At wi p ∧ Below w.heap.size w wi) := ⟨HZ.out.1.below HI.out.2, HZ.out.2.1.below HI.out.2, HZ.out.2.2.trans (HI.out.2.mono HZ.out.2.2.size)⟩
     obtain ⟨z0, z1, z2, z3, z4, z5, z6, z7⟩ := HZ2.out.1.cells
     rw [HAX.out.1] at z2
     by_cases hnk : n < k
     ·have j0' : (0 : Int) ≤ (n : Int) := by omega
      have j1' : (n : Int) < (p.procs.length : Int) := by omega
      have j2' : (n : Int) < ((k : Nat) : Int) := by omega
      obtain ⟨v, hv⟩ : ∃ v, p.procs[n]? = some v := ⟨_, List.getElem?_eq_getElem (by omega)⟩
      obtain ⟨g1, e1, hat1⟩ := proc_at HZ2.out.2.1.1 hv
      obtain ⟨g2, e2, hat2⟩ := proc_at HZ2.out.2.1.1 HAX.out.2
      rw [HAX.out.1] at e1 e2
      cases e1
      cases e2
      have d0 := hat1.2.2.2.2.2.2.2.2.2.2.2
      have d1 := hat2.2.2.2.2.2.2.2.2.2.2.2
      have HV : Hid (p.procs[n]? = some v) := hv
      clear hat1 hat2 hv
      by_cases hsi : v.since = x.since
      ·have es : (v.since == x.since) = true := by simp [hsi]
       have HSI : Hid (v.since = x.since) := hsi
       clear hsi
       by_cases hpos : 0 < x.since
       ·have dpos : decide (0 < x.since) = true := decide_eq_true hpos
        have HN : Hid (partB p.pure = false) := partB_false fun hr => absurd ((partR_iff p).1 hr).2.2.2.2.2 (apart_not HAX.out.2 HV.out hnk ⟨HSI.out, hpos⟩)
        go_wp2_with fail
        go_quiet (fail)
        go_wp2
        go_ret
        exact ⟨ret_bool HN.out.symm, below_drewN HZ2.out.2.2 _⟩
       have dpos : decide (0 < x.since) = false := decide_eq_false hpos
       have HNX2 : Hid (¬ (v.since = x.since ∧ 0 < x.since)) := fun hh => hpos hh.2
       clear hpos
       go_wp2_with fail
       go_quiet (fail)
       go_wp2
       go_roundw
       case rel => exact ⟨n + 1, by omega, by go_num, ⟨fun m y hm hy => by rcases Nat.lt_succ_iff_lt_or_eq.1 hm with h5 | h5; exact HI.out.1 m y h5 hy; subst h5; rw [HV.out] at hy; cases hy; exact HNX2.out, below_drewN HI.out.2 _⟩⟩
       case measure => simp [intOf]; omega
      have es : (v.since == x.since) = false := by simp [hsi]
      have HNX2 : Hid (¬ (v.since = x.since ∧ 0 < x.since)) := fun hh => hsi hh.1
      clear hsi
      go_wp2_with fail
      go_quiet (fail)
      go_wp2
      go_roundw
      case rel => exact ⟨n + 1, by omega, by go_num, ⟨fun m y hm hy => by rcases Nat.lt_succ_iff_lt_or_eq.1 hm with h5 | h5; exact HI.out.1 m y h5 hy; subst h5; rw [HV.out] at hy; cases hy; exact HNX2.out, below_drewN HI.out.2 _⟩⟩
      case measure => simp [intOf]; omega
     ·have j2' : ¬ (n : Int) < ((k : Nat) : Int) := by omega
      have en : n = k := by omega
      have HAP : Hid (ApartD (p.procs.take (k + 1))) := apart_snoc HAX.out.2 HA.out.2.1 (fun m y hm hy => HI.out.1 m y (by omega) hy)
      have HY : Hid (thingsB (fun x : ProcD => x.id) (specOk p) 0 (p.procs.take (k + 1)) = true) := things_yes HA.out.1 HAX.out.2 HIN.out.1 HLT.out HIN.out.2
      clear en
      have HE : Hid (Below W1.heap.size W1 wi) := HA.out.2.2.trans ((HZW.out.trans (HI.out.2.mono HZW.out.size)).mono HA.out.2.2.size)
      go_wp2
      go_roundw
      case rel => exact ⟨k + 1, by omega, by go_num, ⟨HY.out, HAP.out, HE.out⟩⟩
      case measure => simp [intOf]; omega
   obtain ⟨j, rfl⟩ : ∃ j, k = j + 1 := ⟨k - 1, by omega⟩
   obtain ⟨y, hy⟩ : ∃ y, p.procs[j]? = some y := ⟨_, List.getElem?_eq_getElem (by omega)⟩
   have j0 : (0 : Int) ≤ (j : Int) := by omega
   have j1 : (j : Int) < (p.procs.length : Int) := by omega
   have i2 : (0 : Int) ≤ (j : Int) + 1 := by omega
   have i3 : (j : Int) + 1 < (p.procs.length : Int) := by omega
   have wk : IntKind.i64.wrap (j : Int) = (j : Int) := by rw [IntKind.wrap_i64]; omega
   have HLA : Hid (lastOf (fun x : ProcD => x.id) 0 (p.procs.take (j + 1)) = y.id ∧ p.procs[j]? = some y) := ⟨lastOf_take hy 0, hy⟩
   clear hy hk0 m0 m1 m2 m3 m4 m5 m6 m7
   by_cases hle : x.id ≤ y.id
   ·have dp : decide (x.id ≤ y.id) = true := decide_eq_true hle
    have HN : Hid (partB p.pure = false) := partB_false fun hr => by have h9 := ((partR_iff p).1 hr).2.2.2.2.1; rw [things_no HAX.out.2 (fun hh => by have h8 := hh.2.1; rw [HLA.out.1] at h8; have h8 : y.id < x.id := h8; omega)] at h9; cases h9
    refine tame_region (fun w' => SpecS w p x gs (j + 1) (PrevS gs j y) w' ∧ Hid (Below wr.heap.size wr w')) (by kernel_rfl) ⟨specS_of HAX.out.1 HAX.out.2 ⟨HB2.out.1, HB2.out.2.1, HB2.out.2.2.drew⟩ (prevS_of HAX.out.1 HLA.out.2 HB2.out.2.1), (Below.refl _ _).drew⟩ ?_
    iterate 6 (refine yl (v := ?_) ?_ ?_; rotate_left; (intro w0 hS0; obtain ⟨⟨⟨⟨q0, q1, q2, q3, q4, q5, q6, q7⟩, ⟨x0, x1, x2, x3, x4, x5, x6, x7, x8, x9, x10, x11⟩, hpre⟩, hH⟩, hH2⟩ := hS0; unfold PrevS at hpre; go_simp; try with_reducible rfl); simp only [pt, sb, s0, s1])
    refine cl (.bool true) 103 #[.agg #[.int .i64 p.id, .int .i64 p.next, .slice (some ⟨gs, 0, none⟩) p.procs.length p.procC, .slice p.semA p.sems.length p.semC, .slice p.eventA p.events.length p.eventC, .slice p.boardA p.boards.length p.boardC, .slice p.bufferA p.buffers.length p.bufferC, .slice p.portA p.ports.length p.portC], .agg #[.int .i64 x.id, .int .i64 x.prio, .slice x.progA x.prog.length x.progC, .int .i64 x.state, .int .i64 x.pc, .int .i64 x.left, .int .i64 x.wake, .int .i64 x.on, .string x.held, .string x.got, .int .i64 x.code, .int .i64 x.since]] ?_ ?_ ?_
    ·intro w0 hS0
     obtain ⟨⟨⟨⟨q0, q1, q2, q3, q4, q5, q6, q7⟩, ⟨x0, x1, x2, x3, x4, x5, x6, x7, x8, x9, x10, x11⟩, hpre⟩, hH⟩, hH2⟩ := hS0; unfold PrevS at hpre
     go_simp
     try with_reducible rfl
    ·intro w0 hS0
     have hq := hS0.1.2.out
     rw [show (Value.agg #[.int .i64 p.id, .int .i64 p.next, .slice (some ⟨gs, 0, none⟩) p.procs.length p.procC, .slice p.semA p.sems.length p.semC, .slice p.eventA p.events.length p.eventC, .slice p.boardA p.boards.length p.boardC, .slice p.bufferA p.buffers.length p.bufferC, .slice p.portA p.ports.length p.portC]) = .agg p.cells by unfold PartD.cells; rw [HAX.out.1]]
     refine (l3ProcOk_any p x w0 HFT.out.1.short HXS.out.1 HNX.out.1 HNX.out.2 hq.2.1 (proc_prog hq.2.1.1 HAX.out.2)).mono ?_
     rintro e w2 ⟨rfl, hb2⟩
     exact ⟨ret_bool HPO.out, specS_of HAX.out.1 HAX.out.2 ⟨hq.1.below hb2, hq.2.1.below hb2, hq.2.2.trans (hb2.mono hq.2.2.size)⟩ (prevS_of HAX.out.1 HLA.out.2 (hq.2.1.below hb2)), hS0.2.out.trans (hb2.mono hS0.2.out.size)⟩
    simp only [pt, sb, s0, s1]
    iterate 21 (refine yl (v := ?_) ?_ ?_; rotate_left; (intro w0 hS0; obtain ⟨⟨⟨⟨q0, q1, q2, q3, q4, q5, q6, q7⟩, ⟨x0, x1, x2, x3, x4, x5, x6, x7, x8, x9, x10, x11⟩, hpre⟩, hH⟩, hH2⟩ := hS0; unfold PrevS at hpre; go_simp; try with_reducible rfl); simp only [pt, sb, s0, s1])
    refine tame_done (by kernel_rfl) ?_ _
    intro w1 hS1
    have HZ : Hid (Below w.heap.size w w1) := hS1.1.2.out.2.2
    clear hS1
    go_wp2
    go_ret
    exact ⟨ret_bool HN.out.symm, HZ.out⟩
   have dp : decide (x.id ≤ y.id) = false := decide_eq_false hle
   have HLT : Hid (lastOf (fun x : ProcD => x.id) 0 (p.procs.take (j + 1)) < x.id) := by show _ < _; rw [HLA.out.1]; show y.id < x.id; omega
   clear hle
   refine tame_region (fun w' => SpecS w p x gs (j + 1) (PrevS gs j y) w' ∧ Hid (Below wr.heap.size wr w')) (by kernel_rfl) ⟨specS_of HAX.out.1 HAX.out.2 ⟨HB2.out.1, HB2.out.2.1, HB2.out.2.2.drew⟩ (prevS_of HAX.out.1 HLA.out.2 HB2.out.2.1), (Below.refl _ _).drew⟩ ?_
   iterate 6 (refine yl (v := ?_) ?_ ?_; rotate_left; (intro w0 hS0; obtain ⟨⟨⟨⟨q0, q1, q2, q3, q4, q5, q6, q7⟩, ⟨x0, x1, x2, x3, x4, x5, x6, x7, x8, x9, x10, x11⟩, hpre⟩, hH⟩, hH2⟩ := hS0; unfold PrevS at hpre; go_simp; try with_reducible rfl); simp only [pt, sb, s0, s1])
   refine cl (.bool true) 103 #[.agg #[.int .i64 p.id, .int .i64 p.next, .slice (some ⟨gs, 0, none⟩) p.procs.length p.procC, .slice p.semA p.sems.length p.semC, .slice p.eventA p.events.length p.eventC, .slice p.boardA p.boards.length p.boardC, .slice p.bufferA p.buffers.length p.bufferC, .slice p.portA p.ports.length p.portC], .agg #[.int .i64 x.id, .int .i64 x.prio, .slice x.progA x.prog.length x.progC, .int .i64 x.state, .int .i64 x.pc, .int .i64 x.left, .int .i64 x.wake, .int .i64 x.on, .string x.held, .string x.got, .int .i64 x.code, .int .i64 x.since]] ?_ ?_ ?_
   ·intro w0 hS0
    obtain ⟨⟨⟨⟨q0, q1, q2, q3, q4, q5, q6, q7⟩, ⟨x0, x1, x2, x3, x4, x5, x6, x7, x8, x9, x10, x11⟩, hpre⟩, hH⟩, hH2⟩ := hS0; unfold PrevS at hpre
    go_simp
    try with_reducible rfl
   ·intro w0 hS0
    have hq := hS0.1.2.out
    rw [show (Value.agg #[.int .i64 p.id, .int .i64 p.next, .slice (some ⟨gs, 0, none⟩) p.procs.length p.procC, .slice p.semA p.sems.length p.semC, .slice p.eventA p.events.length p.eventC, .slice p.boardA p.boards.length p.boardC, .slice p.bufferA p.buffers.length p.bufferC, .slice p.portA p.ports.length p.portC]) = .agg p.cells by unfold PartD.cells; rw [HAX.out.1]]
    refine (l3ProcOk_any p x w0 HFT.out.1.short HXS.out.1 HNX.out.1 HNX.out.2 hq.2.1 (proc_prog hq.2.1.1 HAX.out.2)).mono ?_
    rintro e w2 ⟨rfl, hb2⟩
    exact ⟨ret_bool HPO.out, specS_of HAX.out.1 HAX.out.2 ⟨hq.1.below hb2, hq.2.1.below hb2, hq.2.2.trans (hb2.mono hq.2.2.size)⟩ (prevS_of HAX.out.1 HLA.out.2 (hq.2.1.below hb2)), hS0.2.out.trans (hb2.mono hS0.2.out.size)⟩
   simp only [pt, sb, s0, s1]
   iterate 21 (refine yl (v := ?_) ?_ ?_; rotate_left; (intro w0 hS0; obtain ⟨⟨⟨⟨q0, q1, q2, q3, q4, q5, q6, q7⟩, ⟨x0, x1, x2, x3, x4, x5, x6, x7, x8, x9, x10, x11⟩, hpre⟩, hH⟩, hH2⟩ := hS0; unfold PrevS at hpre; go_simp; try with_reducible rfl); simp only [pt, sb, s0, s1])
   refine tame_done (by kernel_rfl) ?_ _
   intro w1 hS1
   have HZ : Hid (PartBox w1 w.heap.size p ∧ PartD.At w1 p ∧ Below w.heap.size w w1) := hS1.1.2.out
   have HZW : Hid (Below wr.heap.size wr w1) := hS1.2.out
   clear hS1
   obtain ⟨z0, z1, z2, z3, z4, z5, z6, z7⟩ := HZ.out.1.cells
   go_wp2_with fail
   clear z0 z1 z2 z3 z4 z5 z6 z7
   go_loopw [4] (fun i wr => ∃ n : Nat, n ≤ (j + 1) ∧ i = .int .i64 n ∧ Hid ((∀ m y, m < n → p.procs[m]? = some y → ¬ (y.since = x.since ∧ 0 < x.since)) ∧ Below w1.heap.size w1 wr)) (fun i _ => (j + 1) - (intOf i).toNat)
   case atStart => exact ⟨0, Nat.zero_le _, rfl, ⟨fun m y hm => absurd hm (by omega), Below.refl _ _⟩⟩
   case round =>
    obtain ⟨n, hn, rfl, HI⟩ := hrel
    rename World => wi
    have HZ2 : Hid (PartBox wi w.heap.size p ∧ PartD.At wi p ∧ Below w.heap.size w wi) := ⟨HZ.out.1.below HI.out.2, HZ.out.2.1.below HI.out.2, HZ.out.2.2.trans (HI.out.2.mono HZ.out.2.2.size)⟩
    obtain ⟨z0, z1, z2, z3, z4, z5, z6, z7⟩ := HZ2.out.1.cells
    rw [HAX.out.1] at z2
    by_cases hnk : n < (j + 1)
    ·have j0' : (0 : Int) ≤ (n : Int) := by omega
     have j1' : (n : Int) < (p.procs.length : Int) := by omega
     have j2' : (n : Int) < (((j + 1) : Nat) : Int) := by omega
     obtain ⟨v, hv⟩ : ∃ v, p.procs[n]? = some v := ⟨_, List.getElem?_eq_getElem (by omega)⟩
     obtain ⟨g1, e1, hat1⟩ := proc_at HZ2.out.2.1.1 hv
     obtain ⟨g2, e2, hat2⟩ := proc_at HZ2.out.2.1.1 HAX.out.2
     rw [HAX.out.1] at e1 e2
     cases e1
     cases e2
     have d0 := hat1.2.2.2.2.2.2.2.2.2.2.2
     have d1 := hat2.2.2.2.2.2.2.2.2.2.2.2
     have HV : Hid (p.procs[n]? = some v) := hv
     clear hat1 hat2 hv
     by_cases hsi : v.since = x.since
     ·have es : (v.since == x.since) = true := by simp [hsi]
      have HSI : Hid (v.since = x.since) := hsi
      clear hsi
      by_cases hpos : 0 < x.since
      ·have dpos : decide (0 < x.since) = true := decide_eq_true hpos
       have HN : Hid (partB p.pure = false) := partB_false fun hr => absurd ((partR_iff p).1 hr).2.2.2.2.2 (apart_not HAX.out.2 HV.out hnk ⟨HSI.out, hpos⟩)
       go_wp2_with fail
       go_quiet (fail)
       go_wp2
       go_ret
       exact ⟨ret_bool HN.out.symm, below_drewN HZ2.out.2.2 _⟩
      have dpos : decide (0 < x.since) = false := decide_eq_false hpos
      have HNX2 : Hid (¬ (v.since = x.since ∧ 0 < x.since)) := fun hh => hpos hh.2
      clear hpos
      go_wp2_with fail
      go_quiet (fail)
      go_wp2
      go_roundw
      case rel => exact ⟨n + 1, by omega, by go_num, ⟨fun m y hm hy => by rcases Nat.lt_succ_iff_lt_or_eq.1 hm with h5 | h5; exact HI.out.1 m y h5 hy; subst h5; rw [HV.out] at hy; cases hy; exact HNX2.out, below_drewN HI.out.2 _⟩⟩
      case measure => simp [intOf]; omega
     have es : (v.since == x.since) = false := by simp [hsi]
     have HNX2 : Hid (¬ (v.since = x.since ∧ 0 < x.since)) := fun hh => hsi hh.1
     clear hsi
     go_wp2_with fail
     go_quiet (fail)
     go_wp2
     go_roundw
     case rel => exact ⟨n + 1, by omega, by go_num, ⟨fun m y hm hy => by rcases Nat.lt_succ_iff_lt_or_eq.1 hm with h5 | h5; exact HI.out.1 m y h5 hy; subst h5; rw [HV.out] at hy; cases hy; exact HNX2.out, below_drewN HI.out.2 _⟩⟩
     case measure => simp [intOf]; omega
    ·have j2' : ¬ (n : Int) < (((j + 1) : Nat) : Int) := by omega
     have en : n = (j + 1) := by omega
     have HAP : Hid (ApartD (p.procs.take ((j + 1) + 1))) := apart_snoc HAX.out.2 HA.out.2.1 (fun m y hm hy => HI.out.1 m y (by omega) hy)
     have HY : Hid (thingsB (fun x : ProcD => x.id) (specOk p) 0 (p.procs.take ((j + 1) + 1)) = true) := things_yes HA.out.1 HAX.out.2 HIN.out.1 HLT.out HIN.out.2
     clear en
     have HE : Hid (Below W1.heap.size W1 wi) := HA.out.2.2.trans ((HZW.out.trans (HI.out.2.mono HZW.out.size)).mono HA.out.2.2.size)
     go_wp2
     go_roundw
     case rel => exact ⟨(j + 1) + 1, by omega, by go_num, ⟨HY.out, HAP.out, HE.out⟩⟩
     case measure => simp [intOf]; omega
  ·have i1 : ¬ (k : Int) < (p.procs.length : Int) := by omega
   have ek : p.procs.take k = p.procs := List.take_of_length_le (by omega)
   have HY : Hid (partB p.pure = true) := partB_true ((partR_iff p).2 ⟨H1.out, H2.out, H3.out, H4.out, by have := HA.out.1; rwa [ek] at this, by have := HA.out.2.1; rwa [ek] at this⟩)
   clear ek
   go_wp2
   go_ret
   exact ⟨ret_bool HY.out.symm, HB2.out.2.2⟩
end Go.Proofs.YtkbcplnlehdjfaaGreat
