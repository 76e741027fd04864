/- The program's ReadProg: a reader that gave up, recovered. -/
import Derived.Test.YtlaeilcipibelaaGreatDoorMustProg
import Derived.Defers
import Derived.Recover
import Derived.Laws.Pointers
namespace Go.Proofs.YtlaeilcipibelaaGreatDoor
open Go.RowKit

theorem catch_panicking (p q : Addr) (v0 v1 : Value) (u : TypeId) (pv : Value) (older : List PanicEntry) (w : World) (hc : w.cell? p = some v0) (hz : w.frozen? p = false) (hc' : w.cell? q = some v1) (hz' : w.frozen? q = false) (hpq : p.block ≠ q.block) :
    CallsD Tryz.prog 32 #[.pointer (some p), .pointer (some q)] (.panicking ({ v := .iface u pv, recovered := false } :: older)) w fun e u' w' =>
      e = .returned (.tuple #[]) ∧ u' = .panicking ({ v := .iface u pv, recovered := true } :: older) ∧ w' = (w.setCell p (.slice none 0 0)).setCell q (.bool false) := by
  have hq2 : (w.setCell p (.slice none 0 0)).cell? q = some v1 := (World.cell?_of_block (w := w) (a := q) (Below.heap_setCell _ _ _ _ (fun e => hpq e.symm))).trans hc'
  refine callsD_of_wpS Tryz.func32 rfl fun c₀ cs hu => ?_
  apply wpS_seq
  apply wpS_region
  simp [wpOpsS, go_sem, recoverD, hu, Tryz.ntmps32, Exit.thenS]
  refine wpS_cond (t := true) (by simp [Act.eval, Array.replicate]) ?_
  simp only [if_true]
  apply wpS_region
  simp [wpOpsS, go_sem, hc, hz, hq2, hz', bodyPostS, results, Tryz.results32]

theorem catch_idle (p q : Addr) (w : World) :
    CallsD Tryz.prog 32 #[.pointer (some p), .pointer (some q)] .returning w fun e u' w' => e = .returned (.tuple #[]) ∧ u' = .returning ∧ w' = w := by
  refine callsD_of_wpS Tryz.func32 rfl fun c₀ cs hu => ?_
  apply wpS_seq
  apply wpS_region
  simp [wpOpsS, go_sem, recoverD, hu, Tryz.ntmps32, Exit.thenS]
  refine wpS_cond (t := false) (by simp [Act.eval, Array.replicate]) ?_
  simp only [Bool.false_eq_true, if_false]
  refine wpS_of_wp (wp_skip ?_)
  cases c₀
  simp_all [bodyPostS, results, Tryz.results32]

/-- The two results lie in new blocks. -/
structure TwoAt (w x : World) (v0 v1 : Value) : Prop where
  r0 : x.heap[w.heap.size]? = some (.cells #[v0] 24 (0, 0))
  r1 : x.heap[w.heap.size + 1]? = some (.cells #[v1] 4 (0, 0))
  bel : Below w.heap.size w x
theorem TwoAt.c0 {w x : World} {v0 v1 : Value} (h : TwoAt w x v0 v1) : x.cell? ⟨w.heap.size, 0, none⟩ = some v0 := by rw [cell_of_row _ _ _ _ _ _ h.r0]; rfl
theorem TwoAt.c1 {w x : World} {v0 v1 : Value} (h : TwoAt w x v0 v1) : x.cell? ⟨w.heap.size + 1, 0, none⟩ = some v1 := by rw [cell_of_row _ _ _ _ _ _ h.r1]; rfl
theorem TwoAt.z0 {w x : World} {v0 v1 : Value} (h : TwoAt w x v0 v1) : x.frozen? ⟨w.heap.size, 0, none⟩ = false := frozen_of_row _ _ _ _ _ h.r0
theorem TwoAt.z1 {w x : World} {v0 v1 : Value} (h : TwoAt w x v0 v1) : x.frozen? ⟨w.heap.size + 1, 0, none⟩ = false := frozen_of_row _ _ _ _ _ h.r1
theorem TwoAt.below {w x y : World} {v0 v1 : Value} (h : TwoAt w x v0 v1) (hb : Below x.heap.size x y) : TwoAt w y v0 v1 :=
  ⟨(hb.block _ (Array.getElem?_eq_some_iff.1 h.r0).1).trans h.r0, (hb.block _ (Array.getElem?_eq_some_iff.1 h.r1).1).trans h.r1, h.bel.trans (hb.mono h.bel.size)⟩
theorem TwoAt.set {w x : World} {v0 v1 : Value} (h : TwoAt w x v0 v1) (u0 u1 : Value) : TwoAt w ((x.setCell ⟨w.heap.size, 0, none⟩ u0).setCell ⟨w.heap.size + 1, 0, none⟩ u1) u0 u1 := by
  have h0 := heap_setCell_same _ w.heap.size 0 _ _ u0 h.r0
  have e1 : (x.setCell ⟨w.heap.size, 0, none⟩ u0).heap[w.heap.size + 1]? = x.heap[w.heap.size + 1]? := Below.heap_setCell _ _ _ _ (by simp)
  have h1 := heap_setCell_same _ (w.heap.size + 1) 0 _ _ u1 (e1.trans h.r1)
  refine ⟨(Below.heap_setCell _ _ _ _ (by simp)).trans (by simpa using h0), by simpa using h1, (h.bel.setCell (Nat.le_refl _) _).setCell (by simp) _⟩

set_option maxHeartbeats 4000000 in
theorem readOrNone_any (s : ByteArray) (w : World) (hs : s.size ≤ 1048576) (he : EnvW w) :
    Calls Tryz.prog 18 #[.string s] w fun e w' => PRdEnds s w e w' ∧ Below w.heap.size w w' := by
  have hmf : ∀ (fn : Fn) (first cap : Array Value) (w : World), (Instr.makeFunc fn first cap).run Tryz.prog w = .ok (.func fn first cap) w := fun _ _ _ _ => rfl
  have HE : Hid (EnvW w) := he
  clear he
  have HR0 : Hid (TwoAt w ((w.alloc (.cells #[.slice none 0 0] 24)).alloc (.cells #[.bool false] 4)) (.slice none 0 0) (.bool false)) := ⟨(heap_alloc_old _ _ (by simp)).trans (heap_alloc_new _ _), by simpa using heap_alloc_new (w.alloc (.cells #[.slice none 0 0] 24)) (.cells #[.bool false] 4), ((Below.refl _ _).alloc (Nat.le_refl _) _).alloc (by simp) _⟩
  go_enter_defers Tryz.func18, Tryz.ntmps18
  go_wp2_with fail
  generalize (w.alloc (.cells #[.slice none 0 0] 24)).alloc (.cells #[.bool false] 4) = W0 at *
  refine (mustReadProg_any s W0 hs (HE.out.below HR0.out.bel)).mono ?_
  rintro e w1 ⟨he, hb1⟩
  have HR1 : Hid (TwoAt w w1 (.slice none 0 0) (.bool false)) := HR0.out.below hb1
  have hz0 := HR0.out.bel.size
  have c0 := HR1.out.c0
  have c1 := HR1.out.c1
  have z0 := HR1.out.z0
  have z1 := HR1.out.z1
  clear hb1
  rcases he with ⟨g, os, hi, rfl, hg, hrow⟩ | ⟨rfl, hno⟩
  · have HI : Hid (ProgIs s os ∧ W0.heap.size ≤ g ∧ w1.rowIs g 37 (os.length * 4) (opVs os)) := ⟨hi, hg, hrow⟩
    clear hi hg hrow
    go_wp2
    refine leaves_cons (f := 32) (args := #[.pointer (some ⟨w.heap.size, 0, none⟩), .pointer (some ⟨w.heap.size + 1, 0, none⟩)]) (by simp) (by simp [go_sem]) ?_
    refine (catch_idle _ _ _).mono ?_
    rintro e u' w'' ⟨rfl, rfl, rfl⟩
    have HT : Hid (TwoAt w _ (.slice (some ⟨g, 0, none⟩) os.length os.length) (.bool true)) := HR1.out.set _ _
    have HG : Hid (w.heap.size + 1 < W0.heap.size) := (Array.getElem?_eq_some_iff.1 HR0.out.r1).1
    have HB : Hid (((w1.setCell ⟨w.heap.size, 0, none⟩ (.slice (some ⟨g, 0, none⟩) os.length os.length)).setCell ⟨w.heap.size + 1, 0, none⟩ (.bool true)).heap[g]? = w1.heap[g]?) := (Below.heap_setCell _ _ _ _ (by have := HI.out.2.1; have := HG.out; simp; omega)).trans (Below.heap_setCell _ _ _ _ (by have := HI.out.2.1; have := HG.out; simp; omega))
    generalize (w1.setCell ⟨w.heap.size, 0, none⟩ (.slice (some ⟨g, 0, none⟩) os.length os.length)).setCell ⟨w.heap.size + 1, 0, none⟩ (.bool true) = W at *
    refine ⟨.tuple #[.slice (some ⟨g, 0, none⟩) os.length os.length, .bool true], ?_, .inl ⟨g, os, os.length, HI.out.1, rfl, by have := HI.out.2.1; omega, ?_⟩, HT.out.bel⟩
    · have d0 := HT.out.c0
      have d1 := HT.out.c1
      simp [results, Tryz.results18, go_sem, d0, d1]
    · obtain ⟨cur, q1, q2, q3⟩ := HI.out.2.2
      exact ⟨cur, HB.out.trans q1, by omega, q3⟩
  · have HZ : Hid (∀ os, ¬ ProgIs s os) := hno
    clear hno
    go_wp2
    refine leaves_cons (f := 32) (args := #[.pointer (some ⟨w.heap.size, 0, none⟩), .pointer (some ⟨w.heap.size + 1, 0, none⟩)]) (by simp) (by simp [go_sem]) ?_
    refine (catch_panicking ⟨w.heap.size, 0, none⟩ ⟨w.heap.size + 1, 0, none⟩ _ _ _ _ [] _ c0 z0 c1 z1 (by simp)).mono ?_
    rintro e u' w'' ⟨rfl, rfl, rfl⟩
    have HT : Hid (TwoAt w _ (.slice none 0 0) (.bool false)) := HR1.out.set _ _
    generalize (w1.setCell ⟨w.heap.size, 0, none⟩ (.slice none 0 0)).setCell ⟨w.heap.size + 1, 0, none⟩ (.bool false) = W at *
    refine ⟨.tuple #[.slice none 0 0, .bool false], ?_, .inr ⟨rfl, HZ.out⟩, HT.out.bel⟩
    have d0 := HT.out.c0
    have d1 := HT.out.c1
    simp [results, Tryz.results18, go_sem, d0, d1]

theorem implReadProg_any (s : ByteArray) (w : World) (hs : s.size ≤ 1048576) (he : EnvW w) :
    Calls Tryz.prog 7 #[.string s] w fun e w' => PRdEnds s w e w' ∧ Below w.heap.size w w' := by
  go_enter Tryz.func7, Tryz.ntmps7
  go_wp2_with fail
  refine (readOrNone_any s w hs he).mono ?_
  rintro e w1 ⟨he1, hb1⟩
  rcases he1 with ⟨g, os, c, hi, rfl, h⟩ | ⟨rfl, hno⟩
  · go_wp2
    go_ret2
    exact ⟨.inl ⟨g, os, c, hi, rfl, h⟩, hb1⟩
  · go_wp2
    go_ret2
    exact ⟨.inr ⟨rfl, hno⟩, hb1⟩

end Go.Proofs.YtlaeilcipibelaaGreatDoor
