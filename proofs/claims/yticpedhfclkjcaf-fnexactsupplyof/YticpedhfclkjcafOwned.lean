/- The program's count of the times that a part owns, by a range over the table's windows. -/
import Derived.Test.YticpedhfclkjcafSupply
import Derived.Deep.Cut
namespace Go.Proofs.Yticpedhfclkjcaf
open Go.RowKit
attribute [local go_sem] Oper.semAt_some

theorem four_blocks (w : World) (A B C D : Obj) : ((((w.alloc A).alloc B).alloc C).alloc D).heap[w.heap.size]? = some A ∧ ((((w.alloc A).alloc B).alloc C).alloc D).heap[w.heap.size + 1]? = some B ∧ ((((w.alloc A).alloc B).alloc C).alloc D).heap[w.heap.size + 1 + 1]? = some C ∧ ((((w.alloc A).alloc B).alloc C).alloc D).heap[w.heap.size + 1 + 1 + 1]? = some D ∧ ((((w.alloc A).alloc B).alloc C).alloc D).heap.size = w.heap.size + 4 := by
  refine ⟨?_, ?_, ?_, ?_, by simp⟩
  · rw [heap_alloc_old _ _ (by simp only [World.size_alloc]; omega), heap_alloc_old _ _ (by simp only [World.size_alloc]; omega), heap_alloc2_old]
  · rw [heap_alloc_old _ _ (by simp only [World.size_alloc]; omega), heap_alloc_old _ _ (by simp only [World.size_alloc]; omega), heap_alloc2_new]
  · rw [heap_alloc_old _ _ (by simp only [World.size_alloc]; omega), heap_alloc3_new]
  · have := heap_alloc_new (((w.alloc A).alloc B).alloc C) D
    rwa [World.size_alloc, World.size_alloc, World.size_alloc] at this

set_option maxHeartbeats 1000000 in
theorem ownedBefore_in (major part t : Int) (cs : Array Value) (len : Nat) (Z : Nat → Int) (w : World) (hl : len ≤ 20) (h1 : 1 ≤ major) (h2 : major ≤ 1000) (h3 : ∀ i, i < len → winAt major Z i = true) (t0 : 0 ≤ t) (t1 : t ≤ 2000000000) (hc : IsTab major len Z cs) :
    CallsIn Fence.wide 6 Try.prog 35 #[.agg cs, .int .i64 part, .int .i64 t] w fun e w' => e = .returned (.int .i64 (supZ major len Z part t)) ∧ Below w.heap.size w w' := by
  have hm : ¬ major = 0 := by omega
  have HC : Hid (IsTab major len Z cs) := hc
  have hsz := hc.1
  have hlt0 : 0 < cs.size := by omega
  have hmaj : cs[0] = .int .i64 major := by have := hc.major; rw [Array.getElem?_eq_getElem hlt0] at this; exact Option.some.inj this
  have H3 : Hid (∀ i, i < len → winAt major Z i = true) := h3
  clear h3 hc
  have x0 : 0 ≤ t % major := Int.emod_nonneg _ hm
  have x1 : t % major < major := Int.emod_lt_of_pos _ (by omega)
  have q0 : 0 ≤ t / major := Int.ediv_nonneg t0 (by omega)
  have q1 : t / major ≤ 2000000000 := Int.le_trans (Int.ediv_le_self _ t0) t1
  have hmf : ∀ (fn : Fn) (first cap : Array Value) (w : World), (Instr.makeFunc fn first cap).run Try.prog w = .ok (.func fn first cap) w := fun _ _ _ _ => rfl
  refine callsIn_of_wp_marks Try.func35 rfl trivial ?_ rfl
  refine wpIn_wide.2 ?_
  simp only [Try.ntmps35, List.size_toArray, List.length_cons, List.length_nil, Nat.reduceAdd, Nat.reduceSub, Array.replicate_succ, Array.replicate_zero, List.push_toArray, List.append_toArray, List.nil_append, List.cons_append]
  go_wp2
  go_cut [7, 8] from 11 (fun v7 v8 wx => ∃ b7 b8, v7 = .pointer (some ⟨b7, 0, none⟩) ∧ v8 = .pointer (some ⟨b8, 0, none⟩) ∧ wx.heap[b7]? = some (.cells #[.int .i64 (t / major)] 2 (0, 0)) ∧ wx.heap[b8]? = some (.cells #[.int .i64 (t % major)] 2 (0, 0)) ∧ wx.heap[w.heap.size]? = some (.cells cs 50 (0, 0)) ∧ wx.heap[w.heap.size + 1]? = some (.cells #[.int .i64 part] 2 (0, 0)) ∧ wx.heap.size = w.heap.size + 4 ∧ Below w.heap.size w wx)
  case first =>
    have nz : ((w.alloc (.cells cs 50)).alloc (.cells #[.int .i64 part] 2)).cell? ⟨w.heap.size, 0, none⟩ = some (.int .i64 major) := by rw [World.cell?_alloc2_first]; exact HC.out.major
    have nn := World.new_ne _ _ nz
    go_region_held3 (fun w' => w'.cell? ⟨w.heap.size, 0, none⟩ = some (.int .i64 major)) (go_keep) (fail)
    all_goals
      have td : t.tdiv major = t / major := Int.tdiv_eq_ediv_of_nonneg t0
      have tm : t.tmod major = t % major := Int.tmod_eq_emod_of_nonneg t0
      have tw : IntKind.i64.wrap (t / major) = t / major := wrapI (by omega) (by omega)
    · go_wp2
      go_meet
      case rel =>
        obtain ⟨f0, f1, f2, f3, f4⟩ := four_blocks w (.cells cs 50) (.cells #[.int .i64 part] 2) (.cells #[.int .i64 (t / major)] 2) (.cells #[.int .i64 (t % major)] 2)
        exact ⟨_, _, rfl, rfl, f2, f3, f0, f1, f4, by go_grown⟩
    · go_wp2
      go_meet
      case rel =>
        obtain ⟨f0, f1, f2, f3, f4⟩ := four_blocks w (.cells cs 50) (.cells #[.int .i64 part] 2) (.cells #[.int .i64 (t % major)] 2) (.cells #[.int .i64 (t / major)] 2)
        exact ⟨_, _, rfl, rfl, f3, f2, f0, f1, f4, by go_grown⟩
  case rest =>
    obtain ⟨b7, b8, rfl, rfl, f7, f8, f0, f1, fz, hB⟩ := hcut
    have c7 : wc.cell? ⟨b7, 0, none⟩ = some (.int .i64 (t / major)) := by simp [World.cell?, f7]
    have F0 : Hid (wc.heap[w.heap.size]? = some (.cells cs 50 (0, 0))) := f0
    go_wp2_with (refine wpList_load_row rfl 50 (.tmp 3) rfl w.heap.size (by rfl) 50 cs (0, 0) _ ?hg Try.underlying50 rfl (tabSize' cs hsz) ?_; (case hg => exact (heap_alloc_old _ _ (by omega)).trans F0.out))
    obtain ⟨W0, hW0⟩ : ∃ W0, (wc.alloc (Obj.cells #[Value.int IntKind.i64 0] 2)) = W0 := ⟨_, rfl⟩
    have z0 : W0.heap.size = w.heap.size + 5 := by rw [← hW0, World.size_alloc, fz]
    have l7 : b7 < wc.heap.size := (Array.getElem?_eq_some_iff.1 f7).1
    have l8 : b8 < wc.heap.size := (Array.getElem?_eq_some_iff.1 f8).1
    have g7 : W0.heap[b7]? = some (.cells #[.int .i64 (t / major)] 2 (0, 0)) := by rw [← hW0]; exact (heap_alloc_old _ _ l7).trans f7
    have g8 : W0.heap[b8]? = some (.cells #[.int .i64 (t % major)] 2 (0, 0)) := by rw [← hW0]; exact (heap_alloc_old _ _ l8).trans f8
    have g1 : W0.heap[w.heap.size + 1]? = some (.cells #[.int .i64 part] 2 (0, 0)) := by rw [← hW0]; exact (heap_alloc_old _ _ (by omega)).trans f1
    have g4 : W0.heap[w.heap.size + 4]? = some (.cells #[.int .i64 0] 2 (0, 0)) := by rw [← hW0, ← fz]; exact heap_alloc_new _ _
    have gB : Below w.heap.size w W0 := by rw [← hW0]; exact hB.alloc (by omega) _
    rw [hW0]
    clear hW0 f7 f8 f1 F0 f0 c7
    obtain ⟨x, hx⟩ : ∃ x, t % major = x := ⟨_, rfl⟩
    obtain ⟨q, hq⟩ : ∃ q, t / major = q := ⟨_, rfl⟩
    have HSUP : Hid (supZ major len Z part t = q * lenTo Z part len + restTo Z part x len) := by rw [← hx, ← hq]; rfl
    rw [hx] at x0 x1 g8
    rw [hq] at q0 q1 g7
    clear hx hq
    refine wpIn_wide.1 (wp_rangeBound (gf := 37) (fa := #[.agg cs]) rfl (enters_of Try.func37 (by kernel_rfl) rfl) (encs := fun k => #[winV Z k]) (all_iter cs major len Z HC.out hl W0.heap.size) (fun _ => rfl)
      (fun k X => X.heap[w.heap.size + 4]? = some (.cells #[.int .i64 (q * lenTo Z part k + restTo Z part x k)] 2 (0, 0)) ∧ X.heap[b7]? = some (.cells #[.int .i64 q] 2 (0, 0)) ∧ X.heap[b8]? = some (.cells #[.int .i64 x] 2 (0, 0)) ∧ X.heap[w.heap.size + 1]? = some (.cells #[.int .i64 part] 2 (0, 0)) ∧ Below w.heap.size w X)
      (fun _ => False)
      (fun k X Y h hj => ⟨(h.block _ (by omega)).trans hj.1, (h.block _ (by omega)).trans hj.2.1, (h.block _ (by omega)).trans hj.2.2.1, (h.block _ (by omega)).trans hj.2.2.2.1, hj.2.2.2.2.trans (h.mono (by omega))⟩)
      (fun X Y h hj => hj)
      ⟨by simpa [lenTo, restTo] using g4, g7, g8, g1, gB⟩
      (fun k a' X => ∃ Bx, X.heap[Bx]? = some (.cells #[.int .i64 (Z (k * 3)), .int .i64 (Z (k * 3 + 1)), .int .i64 (Z (k * 3 + 2))] 47 (0, 0)) ∧ a' = ⟨#[Value.agg cs, Value.int IntKind.i64 part, Value.int IntKind.i64 t,
          Value.pointer (some { block := w.heap.size, off := 0 }),
          Value.pointer (some { block := w.heap.size + 1, off := 0 }), undef, Value.int IntKind.i64 0,
          Value.pointer (some { block := b7, off := 0 }), Value.pointer (some { block := b8, off := 0 }),
          Value.pointer (some { block := w.heap.size + 4, off := 0 }), Value.pointer (some { block := Bx, off := 0 }), u11, u12, u13, u14, u15, u16, u17, u18,
          Value.agg cs, Value.func (Fn.func 37) #[Value.agg cs] #[], winV Z k, u22, u23, u24, u25, u26, u27, u28, u29, u30,
          u31, u32, u33, u34, u35, u36, u37, u38, u39, u40, u41], []⟩)
      (fun k a' X l r o hl' ha => by
        obtain ⟨Bx, h1, h2⟩ := ha
        exact ⟨Bx, (World.putObj_heap_other (fun e => by subst e; rw [hl'] at h1; cases h1)).trans h1, h2⟩)
      ?assign ?body ?done ?stop)
    case assign =>
      intro l k W K hk hj hz hK
      simp only [winV_eq]
      gi_wp2
      have al : ∀ {b : Nat} {o : Obj} (o' : Obj), W.heap[b]? = some o → (W.alloc o').heap[b]? = some o := fun o' h => (Below.heap_alloc _ _ _ (Array.getElem?_eq_some_iff.1 h).1).trans h
      refine hK _ _ (Kept.alloc _ _ _) ⟨al _ hj.1, al _ hj.2.1, al _ hj.2.2.1, al _ hj.2.2.2.1, hj.2.2.2.2.alloc (by omega) _⟩ ⟨W.heap.size, heap_alloc_new _ _, rfl⟩
    case body =>
      rintro l k a' W hk ⟨j4, j7, j8, j1, hbel⟩ ⟨Bx, hbx, rfl⟩ hz
      have hw := right_win H3.out hk
      have c0 : W.cell? ⟨Bx, 0, none⟩ = some (.int .i64 (Z (k * 3))) := by simp [World.cell?, hbx]
      have c1 : W.cell? ⟨Bx, 1, none⟩ = some (.int .i64 (Z (k * 3 + 1))) := by simp [World.cell?, hbx]
      have c2 : W.cell? ⟨Bx, 2, none⟩ = some (.int .i64 (Z (k * 3 + 2))) := by simp [World.cell?, hbx]
      have d4 : W.cell? ⟨w.heap.size + 4, 0, none⟩ = some (.int .i64 (q * lenTo Z part k + restTo Z part x k)) := by simp [World.cell?, j4]
      have d7 : W.cell? ⟨b7, 0, none⟩ = some (.int .i64 q) := by simp [World.cell?, j7]
      have d8 : W.cell? ⟨b8, 0, none⟩ = some (.int .i64 x) := by simp [World.cell?, j8]
      have d1 : W.cell? ⟨w.heap.size + 1, 0, none⟩ = some (.int .i64 part) := by simp [World.cell?, j1]
      have f4 : W.frozen? ⟨w.heap.size + 4, 0, none⟩ = false := frozen_of_row W _ _ _ _ j4
      have HJ : Hid (W.heap[w.heap.size + 4]? = some (.cells #[.int .i64 (q * lenTo Z part k + restTo Z part x k)] 2 (0, 0)) ∧ W.heap[b7]? = some (.cells #[.int .i64 q] 2 (0, 0)) ∧ W.heap[b8]? = some (.cells #[.int .i64 x] 2 (0, 0)) ∧ W.heap[w.heap.size + 1]? = some (.cells #[.int .i64 part] 2 (0, 0)) ∧ Below w.heap.size w W) := ⟨j4, j7, j8, j1, hbel⟩
      clear j4 j7 j8 j1 hbel hbx
      have lb := lenTo_bd (part := part) h2 H3.out k (by omega)
      have rb := restTo_bd (part := part) (x := x) h2 H3.out k (by omega)
      have mb := mul_bd q0 q1 lb.1 (by omega)
      have HL : Hid (lenTo Z part (k + 1) = lenTo Z part k + if Z (k * 3 + 2) = part then Z (k * 3 + 1) else 0) := rfl
      have HS : Hid (restTo Z part x (k + 1) = restTo Z part x k + if Z (k * 3 + 2) = part then cutZ (Z (k * 3 + 1)) (Z (k * 3)) x else 0) := rfl
      simp only [winV_eq]
      generalize Z (k * 3) = a at *
      generalize Z (k * 3 + 1) = l at *
      generalize Z (k * 3 + 2) = p at *
      obtain ⟨w0, w1, w2, w3, w4⟩ := hw
      have mb2 := mul_bd (l := l) q0 q1 (by omega) (by omega)
      by_cases qp : p = part
      · have qb : (p == part) = true := by simp [qp]
        have HL' : Hid (lenTo Z part (k + 1) = lenTo Z part k + l) := by have := HL.out; rw [if_pos qp] at this; exact this
        have HS' : Hid (restTo Z part x (k + 1) = restTo Z part x k + cutZ l a x) := by have := HS.out; rw [if_pos qp] at this; exact this
        clear HL HS
        have fin : ∀ (c : Int) (a' : Act), c = cutZ l a x → roundEnd (w.heap.size + 5) (fun k X => X.heap[w.heap.size + 4]? = some (.cells #[.int .i64 (q * lenTo Z part k + restTo Z part x k)] 2 (0, 0)) ∧ X.heap[b7]? = some (.cells #[.int .i64 q] 2 (0, 0)) ∧ X.heap[b8]? = some (.cells #[.int .i64 x] 2 (0, 0)) ∧ X.heap[w.heap.size + 1]? = some (.cells #[.int .i64 part] 2 (0, 0)) ∧ Below w.heap.size w X) (fun _ => False) k W .normal a' (W.setCell ⟨w.heap.size + 4, 0, none⟩ (.int .i64 (q * lenTo Z part k + restTo Z part x k + (q * l + c)))) := by
          rintro c a' rfl
          refine ⟨Kept.setCell _ (by show w.heap.size + 4 < w.heap.size + 5; omega) _, ?_, (Below.heap_setCell _ _ _ _ (by simp; omega)).trans HJ.out.2.1, (Below.heap_setCell _ _ _ _ (by simp; omega)).trans HJ.out.2.2.1, (Below.heap_setCell _ _ _ _ (by simp)).trans HJ.out.2.2.2.1, HJ.out.2.2.2.2.setCell (by simp) _⟩
          have e : q * lenTo Z part k + restTo Z part x k + (q * l + cutZ l a x) = q * lenTo Z part (k + 1) + restTo Z part x (k + 1) := by rw [HL'.out, HS'.out, Int.mul_add]; omega
          rw [e]
          exact heap_setCell_same _ _ _ _ _ _ HJ.out.1
        have FIN := (show Hid _ from fin)
        clear fin
        have cu : cutZ l a x = max 0 (min l (x - a)) := rfl
        have CU : Hid (cutZ l a x = max 0 (min l (x - a))) := cu
        clear cu
        gi_wp2
        · have cu := CU.out
          have h0 := FIN.out 0 ⟨#[], []⟩ (by omega)
          rw [Int.add_zero] at h0
          exact h0
        · have cu := CU.out
          exact FIN.out l ⟨#[], []⟩ (by omega)
        · have cu := CU.out
          exact FIN.out (x - a) ⟨#[], []⟩ (by omega)
      · have qb : (p == part) = false := by simp [qp]
        gi_wp2
        refine ⟨Kept.refl _ _, ?_, HJ.out.2⟩
        rw [HL.out, HS.out, if_neg qp, if_neg qp, Int.add_zero, Int.add_zero]
        exact HJ.out.1
    case done =>
      rintro W ⟨j4, j7, j8, j1, hbel⟩ hD
      have d4 : W.cell? ⟨w.heap.size + 4, 0, none⟩ = some (.int .i64 (q * lenTo Z part len + restTo Z part x len)) := by simp [World.cell?, j4]
      clear j7 j8 j1
      gi_wp2
      go_wp2
      refine ⟨by simp, .inl ⟨_, _, rfl, run_takeDeferred hD, ?_⟩⟩
      exact ⟨_, results_tmp rfl _ _ _, (by rw [HSUP.out]; rfl), hbel.trans (below_putObj (by omega) _)⟩
    case stop =>
      rintro W h
      exact h.elim

end Go.Proofs.Yticpedhfclkjcaf
