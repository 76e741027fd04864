/- Who owns a time: the specification's search and the program's, over a right frame. -/
import Derived.Test.YticpedhfclkjcafAll
namespace Go.Proofs.Yticpedhfclkjcaf
open Go.RowKit
attribute [local go_sem] Oper.semAt_some

def hitB (Z : Nat → Int) (x : Int) (i : Nat) : Bool := decide (Z (i * 3) ≤ x ∧ x < Z (i * 3) + Z (i * 3 + 1))
/-- The part of the first window that has x; 0 when none has. -/
def ownerZ (Z : Nat → Int) (len : Nat) (x : Int) : Int := match (List.range len).find? (hitB Z x) with
  | some i => Z (i * 3 + 2)
  | none => 0
theorem ownerZ_hit {Z : Nat → Int} {len k : Nat} {x : Int} (hk : k < len) (h : hitB Z x k = true) (hb : ∀ i, i < k → hitB Z x i = false) : ownerZ Z len x = Z (k * 3 + 2) := by
  have : (List.range len).find? (hitB Z x) = some k := by
    rw [List.find?_range_eq_some]
    exact ⟨h, by simpa using hk, fun j hj => by simp [hb j hj]⟩
  simp only [ownerZ, this]
theorem ownerZ_none {Z : Nat → Int} {len : Nat} {x : Int} (hb : ∀ i, i < len → hitB Z x i = false) : ownerZ Z len x = 0 := by
  have : (List.range len).find? (hitB Z x) = none := by
    rw [List.find?_range_eq_none]
    exact fun i hi => by simp [hb i hi]
  simp only [ownerZ, this]
theorem hitB_true {Z : Nat → Int} {x : Int} {i : Nat} (h : Z (i * 3) ≤ x ∧ x < Z (i * 3) + Z (i * 3 + 1)) : hitB Z x i = true := by simp only [hitB]; exact decide_eq_true h
theorem hitB_false {Z : Nat → Int} {x : Int} {i : Nat} (h : ¬ (Z (i * 3) ≤ x ∧ x < Z (i * 3) + Z (i * 3 + 1))) : hitB Z x i = false := by simp only [hitB]; exact decide_eq_false h

/-- What a right frame's windows are. -/
theorem right_win {major : Int} {Z : Nat → Int} {len i : Nat} (h : ∀ i, i < len → winAt major Z i = true) (hi : i < len) :
    0 ≤ Z (i * 3) ∧ 1 ≤ Z (i * 3 + 1) ∧ Z (i * 3) + Z (i * 3 + 1) ≤ major ∧ 1 ≤ Z (i * 3 + 2) ∧ Z (i * 3 + 2) ≤ 6 := by
  have h1 := winB_out (h i hi)
  have h2 := endAt_nonneg (major := major) (Z := Z) i (fun j hj => h j (by omega))
  omega

set_option maxHeartbeats 1000000 in
theorem l1Owner_any (major t : Int) (g len cap : Nat) (Z : Nat → Int) (w : World) (hl : len ≤ 20) (h1 : 1 ≤ major) (h2 : major ≤ 1000) (h3 : ∀ i, i < len → winAt major Z i = true) (t0 : 0 ≤ t) (t1 : t ≤ 2000000000) (hr : WinsAt w g len Z) :
    Calls Try.prog 28 #[.agg #[.int .i64 major, .slice (some ⟨g, 0, none⟩) len cap], .int .i64 t] w fun e w' => e = .returned (.int .i64 (ownerZ Z len (t % major))) ∧ Below w.heap.size w w' := by
  have hgl := hr.lt
  have hm : ¬ major = 0 := by omega
  have H3 : Hid (∀ i, i < len → winAt major Z i = true) := h3
  clear h3
  have x0 : 0 ≤ t % major := Int.emod_nonneg _ hm
  have x1 : t % major < major := Int.emod_lt_of_pos _ (by omega)
  go_enter Try.func28, Try.ntmps28
  go_wp2
  obtain ⟨x, hx⟩ : ∃ x, t % major = x := ⟨_, rfl⟩
  rw [hx] at x0 x1 ⊢
  have HX : Hid (t % major = x) := hx
  clear hx
  go_loopw [6] (fun i wr => ∃ k : Nat, k ≤ len ∧ i = .int .i64 k ∧ (∀ i, i < k → hitB Z x i = false) ∧ Below (w.heap.size + 1) (w.alloc (.cells #[.int .i64 major, .slice (some ⟨g, 0, none⟩) len cap] 29)) wr) (fun i _ => len - (intOf i).toNat)
  case atStart => exact ⟨0, Nat.zero_le _, rfl, fun i hi => by omega, Below.refl _ _⟩
  case round =>
    obtain ⟨k, hk, rfl, hno, hbel⟩ := hrel
    have HN : Hid (∀ i, i < k → hitB Z x i = false) := hno
    clear hno
    have hs : w.heap.size < wr.heap.size := by have := hbel.size; simp only [World.size_alloc] at this; omega
    have m0 : wr.cell? ⟨w.heap.size, 0, none⟩ = some (.int .i64 major) := (hbel.cell (p := ⟨w.heap.size, 0, none⟩) (by simp)).trans (by simp)
    have m1 : wr.cell? ⟨w.heap.size, 1, none⟩ = some (.slice (some ⟨g, 0, none⟩) len cap) := (hbel.cell (p := ⟨w.heap.size, 1, none⟩) (by simp)).trans (by simp)
    have hB : Below w.heap.size w wr := ((Below.refl _ _).alloc (Nat.le_refl _) _).trans (hbel.mono (by omega))
    by_cases hlt : k < len
    · have hra : WinsAt wr g len Z := (hr.alloc _).of_block (hbel.block g (by omega))
      have c0 : wr.cell? ⟨g, k * 3, none⟩ = some (.int .i64 (Z (k * 3))) := hra.cell (by omega)
      have c1 : wr.cell? ⟨g, k * 3 + 1, none⟩ = some (.int .i64 (Z (k * 3 + 1))) := hra.cell (by omega)
      have c2 : wr.cell? ⟨g, k * 3 + 2, none⟩ = some (.int .i64 (Z (k * 3 + 2))) := hra.cell (by omega)
      clear hra hr
      have hw := right_win H3.out hlt
      have HH : Hid (Z (k * 3) ≤ x ∧ x < Z (k * 3) + Z (k * 3 + 1) → ownerZ Z len x = Z (k * 3 + 2)) := fun hh => ownerZ_hit hlt (hitB_true hh) HN.out
      have HM : Hid (¬ (Z (k * 3) ≤ x ∧ x < Z (k * 3) + Z (k * 3 + 1)) → ∀ i, i < k + 1 → hitB Z x i = false) := fun hh i hi => by
        by_cases e : i = k
        · subst e; exact hitB_false hh
        · exact HN.out i (by omega)
      generalize Z (k * 3) = a at *
      generalize Z (k * 3 + 1) = l at *
      generalize Z (k * 3 + 2) = p at *
      obtain ⟨w0, w1, w2, w3, w4⟩ := hw
      by_cases q1 : x < a
      · go_wp2
        go_roundw
        case rel => exact ⟨k + 1, by omega, by go_num, HM.out (by omega), hbel.alloc (by omega) _⟩
        case measure => simp [intOf]; omega
      by_cases q2 : x < a + l
      · go_wp2
        go_ret
        exact ⟨ret_int (by rw [HX.out]; exact (HH.out (by omega)).symm), hB.alloc (by omega) _⟩
      · go_wp2
        go_roundw
        case rel => exact ⟨k + 1, by omega, by go_num, HM.out (by omega), hbel.alloc (by omega) _⟩
        case measure => simp [intOf]; omega
    · go_wp2
      go_ret
      have e : k = len := by omega
      subst e
      exact ⟨ret_int (by rw [HX.out]; exact (ownerZ_none HN.out).symm), hB⟩

theorem ownerResult {tmps : Array Value} {W : World} {g : Nat} {n : Int} (hp : tmps.getD 4 undef = .pointer (some ⟨g, 0, none⟩)) (hc : W.cell? ⟨g, 0, none⟩ = some (.int .i64 n)) :
    (results Try.f29 tmps).run Try.prog W = .ok (.int .i64 n) W := by
  have hp' : tmps[4]?.getD undef = .pointer (some ⟨g, 0, none⟩) := by simpa using hp
  simp [results, Try.results29, hp', hc, go_sem]

theorem ownerLeave {tmps : Array Value} {R : Ending → World → Prop} {W : World} {D g : Nat} {n : Int} (hp : tmps.getD 4 undef = .pointer (some ⟨g, 0, none⟩)) (hD : W.heap[D]? = some (.deferred (some [])))
    (hg : W.heap[g]? = some (.cells #[.int .i64 n] 2 (0, 0))) (hR : R (.returned (.int .i64 n)) (W.putObj D (.deferred none))) : bodyPostM Fence.wide 6 Try.prog Try.f29 R .ret ⟨tmps, [{ target := .collected D, args := #[] }]⟩ W := by
  refine ⟨by simp, .inl ⟨_, _, rfl, run_takeDeferred hD, ?_⟩⟩
  refine ⟨_, ownerResult hp (n := n) ?_, hR⟩
  have : (W.putObj D (.deferred none)).heap[g]? = some (.cells #[.int .i64 n] 2 (0, 0)) := (World.putObj_heap_other (fun e => by subst e; rw [hD] at hg; cases hg)).trans hg
  simp [World.cell?, this]

theorem winV_eq (Z : Nat → Int) (k : Nat) : winV Z k = .agg #[.int .i64 (Z (k * 3)), .int .i64 (Z (k * 3 + 1)), .int .i64 (Z (k * 3 + 2))] := rfl

set_option maxHeartbeats 1000000 in
theorem ownerAt_in (major t : Int) (cs : Array Value) (len : Nat) (Z : Nat → Int) (w : World) (hl : len ≤ 20) (h1 : 1 ≤ major) (h2 : major ≤ 1000) (h3 : ∀ i, i < len → winAt major Z i = true) (t0 : 0 ≤ t) (t1 : t ≤ 2000000000) (hc : IsTab major len Z cs) :
    CallsIn Fence.wide 6 Try.prog 29 #[.agg cs, .int .i64 t] w fun e w' => e = .returned (.int .i64 (ownerZ Z len (t % major))) ∧ Below w.heap.size w w' := by
  have hm : ¬ major = 0 := by omega
  have HC : Hid (IsTab major len Z cs) := hc
  have hsz := hc.1
  have hlt0 : 0 < cs.size := by omega
  have hmaj : cs[0] = .int .i64 major := by have := hc.major; rw [Array.getElem?_eq_getElem hlt0] at this; exact Option.some.inj this
  have H3 : Hid (∀ i, i < len → winAt major Z i = true) := h3
  clear h3 hc
  have x0 : 0 ≤ t % major := Int.emod_nonneg _ hm
  have x1 : t % major < major := Int.emod_lt_of_pos _ (by omega)
  have hmf : ∀ (fn : Fn) (first cap : Array Value) (w : World), (Instr.makeFunc fn first cap).run Try.prog w = .ok (.func fn first cap) w := fun _ _ _ _ => rfl
  refine callsIn_of_wp_marks Try.func29 rfl trivial ?_ rfl
  simp only [Try.ntmps29, List.size_toArray, List.length_cons, List.length_nil, Nat.reduceAdd, Nat.reduceSub, Array.replicate_succ, Array.replicate_zero, List.push_toArray, List.append_toArray, List.nil_append, List.cons_append]
  gi_wp2_with (refine wpListIn_loadTab rfl (.tmp 2) rfl w.heap.size (by rfl) cs ?hg hsz ?_; (case hg => (rw [heap_alloc_old _ _ (by simp; omega), heap_alloc2_old])))
  obtain ⟨x, hx⟩ : ∃ x, t % major = x := ⟨_, rfl⟩
  rw [hx] at x0 x1 ⊢
  have HX : Hid (t % major = x) := hx
  clear hx
  obtain ⟨W0, hW0⟩ : ∃ W0, (((w.alloc (Obj.cells cs 50)).alloc (Obj.cells #[Value.int IntKind.i64 0] 2)).alloc (Obj.cells #[Value.int IntKind.i64 x] 2)) = W0 := ⟨_, rfl⟩
  have z0 : W0.heap.size = w.heap.size + 3 := by rw [← hW0]; simp
  have b0 : Below w.heap.size w W0 := by rw [← hW0]; go_grown
  have b1 : W0.heap[w.heap.size + 1]? = some (.cells #[Value.int IntKind.i64 0] 2 (0, 0)) := by rw [← hW0, heap_alloc_old _ _ (by simp), heap_alloc2_new]
  have b2 : W0.heap[w.heap.size + 1 + 1]? = some (.cells #[Value.int IntKind.i64 x] 2 (0, 0)) := by rw [← hW0]; exact heap_alloc3_new _ _ _ _
  rw [hW0]
  clear hW0
  refine wp_rangeBound (gf := 37) (fa := #[.agg cs]) rfl (enters_of Try.func37 (by kernel_rfl) rfl) (encs := fun k => #[winV Z k]) (all_iter cs major len Z HC.out hl W0.heap.size) (fun _ => rfl)
    (fun k X => (∀ i, i < k → hitB Z x i = false) ∧ X.heap[w.heap.size + 1]? = some (.cells #[Value.int IntKind.i64 0] 2 (0, 0)) ∧ X.heap[w.heap.size + 1 + 1]? = some (.cells #[Value.int IntKind.i64 x] 2 (0, 0)) ∧ Below w.heap.size w X)
    (fun X => X.heap[w.heap.size + 1]? = some (.cells #[Value.int IntKind.i64 (ownerZ Z len x)] 2 (0, 0)) ∧ Below w.heap.size w X)
    (fun k X Y h hj => ⟨hj.1, (h.block _ (by omega)).trans hj.2.1, (h.block _ (by omega)).trans hj.2.2.1, hj.2.2.2.trans (h.mono (by omega))⟩)
    (fun X Y h hj => ⟨(h.block _ (by omega)).trans hj.1, hj.2.trans (h.mono (by omega))⟩)
    ⟨fun i hi => by omega, b1, b2, b0⟩
    (fun k a' X => ∃ Bx, X.heap[Bx]? = some (.cells #[.int .i64 (Z (k * 3)), .int .i64 (Z (k * 3 + 1)), .int .i64 (Z (k * 3 + 2))] 47 (0, 0)) ∧ a' = ⟨#[Value.agg cs, Value.int IntKind.i64 t, Value.pointer (some { block := w.heap.size, off := 0 }), undef,
          Value.pointer (some { block := w.heap.size + 1, off := 0 }), Value.pointer (some { block := w.heap.size + 1 + 1, off := 0 }), Value.pointer (some { block := Bx, off := 0 }), Value.int IntKind.i64 t,
          Value.pointer (some { block := w.heap.size, off := 0 }), Value.int IntKind.i64 major,
          Value.int IntKind.i64 x, Value.agg cs, Value.func (Fn.func 37) #[Value.agg cs] #[], winV Z k, undef,
          undef, undef, undef, undef, undef, undef, undef, undef, undef, undef, undef, undef, undef, undef], []⟩)
    (fun k a' X l r o hl' ha => by
      obtain ⟨Bx, h1, h2⟩ := ha
      exact ⟨Bx, (World.putObj_heap_other (fun e => by subst e; rw [hl'] at h1; cases h1)).trans h1, h2⟩)
    ?assign ?body ?done ?stop
  case assign =>
    intro l k W K hk hj hz hK
    simp only [winV_eq]
    gi_wp2
    refine hK _ _ (Kept.alloc _ _ _) ⟨hj.1, (Below.heap_alloc _ _ _ (Array.getElem?_eq_some_iff.1 hj.2.1).1).trans hj.2.1, (Below.heap_alloc _ _ _ (Array.getElem?_eq_some_iff.1 hj.2.2.1).1).trans hj.2.2.1, hj.2.2.2.alloc (by omega) _⟩ ⟨W.heap.size, heap_alloc_new _ _, rfl⟩
  case body =>
    rintro l k a' W hk ⟨hno, hres, hat, hbel⟩ ⟨Bx, hbx, rfl⟩ hz
    have HN : Hid (∀ i, i < k → hitB Z x i = false) := hno
    clear hno
    have hw := right_win H3.out hk
    have c0 : W.cell? ⟨Bx, 0, none⟩ = some (.int .i64 (Z (k * 3))) := by simp [World.cell?, hbx]
    have c1 : W.cell? ⟨Bx, 1, none⟩ = some (.int .i64 (Z (k * 3 + 1))) := by simp [World.cell?, hbx]
    have c2 : W.cell? ⟨Bx, 2, none⟩ = some (.int .i64 (Z (k * 3 + 2))) := by simp [World.cell?, hbx]
    have d0 : W.cell? ⟨w.heap.size + 1, 0, none⟩ = some (.int .i64 0) := by simp [World.cell?, hres]
    have d1 : W.cell? ⟨w.heap.size + 1 + 1, 0, none⟩ = some (.int .i64 x) := by simp [World.cell?, hat]
    have f0 : W.frozen? ⟨w.heap.size + 1, 0, none⟩ = false := frozen_of_row W _ _ _ _ hres
    have HRES : Hid (W.heap[w.heap.size + 1]? = some (.cells #[Value.int IntKind.i64 0] 2 (0, 0)) ∧ W.heap[w.heap.size + 1 + 1]? = some (.cells #[Value.int IntKind.i64 x] 2 (0, 0))) := ⟨hres, hat⟩
    clear hbx hres hat
    have HH : Hid (Z (k * 3) ≤ x ∧ x < Z (k * 3) + Z (k * 3 + 1) → ownerZ Z len x = Z (k * 3 + 2)) := fun hh => ownerZ_hit hk (hitB_true hh) HN.out
    have HM : Hid (¬ (Z (k * 3) ≤ x ∧ x < Z (k * 3) + Z (k * 3 + 1)) → ∀ i, i < k + 1 → hitB Z x i = false) := fun hh i hi => by
      by_cases e : i = k
      · subst e; exact hitB_false hh
      · exact HN.out i (by omega)
    simp only [winV_eq]
    generalize Z (k * 3) = a at *
    generalize Z (k * 3 + 1) = l at *
    generalize Z (k * 3 + 2) = p at *
    obtain ⟨w0, w1, w2, w3, w4⟩ := hw
    by_cases q1 : x < a
    · have q1' : ¬ a ≤ x := by omega
      gi_wp2
      exact ⟨Kept.refl _ _, HM.out (by omega), HRES.out.1, HRES.out.2, hbel⟩
    by_cases q2 : x < a + l
    · gi_wp2
      refine ⟨Kept.setCell _ (by simp) _, ?_, hbel.setCell (by simp) _⟩
      rw [HH.out (by omega)]
      exact heap_setCell_same _ _ _ _ _ _ HRES.out.1
    · gi_wp2
      exact ⟨Kept.refl _ _, HM.out (by omega), HRES.out.1, HRES.out.2, hbel⟩
  case done =>
    rintro W ⟨hno, hres, hat, hbel⟩ hD
    have d0 : W.cell? ⟨w.heap.size + 1, 0, none⟩ = some (.int .i64 0) := by simp [World.cell?, hres]
    have f0 : W.frozen? ⟨w.heap.size + 1, 0, none⟩ = false := frozen_of_row W _ _ _ _ hres
    have HN : Hid (∀ i, i < len → hitB Z x i = false) := hno
    have HRES : Hid (W.heap[w.heap.size + 1]? = some (.cells #[Value.int IntKind.i64 0] 2 (0, 0))) := hres
    clear hno hat hres
    gi_wp2
    refine ownerLeave (g := w.heap.size + 1) (n := 0) rfl ((Below.heap_setCell _ _ _ _ (by show W0.heap.size ≠ w.heap.size + 1; omega)).trans hD) (heap_setCell_same _ _ _ _ _ _ HRES.out) ⟨ret_int (by rw [HX.out]; exact (ownerZ_none HN.out).symm), ?_⟩
    exact (hbel.setCell (by simp) _).trans (below_putObj (by omega) _)
  case stop =>
    rintro W ⟨hres, hbel⟩ hD
    gi_wp2
    exact ownerLeave (g := w.heap.size + 1) rfl hD hres ⟨ret_int (by rw [HX.out]), hbel.trans (below_putObj (by omega) _)⟩

end Go.Proofs.Yticpedhfclkjcaf
