/- Proved: at every program ProgText answers as its specification, and writes into no argument (the exact law of ProgText returns true). No condition beside the statement's own. -/
import Derived.Test.YtoiiajhgfjckhaaDoorProgTextLaw
import Derived.Test.YtoiiajhgfjckhaaDoorLaidWords
import Derived.Test.YtoiiajhgfjckhaaDoorTie
import Derived.Test.YtoiiajhgfjckhaaDoorCards
import Derived.ProofKit
import Derived.Lib.SmallJoins
import Derived.Deep.Strs
import Derived.OpenShut
import Derived.ShutString
import Derived.ChangeOld
import Derived.Below
namespace Go.Proofs.YtoiiajhgfjckhaaDoor
open Go.ChangeShapes Go.WideShapes Go.ChangeAt Go.RowKit Go.Joins Go.Deep

theorem pow_of_words {W : World} (h : laidMetH Tryd.prog Rows.fnExactProgTextRow.laid W) : Pow W := by
  rw [MakeChecks.laidMetH_plain _ _ _ (by kernel_rfl)] at h
  exact pow_of_head h.tail.tail
theorem names_of_words {W : World} (h : laidMetH Tryd.prog Rows.fnExactProgTextRow.laid W) : NamesAt W 0 := by
  rw [MakeChecks.laidMetH_plain _ _ _ (by kernel_rfl)] at h
  exact names_of_head h.tail.tail.tail
theorem Tryd.own : ownKnob Tryd.prog.godebug = none := by kernel_rfl
theorem Tryd.laidOut : laidOutB Tryd.prog = true := by kernel_rfl
theorem opCells : Tryd.prog.cellsOf 82 = 4 := by kernel_rfl
theorem intCells : Tryd.prog.cellsOf 2 = 1 := by kernel_rfl
theorem strCells : Tryd.prog.cellsOf 9 = 1 := by kernel_rfl

set_option maxRecDepth 100000 in
/-- One op in memory: four cells. -/
theorem open_opIn {H : Type} {enc : TypeId × Value → H} {W : World} {n : Nat} {cs : List Value} {x : DataW H × List MemPlace} (h : DataW.trod enc Tryd.prog W 0 (fun _ => true) true n 82 cs = some x) :
    ∃ q : Int × Int × Int × ByteArray, cs = [.int .i64 q.1, .int .i64 q.2.1, .int .i64 q.2.2.1, .string q.2.2.2] ∧ q.2.2.2.size ≤ maxLen := by
  obtain ⟨y0, y1, y2, y3, m, _, hlen, h0, h1, h2, h3⟩ := trod_struct4 Tryd.underlying82 h
  rw [opCells] at hlen
  match cs, hlen with
  | [v0, v1, v2, v3], _ =>
    simp only [intCells, strCells, List.drop_zero, List.drop_succ_cons, List.take_succ_cons, List.take_zero] at h0 h1 h2 h3
    obtain ⟨k, e0, _, _⟩ := DataW.trod_int Tryd.underlying2 h0
    obtain ⟨n', e1, _, _⟩ := DataW.trod_int Tryd.underlying2 h1
    obtain ⟨m', e2, _, _⟩ := DataW.trod_int Tryd.underlying2 h2
    obtain ⟨s, e3, _, hs⟩ := DataW.trod_string Tryd.underlying9 h3
    simp only [List.cons.injEq, and_true] at e0 e1 e2 e3
    subst e0 e1 e2 e3
    exact ⟨(k, n', m', s), rfl, hs⟩

set_option maxRecDepth 100000 in
theorem open_ops {H : Type} {enc : TypeId × Value → H} {W : World} {r : Reach} {b0 : Nat} {v : Value} {d : DataW H} {p : List MemPlace} (hv : Value.okWide Tryd.prog W r b0 42 v) (h : DataW.Trod enc Tryd.prog W 0 (fun _ => true) true 42 v d p) :
    ∃ (a : Option Addr) (len cap : Nat) (K N M : Nat → Int) (S : Nat → ByteArray), v = .slice a len cap ∧ len ≤ maxLen ∧ SrcO W a len (opV K N M S) ∧ ∀ i, i < len → (S i).size ≤ maxLen := by
  obtain ⟨a0, len0, cap0, rfl⟩ := okWide_slice Tryd.underlying42 hv
  obtain ⟨fuel, hf⟩ := h
  rcases open_slice Tryd.underlying42 hf with ⟨e1, _⟩ | ⟨a, len, cap, q, n, D, Pl, e1, _, hl, hm, hq, _, hx⟩
  · simp [Value.cells] at e1
    exact ⟨a0, len0, cap0, fun _ => 0, fun _ => 0, fun _ => 0, fun _ => ByteArray.empty, rfl, by omega, .inl e1.2.1, fun i hi => absurd hi (by omega)⟩
  · simp [Value.cells] at e1
    obtain ⟨rfl, rfl, rfl⟩ := e1
    simp only [if_true] at hq
    by_cases h0 : len0 = 0
    · subst h0
      exact ⟨some a, 0, cap0, fun _ => 0, fun _ => 0, fun _ => 0, fun _ => ByteArray.empty, rfl, by omega, .inl rfl, fun i hi => absurd hi (by omega)⟩
    have key : ∀ i, i < len0 → ∃ q : Int × Int × Int × ByteArray, W.cell? (a.add (i * 4)) = some (.int .i64 q.1) ∧ W.cell? (a.add (i * 4 + 1)) = some (.int .i64 q.2.1) ∧ W.cell? (a.add (i * 4 + 2)) = some (.int .i64 q.2.2.1) ∧ W.cell? (a.add (i * 4 + 3)) = some (.string q.2.2.2) ∧ q.2.2.2.size ≤ maxLen := by
      intro i hi
      obtain ⟨cs', k1, k2⟩ := hx i (by omega)
      rw [opCells] at k1
      obtain ⟨_, _, kc⟩ := World.cells?_some k1
      obtain ⟨z, rfl, hb⟩ := open_opIn k2
      refine ⟨z, ?_, ?_, ?_, ?_, hb⟩
      · have := kc 0 (by omega)
        rw [add_add] at this
        simpa using this
      · have := kc 1 (by omega)
        rw [add_add] at this
        simpa using this
      · have := kc 2 (by omega)
        rw [add_add] at this
        simpa using this
      · have := kc 3 (by omega)
        rw [add_add] at this
        simpa using this
    obtain ⟨Q, hQ⟩ := choose_lt key
    obtain ⟨b, off, spot⟩ := a
    have hspot : spot = none := by
      have := World.cell?_spot (hQ 0 (by omega)).1
      simpa [Addr.add] using this
    subst hspot
    refine ⟨some ⟨b, off, none⟩, len0, cap0, fun i => (Q i).1, fun i => (Q i).2.1, fun i => (Q i).2.2.1, fun i => (Q i).2.2.2, rfl, by omega, .inr ⟨b, off, rfl, fun j hj => ?_⟩, fun i hi => (hQ i hi).2.2.2.2⟩
    have hi : j / 4 < len0 := by omega
    obtain ⟨q0, q1, q2, q3, _⟩ := hQ (j / 4) hi
    rw [add_plain] at q0 q1 q2 q3
    have h4 : j % 4 = 0 ∨ j % 4 = 1 ∨ j % 4 = 2 ∨ j % 4 = 3 := by omega
    rcases h4 with e | e | e | e
    · have ej : j = j / 4 * 4 := by omega
      rw [ej, opV_0]
      exact q0
    · have ej : j = j / 4 * 4 + 1 := by omega
      rw [ej, opV_1]
      exact q1
    · have ej : j = j / 4 * 4 + 2 := by omega
      rw [ej, opV_2]
      exact q2
    · have ej : j = j / 4 * 4 + 3 := by omega
      rw [ej, opV_3]
      exact q3

set_option maxRecDepth 100000 in
theorem progText_lifted (os : Os) (started : os.Started) (H : Type) (enc : TypeId × Value → H) :
    ReturnsInHanded {} Tryd.checked os 6 .any (fun w args => (Rows.fnExactProgTextSpec.pre enc Tryd.prog Tryd.f6 [] false w args ∧ laidMetH Tryd.prog Rows.fnExactProgTextRow.laid w) ∧ sizedMet enc Tryd.prog Tryd.f6 (OpenSpec.ofChange Rows.fnExactProgTextSpec) false w args)
      (Rows.fnExactProgTextSpec.post enc Tryd.prog Tryd.f6 false true false false) := by
  refine returnsInHanded_of_change_and (C := Tryd.checked) (X := fun w _ => laidMetH Tryd.prog Rows.fnExactProgTextRow.laid w) (fun _ _ _ hh h => h.of_heap hh) Tryd.own started (by kernel_rfl) Tryd.func6
    (ChangeSpec.witness_shaped (enc := enc) (C := Tryd.checked) (os := os) (X := fun w _ => laidMetH Tryd.prog Rows.fnExactProgTextRow.laid w) false (World.laidAll Tryd.prog os Rows.fnExactProgTextRow.laid) #[.slice none 0 0] 8 (World.laidAll_os _ _ _)
      (World.shaped_of_ZipB (by kernel_rfl) (by kernel_rfl)) (by kernel_rfl) (by kernel_rfl) (by kernel_rfl)
      (by rw [MakeChecks.laidMetH_plain _ _ _ (by kernel_rfl)]; exact laidMet_laidAll _ (by kernel_rfl) (by kernel_rfl))) ?_
  intro W base args ds gs before hval0 hW _ _ hL _
  have hval : ∀ (j : Nat) t v, Tryd.f6.params[j]? = some t → args[j]? = some v → Value.okWide Tryd.prog W .any base t v := hval0
  have hW' := hW
  obtain ⟨p, q, hA0, hV, rfl, hfz, hnd⟩ := hW
  have hA : DataW.TrodAll enc Tryd.prog W 0 (fun _ => true) true Tryd.f6.params.toList args.toList ds p := hA0
  rw [Tryd.params6] at hA hval
  obtain ⟨v0, vs0, d0, ds0, p0, q0, hargs, rfl, rfl, h0, r0⟩ := trodAll_cons hA
  obtain ⟨rfl, rfl, rfl⟩ := trodAll_nil r0
  obtain rfl : args = #[v0] := by cases args; simp_all
  obtain ⟨g, t, cs, fuel, dv, pv, rfl, _, _, _, _, rfl⟩ := trodVars_one hV
  have k0 := h0
  have lt0 : ∀ x ∈ p0, x.block < W.heap.size := by obtain ⟨m, hm⟩ := k0; exact DataW.trod_lt m _ _ _ hm
  obtain ⟨a, len, cap, K, N, M, S, rfl, hl, hs, hS⟩ := open_ops (hval 0 42 v0 rfl rfl) h0
  clear hA0 hval0
  refine (progTextLaw_any a len cap K N M S W hl hs hS (pow_of_words hL) (names_of_words hL)).mono fun e W' ⟨he, bel⟩ => ?_
  subst he
  exact ⟨_, rfl, _, _, _, [], _, _, hW', trodAll_mk1 (shut_bool Tryd.underlying4 _), (trodAll_cons_mk (Below.trod Tryd.laidOut (by kernel_rfl) (of_decide_eq_true (by kernel_rfl)) k0 bel lt0) trodAll_mk0), Below.trodVars Tryd.laidOut bel (by kernel_rfl) hV, bel.frame _, fun h => by cases h⟩

/-- The statement. -/
theorem progText_row : Rows.FnExactProgTextSaid :=
  OpenClaim.holds_of_wide 6 Tryd.f6 rfl rfl rfl rfl rfl rfl rfl ⟨rfl, rfl, rfl, rfl, rfl⟩ rfl rfl rfl rfl rfl (by kernel_rfl) Tryd.func6 (by kernel_rfl)
    (of_decide_eq_true (by kernel_rfl)) (by unfold Func.isWrapper; first | (rw [if_pos (by decide +kernel)]; kernel_rfl) | (rw [if_neg (by decide +kernel)]; exact ⟨rfl, rfl⟩))
    (fun os started H enc _ => progText_lifted os started H enc)

/-- The card. -/
theorem progText_holds : Rows.FnExactProgTextCardSaid :=
  Claim7.holds_tied_plain_at .later [] [.data, .data, .data, .data] true (true, "93cb19c607472daa4d9e1442469afd53edcabe91f49a1f95adf255d8fa4c57e9") true
    progText_row (fun _ h => by cases h) (by kernel_rfl) (fun _ h => by cases h) fnExactProgText_row_tie rfl ⟨rfl, rfl⟩ (by kernel_rfl) rfl
    (fun f fn hf hfn => by
      obtain rfl : f = 6 := Option.some.inj ((show Tryd.prog.funcNamed "loop.example/g00313/laws.FnExactProgText" = some 6 by kernel_rfl).symm.trans hf) |>.symm
      obtain rfl : fn = Tryd.f6 := (Option.some.inj (Tryd.func6.symm.trans hfn)).symm
      exact ⟨by kernel_rfl, fun j t ht => by
        rw [Tryd.params6] at ht
        have hm : t ∈ [42] := by simpa using Array.mem_of_getElem? ht
        have hall : ([42].all fun u => !Tryd.prog.wantsStandIn u) = true := by kernel_rfl
        exact (show Tryd.prog.wantsStandIn t = false by simpa using List.all_eq_true.1 hall t hm)⟩)
    (by kernel_rfl)

#print axioms progText_holds
end Go.Proofs.YtoiiajhgfjckhaaDoor
