/- Proved: at every partition and port WithPort answers as its specification, writes into no argument and keeps nothing of one; its answer owns its memory (the exact law of WithPort returns true). No condition beside the statement's own. -/
import Derived.Test.YtkbcplnlehdjfaaGreatOwnR31
import Derived.Test.YtkbcplnlehdjfaaGreatOwnWPort3
import Derived.Test.YtkbcplnlehdjfaaGreatOwnWPort4
import Derived.OpenShut
import Derived.ShutString
import Derived.ChangeOld
import Derived.Below

namespace Go.Proofs.YtkbcplnlehdjfaaGreat
open Go.ChangeShapes Go.WideShapes Go.ChangeAt Go.RowKit
theorem Tryz.own : ownKnob Tryz.prog.godebug = none := by kernel_rfl
theorem Tryz.laidOut : laidOutB Tryz.prog = true := by kernel_rfl
set_option maxRecDepth 100000 in
theorem open_withPort {H : Type} {enc : TypeId × Value → H} {W : World} {r : Reach} {b0 : Nat} {v : Value} {d : DataW H} {pl : List MemPlace} (hv : Value.okWide Tryz.prog W r b0 88 v) (h : DataW.Trod enc Tryz.prog W 0 (fun _ => true) true 88 v d pl) : ∃ z : PortD, v = .agg #[.int .i64 z.id, .bool z.out, .bool z.queue, .int .i64 z.max, .slice z.itemsA z.items.length z.itemsC] ∧ (Lit.int .i64 z.id).wf = true ∧ (z.items.length ≤ maxLen ∧ ∀ s ∈ z.items, s.size ≤ maxLen) ∧ Src W z.itemsA (strK.flat z.items) := by
 obtain ⟨cs, rfl, hsz⟩ := okWide_struct Tryz.underlying88 hv
 obtain ⟨fuel, hf⟩ := h
 obtain ⟨z, hp, h1⟩ := openPort_in hf
 refine ⟨z, ?_, h1⟩
 have e : cs.toList = (#[.int .i64 z.id, .bool z.out, .bool z.queue, .int .i64 z.max, .slice z.itemsA z.items.length z.itemsC] : Array Value).toList := by simpa [Value.cells, portK, portVals] using hp
 rw [Array.toList_inj.1 e]
set_option maxRecDepth 100000 in
theorem withPort_lifted (os : Os) (started : os.Started) (H : Type) (enc : TypeId × Value → H) :
  ReturnsInHanded {} Tryz.checked os 14 .any (Rows.fnExactWithPortSpec.pre6 enc Tryz.prog Tryz.f14 Rows.fnExactWithPortRow.domain false) (Rows.fnExactWithPortSpec.post enc Tryz.prog Tryz.f14 false true false false) := by
 refine returnsInHanded_of_change (C := Tryz.checked) Tryz.own started (by kernel_rfl) Tryz.func14
  (ChangeSpec.witness6 (enc := enc) (C := Tryz.checked) false ⟨#[], #[.agg #[.int .i64 0, .int .i64 0, .slice none 0 0, .slice none 0 0, .slice none 0 0, .slice none 0 0, .slice none 0 0, .slice none 0 0], .agg #[.int .i64 0, .bool false, .bool false, .int .i64 0, .slice none 0 0]], []⟩ 8 (by kernel_rfl) (by kernel_rfl) (by kernel_rfl) (by kernel_rfl)) ?_
 intro W base args ds gs before hval0 hW hcnd _
 have hval : ∀ (j : Nat) t v, Tryz.f14.params[j]? = some t → args[j]? = some v → Value.okWide Tryz.prog W .any base t v := hval0
 have hW' := hW
 obtain ⟨p, q, hA0, hV, rfl, hfz, hnd⟩ := hW
 have hA : DataW.TrodAll enc Tryz.prog W 0 (fun _ => true) true Tryz.f14.params.toList args.toList ds p := hA0
 rw [Tryz.params14] at hA hval
 obtain ⟨v0, vs0, d0, ds0, p0, q0, hargs, rfl, rfl, h0, r0⟩ := trodAll_cons hA
 obtain ⟨v1, vs1, d1, ds1, p1, q1, rfl, rfl, rfl, h1, r1⟩ := trodAll_cons r0
 obtain ⟨rfl, rfl, rfl⟩ := trodAll_nil r1
 obtain rfl : args = #[v0, v1] := by cases args; simp_all
 obtain ⟨rfl, rfl⟩ := trodVars_none hV
 have k0 := h0
 have lt0 : ∀ x ∈ p0, x.block < W.heap.size := by obtain ⟨m, hm⟩ := k0; exact DataW.trod_lt m _ _ _ hm
 obtain ⟨pt, rfl, hb, hc, hi⟩ := open_part (hval 0 73 v0 rfl rfl) h0
 have k1 := h1
 have lt1 : ∀ x ∈ p1, x.block < W.heap.size := by obtain ⟨m, hm⟩ := k1; exact DataW.trod_lt m _ _ _ hm
 obtain ⟨z, rfl, hz⟩ := open_withPort (hval 1 88 v1 rfl rfl) h1
 clear hA0 hval0
 refine (withPortLaw_any pt z W hb hc hi hz.1 hz.2.1 hz.2.2).mono fun e W' ⟨he, bel⟩ => ?_
 subst he
 exact ⟨_, rfl, _, _, _, [], _, [], hW', trodAll_mk1 (shut_bool Tryz.underlying4 _), (trodAll_cons_mk (Below.trod Tryz.laidOut (by kernel_rfl) (of_decide_eq_true (by kernel_rfl)) k0 bel lt0) (trodAll_cons_mk (Below.trod Tryz.laidOut (by kernel_rfl) (of_decide_eq_true (by kernel_rfl)) k1 bel lt1) trodAll_mk0)), rfl, bel.frame _, fun h => by cases h⟩
/-- The statement. -/
theorem withPort_holds : Rows.FnExactWithPortSaid :=
 OpenClaim.holds_of_wide 14 Tryz.f14 rfl rfl rfl rfl rfl rfl rfl ⟨rfl, rfl, rfl, rfl, rfl⟩ rfl rfl rfl rfl rfl closedNameWithPort Tryz.func14 closedAllWithPort closedInstWithPort closedWrapWithPort
  (fun os started H enc _ => withPort_lifted os started H enc)
#print axioms withPort_holds
end Go.Proofs.YtkbcplnlehdjfaaGreat
