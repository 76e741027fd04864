/- Proved: at every partition Chosen answers as its specification, and writes into no argument (the exact law of Chosen returns true). No condition beside the statement's own. -/
import Derived.OpenShut
import Derived.ShutString
import Derived.ChangeOld
import Derived.Below
import Derived.Test.YtkbcplnlehdjfaaGreatOwn0
import Derived.Test.YtkbcplnlehdjfaaGreatOwn1
import Derived.Test.YtkbcplnlehdjfaaGreatOwn2
import Derived.Test.YtkbcplnlehdjfaaGreatOwn3
import Derived.Test.YtkbcplnlehdjfaaGreatOwn4
import Derived.Test.YtkbcplnlehdjfaaGreatOwn5
import Derived.Test.YtkbcplnlehdjfaaGreatOwnC6
import Derived.Test.YtkbcplnlehdjfaaGreatOwnC7

namespace Go.Proofs.YtkbcplnlehdjfaaGreat
open Go.ChangeShapes Go.WideShapes Go.ChangeAt Go.RowKit

theorem Tryz.own : ownKnob Tryz.prog.godebug = none := by kernel_rfl
theorem Tryz.laidOut : laidOutB Tryz.prog = true := by kernel_rfl

set_option maxRecDepth 100000 in
theorem chosen_lifted (os : Os) (started : os.Started) (H : Type) (enc : TypeId × Value → H) :
    ReturnsInHanded {} Tryz.checked os 16 .any (Rows.fnExactChosenSpec.pre6 enc Tryz.prog Tryz.f16 Rows.fnExactChosenRow.domain false) (Rows.fnExactChosenSpec.post enc Tryz.prog Tryz.f16 false true false false) := by
  refine returnsInHanded_of_change (C := Tryz.checked) Tryz.own started (by kernel_rfl) Tryz.func16
    (ChangeSpec.witness6 (enc := enc) (C := Tryz.checked) false ⟨#[], #[.agg #[.int .i64 0, .int .i64 0, .slice none 0 0, .slice none 0 0, .slice none 0 0, .slice none 0 0, .slice none 0 0, .slice none 0 0]], []⟩ 8 (by kernel_rfl) (by kernel_rfl) (by kernel_rfl) (by kernel_rfl)) ?_
  intro W base args ds gs before hval0 hW hcnd _
  have hval : ∀ (j : Nat) t v, Tryz.f16.params[j]? = some t → args[j]? = some v → Value.okWide Tryz.prog W .any base t v := hval0
  have hW' := hW
  obtain ⟨p, q, hA0, hV, rfl, hfz, hnd⟩ := hW
  have hA : DataW.TrodAll enc Tryz.prog W 0 (fun _ => true) true Tryz.f16.params.toList args.toList ds p := hA0
  rw [Tryz.params16] at hA hval
  obtain ⟨v0, vs0, d0, ds0, p0, q0, hargs, rfl, rfl, h0, r0⟩ := trodAll_cons hA
  obtain ⟨rfl, rfl, rfl⟩ := trodAll_nil r0
  obtain rfl : args = #[v0] := by cases args; simp_all
  obtain ⟨rfl, rfl⟩ := trodVars_none hV
  have k0 := h0
  have lt0 : ∀ x ∈ p0, x.block < W.heap.size := by obtain ⟨m, hm⟩ := k0; exact DataW.trod_lt m _ _ _ hm
  obtain ⟨pt, rfl, hb, hc, hi⟩ := open_part (hval 0 73 v0 rfl rfl) h0
  clear hA0 hval0
  refine (chosenLaw_any pt W hb hc hi).mono fun e W' ⟨he, bel⟩ => ?_
  subst he
  exact ⟨_, rfl, _, _, _, [], _, [], hW', trodAll_mk1 (shut_bool Tryz.underlying4 _), (trodAll_cons_mk (Below.trod Tryz.laidOut (by kernel_rfl) (of_decide_eq_true (by kernel_rfl)) k0 bel lt0) trodAll_mk0), rfl, bel.frame _, fun h => by cases h⟩

/-- The statement. -/
theorem chosen_holds : Rows.FnExactChosenSaid :=
  OpenClaim.holds_of_wide 16 Tryz.f16 rfl rfl rfl rfl rfl rfl rfl ⟨rfl, rfl, rfl, rfl, rfl⟩ rfl rfl rfl rfl rfl closedNameChosen Tryz.func16 closedAllChosen closedInstChosen closedWrapChosen
    (fun os started H enc _ => chosen_lifted os started H enc)

#print axioms chosen_holds
end Go.Proofs.YtkbcplnlehdjfaaGreat
