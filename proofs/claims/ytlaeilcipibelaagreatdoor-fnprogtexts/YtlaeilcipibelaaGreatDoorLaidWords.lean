/- The words of the ops, out of what the row lists. -/
import Derived.Test.YtlaeilcipibelaaGreatDoorOpNames
import Derived.Test.YtlaeilcipibelaaGreatDoorLaidPow
import Derived.OpenVars
namespace Go.Proofs.YtlaeilcipibelaaGreatDoor
open Go.ChangeShapes Go.WideShapes Go.ChangeAt Go.RowKit

def wordsL : List (List UInt8) := (List.range 18).map fun k => (nameB (k : Nat)).data.toList
theorem words_data : (Rows.laid_loop_example_g00313_impl_opWords : DataW Unit) = .agg (wordsL.map fun l => .lit (.string l)) := by rfl

set_option maxRecDepth 100000 in
theorem names_of_head {W : World} {rest : List (String × DataW Unit)} (h : laidMet Tryz.prog (("loop.example/g00313/impl.opWords", Rows.laid_loop_example_g00313_impl_opWords) :: rest) W) : NamesAt W 0 := by
  obtain ⟨ps, ⟨g, t, cs, fuel, p, q, hg, ht, hv, hd, _, _⟩, _, _⟩ := h
  obtain rfl := Option.some.inj ((show Tryz.prog.globalNamed "loop.example/g00313/impl.opWords" = some 0 by kernel_rfl).symm.trans hg)
  obtain rfl := Option.some.inj ((show (Tryz.prog.globals[0]?).map (·.type) = some 65 by kernel_rfl).symm.trans ht)
  rw [words_data] at hd
  obtain ⟨xs, m, _, ex, _, hl, hel⟩ := DataW.trod_array Tryz.underlying65 hd
  have c9 : Tryz.prog.cellsOf 9 = 1 := by kernel_rfl
  have key : ∀ r : Nat, r < 18 → W.cell? ⟨0, r, none⟩ = some (.string (nameB r)) := by
    intro r hr
    have hE := hel r hr
    rw [c9, Nat.mul_one, List.getElem?_eq_getElem (by omega)] at hE
    obtain ⟨z, e1, e2, _⟩ := DataW.trod_string Tryz.underlying9 hE
    have e3 : (xs.map (·.1)) = wordsL.map fun l => .lit (.string l) := (DataW.agg.inj (Prod.mk.inj ex).1).symm
    have e4 : (xs.map (·.1))[r]? = (wordsL.map fun l => (DataW.lit (.string l) : DataW Unit))[r]? := by rw [e3]
    rw [List.getElem?_map, List.getElem?_map, List.getElem?_eq_getElem (by omega : r < xs.length), e2] at e4
    have e5 : wordsL[r]? = some (nameB r).data.toList := by simp [wordsL, hr]
    rw [e5] at e4
    simp only [Option.map_some, Option.some.injEq, DataW.lit.injEq, Lit.string.injEq] at e4
    have hz : z = nameB r := by
      apply ByteArray.ext
      apply Array.ext'
      exact e4
    rw [World.var?_cell hg hv r, ← hz]
    have : cs.toList[r]? = some (.string z) := by
      have h0 : ((cs.toList.drop r).take 1)[0]? = some (.string z) := by rw [e1]; rfl
      simpa using h0
    simpa using this
  exact ⟨block_lt_of_cell (key 0 (by omega)), fun k hk => key k (by omega)⟩

end Go.Proofs.YtlaeilcipibelaaGreatDoor
