/- The cells of a program, four an op; a row of ops that is filled one by one. -/
import Derived.Test.YtlaeilcipibelaaGreatDoorBase
import Derived.Deep.OwnRows
namespace Go.Proofs.YtlaeilcipibelaaGreatDoor
open Go.RowKit

/-- The cells of a program: four an op. -/
def opV (K N M : Nat → Int) (S : Nat → ByteArray) (j : Nat) : Value := if j % 4 = 0 then .int .i64 (K (j / 4)) else if j % 4 = 1 then .int .i64 (N (j / 4)) else if j % 4 = 2 then .int .i64 (M (j / 4)) else .string (S (j / 4))
def zeroV (j : Nat) : Value := if j % 4 = 3 then .string ⟨#[]⟩ else .int .i64 0
theorem opV_0 (K N M : Nat → Int) (S : Nat → ByteArray) (i : Nat) : opV K N M S (i * 4) = .int .i64 (K i) := by
  have e : i * 4 % 4 = 0 := by omega
  have d : i * 4 / 4 = i := by omega
  simp [opV, d]
theorem opV_1 (K N M : Nat → Int) (S : Nat → ByteArray) (i : Nat) : opV K N M S (i * 4 + 1) = .int .i64 (N i) := by
  have e : (i * 4 + 1) % 4 = 1 := by omega
  have d : (i * 4 + 1) / 4 = i := by omega
  simp [opV, e, d]
theorem opV_2 (K N M : Nat → Int) (S : Nat → ByteArray) (i : Nat) : opV K N M S (i * 4 + 2) = .int .i64 (M i) := by
  have e : (i * 4 + 2) % 4 = 2 := by omega
  have d : (i * 4 + 2) / 4 = i := by omega
  simp [opV, e, d]
theorem opV_3 (K N M : Nat → Int) (S : Nat → ByteArray) (i : Nat) : opV K N M S (i * 4 + 3) = .string (S i) := by
  have e : (i * 4 + 3) % 4 = 3 := by omega
  have d : (i * 4 + 3) / 4 = i := by omega
  simp [opV, e, d]

theorem opInfo : (Tryz.prog.info? 37).map (fun i => (i.zero, i.size, i.bytes)) = some (some (.agg #[.int .i64 0, .int .i64 0, .int .i64 0, .string ⟨#[]⟩]), 4, 40) := by kernel_rfl
theorem make_ops (n : Nat) (hn : n ≤ 1048576) (w : World) :
    (Instr.makeSlice 24 (.int .i64 (n : Int)) (.int .i64 (n : Int))).run Tryz.prog w = .ok (.slice (some ⟨w.heap.size, 0, none⟩) n n) (w.alloc (.cells (madeCells #[.int .i64 0, .int .i64 0, .int .i64 0, .string ⟨#[]⟩] (n * 4)) 37)) := by
  have h := opInfo
  obtain ⟨i, hi, e⟩ := Option.map_eq_some_iff.1 h
  simp only [Prod.mk.injEq] at e
  obtain ⟨e1, e2, e3⟩ := e
  have := run_make (P := Tryz.prog) w 24 37 i _ Tryz.underlying24 hi e1 .i64 .i64 n n (by omega) (by omega) (by rw [e3]; omega) (by omega)
  rw [this, e2]
  simp [Value.cells]
theorem rowIs_below {w w' : World} {b t n : Nat} {f : Nat → Value} (h : w.rowIs b t n f) (hb : Below w.heap.size w w') : w'.rowIs b t n f := h.of_block (hb.block b h.lt)
theorem row_zero (w : World) (n : Nat) : (w.alloc (.cells (madeCells #[.int .i64 0, .int .i64 0, .int .i64 0, .string ⟨#[]⟩] (n * 4)) 37)).rowIs w.heap.size 37 (n * 4) zeroV := by
  have h := World.rowIs_alloc w (madeCells #[.int .i64 0, .int .i64 0, .int .i64 0, .string ⟨#[]⟩] (n * 4)) 37 zeroV (fun i hi => by
    rw [size_madeCells] at hi
    have h3 : i % 4 = 0 ∨ i % 4 = 1 ∨ i % 4 = 2 ∨ i % 4 = 3 := by omega
    simp only [madeCells, Array.getElem?_map]
    rw [Array.getElem?_eq_getElem (by simpa using hi)]
    rcases h3 with e | e | e | e <;> simp [e, zeroV])
  rwa [size_madeCells] at h
/-- One op more is stored. -/
theorem row_step {wr : World} {g n k : Nat} {f : Nat → Value} (h : wr.rowIs g 37 (n * 4) (fun j => if j < k * 4 then f j else zeroV j)) :
    ((((wr.setCell ⟨g, k * 4, none⟩ (f (k * 4))).setCell ⟨g, k * 4 + 1, none⟩ (f (k * 4 + 1))).setCell ⟨g, k * 4 + 2, none⟩ (f (k * 4 + 2))).setCell ⟨g, k * 4 + 3, none⟩ (f (k * 4 + 3))).rowIs g 37 (n * 4) (fun j => if j < (k + 1) * 4 then f j else zeroV j) := by
  refine ((((h.set (k * 4) _).set (k * 4 + 1) _).set (k * 4 + 2) _).set (k * 4 + 3) _).congr ?_
  intro j _
  by_cases e3 : j = k * 4 + 3
  · subst e3; rw [if_pos rfl, if_pos (by omega)]
  by_cases e2 : j = k * 4 + 2
  · subst e2; rw [if_neg (by omega), if_pos rfl, if_pos (by omega)]
  by_cases e1 : j = k * 4 + 1
  · subst e1; rw [if_neg (by omega), if_neg (by omega), if_pos rfl, if_pos (by omega)]
  by_cases e0 : j = k * 4
  · subst e0; rw [if_neg (by omega), if_neg (by omega), if_neg (by omega), if_pos rfl, if_pos (by omega)]
  simp only [e0, e1, e2, e3, if_false]
  by_cases hj : j < k * 4
  · rw [if_pos hj, if_pos (by omega)]
  · rw [if_neg hj, if_neg (by omega)]

end Go.Proofs.YtlaeilcipibelaaGreatDoor
