/- The ops of a program, copied one by one out of the law's type. -/
import Derived.Test.YtlaeilcipibelaaDoorOpSmall
import Derived.Deep.OwnRows
namespace Go.Proofs.YtlaeilcipibelaaDoor
open Go.RowKit

/-- The cells of a program: four an op. -/
def opV (K N M : Nat → Int) (S : Nat → ByteArray) (j : Nat) : Value := if j % 4 = 0 then .int .i64 (K (j / 4)) else if j % 4 = 1 then .int .i64 (N (j / 4)) else if j % 4 = 2 then .int .i64 (M (j / 4)) else .string (S (j / 4))
def zeroV (j : Nat) : Value := if j % 4 = 3 then .string ⟨#[]⟩ else .int .i64 0
theorem opV_0 (K N M : Nat → Int) (S : Nat → ByteArray) (i : Nat) : opV K N M S (i * 4) = .int .i64 (K i) := by
  have e : i * 4 % 4 = 0 := by omega
  have d : i * 4 / 4 = i := by omega
  simp [opV, d]
theorem opV_1 (K N M : Nat → Int) (S : Nat → ByteArray) (i : Nat) : opV K N M S (i * 4 + 1) = .int .i64 (N i) := by
  have e : (i * 4 + 1) % 4 = 1 := by omega
  have d : (i * 4 + 1) / 4 = i := by omega
  simp [opV, e, d]
theorem opV_2 (K N M : Nat → Int) (S : Nat → ByteArray) (i : Nat) : opV K N M S (i * 4 + 2) = .int .i64 (M i) := by
  have e : (i * 4 + 2) % 4 = 2 := by omega
  have d : (i * 4 + 2) / 4 = i := by omega
  simp [opV, e, d]
theorem opV_3 (K N M : Nat → Int) (S : Nat → ByteArray) (i : Nat) : opV K N M S (i * 4 + 3) = .string (S i) := by
  have e : (i * 4 + 3) % 4 = 3 := by omega
  have d : (i * 4 + 3) / 4 = i := by omega
  simp [opV, e, d]

/-- What a slice of ops that came in is: empty, or a row of four cells an op. -/
def SrcO (w : World) (a : Option Addr) (len : Nat) (f : Nat → Value) : Prop :=
  len = 0 ∨ ∃ b off, a = some ⟨b, off, none⟩ ∧ ∀ j, j < len * 4 → w.cell? ⟨b, off + j, none⟩ = some (f j)
theorem SrcO.below {w w' : World} {a : Option Addr} {len : Nat} {f : Nat → Value} (h : SrcO w a len f) (hb : Below w.heap.size w w') : SrcO w' a len f := by
  rcases h with h | ⟨b, off, rfl, hc⟩
  · exact .inl h
  · refine .inr ⟨b, off, rfl, fun j hj => ?_⟩
    exact (hb.cell (p := ⟨b, off + j, none⟩) (block_lt_of_cell (hc j hj))).trans (hc j hj)

theorem opInfo : (Tryd.prog.info? 85).map (fun i => (i.zero, i.size, i.bytes)) = some (some (.agg #[.int .i64 0, .int .i64 0, .int .i64 0, .string ⟨#[]⟩]), 4, 40) := by kernel_rfl
theorem make_ops (n : Nat) (hn : n ≤ 1048576) (w : World) :
    (Instr.makeSlice 45 (.int .i64 (n : Int)) (.int .i64 (n : Int))).run Tryd.prog w = .ok (.slice (some ⟨w.heap.size, 0, none⟩) n n) (w.alloc (.cells (madeCells #[.int .i64 0, .int .i64 0, .int .i64 0, .string ⟨#[]⟩] (n * 4)) 85)) := by
  have h := opInfo
  obtain ⟨i, hi, e⟩ := Option.map_eq_some_iff.1 h
  simp only [Prod.mk.injEq] at e
  obtain ⟨e1, e2, e3⟩ := e
  have := run_make (P := Tryd.prog) w 45 85 i _ Tryd.underlying45 hi e1 .i64 .i64 n n (by omega) (by omega) (by rw [e3]; omega) (by omega)
  rw [this, e2]
  simp [Value.cells]
theorem rowIs_below {w w' : World} {b t n : Nat} {f : Nat → Value} (h : w.rowIs b t n f) (hb : Below w.heap.size w w') : w'.rowIs b t n f := h.of_block (hb.block b h.lt)
theorem row_zero (w : World) (n : Nat) : (w.alloc (.cells (madeCells #[.int .i64 0, .int .i64 0, .int .i64 0, .string ⟨#[]⟩] (n * 4)) 85)).rowIs w.heap.size 85 (n * 4) zeroV := by
  have h := World.rowIs_alloc w (madeCells #[.int .i64 0, .int .i64 0, .int .i64 0, .string ⟨#[]⟩] (n * 4)) 85 zeroV (fun i hi => by
    rw [size_madeCells] at hi
    have h3 : i % 4 = 0 ∨ i % 4 = 1 ∨ i % 4 = 2 ∨ i % 4 = 3 := by omega
    simp only [madeCells, Array.getElem?_map]
    rw [Array.getElem?_eq_getElem (by simpa using hi)]
    rcases h3 with e | e | e | e <;> simp [e, zeroV])
  rwa [size_madeCells] at h
/-- One op more is stored. -/
theorem row_step {wr : World} {g n k : Nat} {f : Nat → Value} (h : wr.rowIs g 85 (n * 4) (fun j => if j < k * 4 then f j else zeroV j)) :
    ((((wr.setCell ⟨g, k * 4, none⟩ (f (k * 4))).setCell ⟨g, k * 4 + 1, none⟩ (f (k * 4 + 1))).setCell ⟨g, k * 4 + 2, none⟩ (f (k * 4 + 2))).setCell ⟨g, k * 4 + 3, none⟩ (f (k * 4 + 3))).rowIs g 85 (n * 4) (fun j => if j < (k + 1) * 4 then f j else zeroV j) := by
  refine ((((h.set (k * 4) _).set (k * 4 + 1) _).set (k * 4 + 2) _).set (k * 4 + 3) _).congr ?_
  intro j _
  by_cases e3 : j = k * 4 + 3
  · subst e3; rw [if_pos rfl, if_pos (by omega)]
  by_cases e2 : j = k * 4 + 2
  · subst e2; rw [if_neg (by omega), if_pos rfl, if_pos (by omega)]
  by_cases e1 : j = k * 4 + 1
  · subst e1; rw [if_neg (by omega), if_neg (by omega), if_pos rfl, if_pos (by omega)]
  by_cases e0 : j = k * 4
  · subst e0; rw [if_neg (by omega), if_neg (by omega), if_neg (by omega), if_pos rfl, if_pos (by omega)]
  simp only [e0, e1, e2, e3, if_false]
  by_cases hj : j < k * 4
  · rw [if_pos hj, if_pos (by omega)]
  · rw [if_neg hj, if_neg (by omega)]

set_option maxHeartbeats 1000000 in
theorem toOpS_any (a : Option Addr) (len cap : Nat) (K N M : Nat → Int) (S : Nat → ByteArray) (w : World) (hl : len ≤ 1048576) (hs : SrcO w a len (opV K N M S)) :
    Calls Tryd.prog 24 #[.slice a len cap] w fun e w' => e = .returned (.slice (some ⟨w.heap.size, 0, none⟩) len len) ∧ w'.rowIs w.heap.size 85 (len * 4) (opV K N M S) ∧ Below w.heap.size w w' := by
  have hmk := make_ops len hl
  go_enter Tryd.func24, Tryd.ntmps24
  go_wp2
  go_loopw [4] (fun i wr => ∃ k : Nat, k ≤ len ∧ i = .int .i64 k ∧ wr.rowIs w.heap.size 85 (len * 4) (fun j => if j < k * 4 then opV K N M S j else zeroV j) ∧ Below w.heap.size w wr) (fun i _ => len - (intOf i).toNat)
  case atStart => exact ⟨0, Nat.zero_le _, rfl, (row_zero w len).congr (fun i _ => by simp), by go_grown⟩
  case round =>
    obtain ⟨k, hk, rfl, hrow, hbel⟩ := hrel
    have hz := hbel.size
    by_cases hlt : k < len
    · rcases hs with hs | ⟨b, off, rfl, hc⟩
      · omega
      · have l0 := block_lt_of_cell (hc (k * 4) (by omega))
        have c0 : wr.cell? ⟨b, off + k * 4, none⟩ = some (.int .i64 (K k)) := by rw [← opV_0 K N M S k]; exact (hbel.cell (p := ⟨b, off + k * 4, none⟩) l0).trans (hc (k * 4) (by omega))
        have c1 : wr.cell? ⟨b, off + k * 4 + 1, none⟩ = some (.int .i64 (N k)) := by rw [← opV_1 K N M S k]; exact (hbel.cell (p := ⟨b, off + k * 4 + 1, none⟩) l0).trans (hc (k * 4 + 1) (by omega))
        have c2 : wr.cell? ⟨b, off + k * 4 + 2, none⟩ = some (.int .i64 (M k)) := by rw [← opV_2 K N M S k]; exact (hbel.cell (p := ⟨b, off + k * 4 + 2, none⟩) l0).trans (hc (k * 4 + 2) (by omega))
        have c3 : wr.cell? ⟨b, off + k * 4 + 3, none⟩ = some (.string (S k)) := by rw [← opV_3 K N M S k]; exact (hbel.cell (p := ⟨b, off + k * 4 + 3, none⟩) l0).trans (hc (k * 4 + 3) (by omega))
        clear hc
        have HR : Hid (wr.rowIs w.heap.size 85 (len * 4) (fun j => if j < k * 4 then opV K N M S j else zeroV j)) := hrow
        have HRl := hrow.lt
        have HBL : Hid (Below w.heap.size w wr) := hbel
        clear hrow hbel
        go_wp2_with fail
        refine (toOp_any (K k) (N k) (M k) (S k) wr).mono ?_
        rintro e w1 ⟨rfl, hb1⟩
        have HR1 : Hid (w1.rowIs w.heap.size 85 (len * 4) (fun j => if j < k * 4 then opV K N M S j else zeroV j)) := rowIs_below HR.out hb1
        have d0 := HR1.out.cell (i := k * 4) (by omega)
        have d1 := HR1.out.cell (i := k * 4 + 1) (by omega)
        have d2 := HR1.out.cell (i := k * 4 + 2) (by omega)
        have d3 := HR1.out.cell (i := k * 4 + 3) (by omega)
        have f0 := HR1.out.frozen (k * 4)
        have f1 := HR1.out.frozen (k * 4 + 1)
        have f2 := HR1.out.frozen (k * 4 + 2)
        have f3 := HR1.out.frozen (k * 4 + 3)
        have HST : Hid ((((((w1.setCell ⟨w.heap.size, k * 4, none⟩ (.int .i64 (K k))).setCell ⟨w.heap.size, k * 4 + 1, none⟩ (.int .i64 (N k))).setCell ⟨w.heap.size, k * 4 + 2, none⟩ (.int .i64 (M k))).setCell ⟨w.heap.size, k * 4 + 3, none⟩ (.string (S k)))).rowIs w.heap.size 85 (len * 4) (fun j => if j < (k + 1) * 4 then opV K N M S j else zeroV j)) := by
          have := row_step HR1.out
          rwa [opV_0, opV_1, opV_2, opV_3] at this
        have HB1 : Hid (Below w.heap.size w w1) := HBL.out.trans (hb1.mono (by omega))
        clear hb1
        go_wp2
        go_roundw
        case rel => exact ⟨k + 1, by omega, by go_num, HST.out, (((HB1.out.setCell (Nat.le_refl _) _).setCell (Nat.le_refl _) _).setCell (Nat.le_refl _) _).setCell (Nat.le_refl _) _⟩
        case measure => simp [intOf]; omega
    · go_wp2
      go_ret
      have e : k = len := by omega
      subst e
      exact ⟨rfl, hrow.congr (fun i hi => by simp [hi]), hbel⟩

end Go.Proofs.YtlaeilcipibelaaDoor
