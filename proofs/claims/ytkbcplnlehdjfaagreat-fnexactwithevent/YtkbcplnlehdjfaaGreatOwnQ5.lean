/- What the proof leans on, part 5: CopyS, L3Copy1, L3Copy2, Res2, ProcOfI, StB, TdB, TdProc, AlSem, TdSem, AlEvent, TdEvent, AlBoard, TdBoard, AlBuffer, TdBuffer, AlPort, TdPort, TdPart. -/
import Derived.Deep.AppendSrc
import Derived.Laws.CopyOwn
import Derived.Laws.ResultCell
import Derived.Laws.Rows
import Derived.Deep.RegionHeld
import Derived.Test.YtkbcplnlehdjfaaGreatOwnQ0
import Derived.Test.YtkbcplnlehdjfaaGreatOwnQ1
import Derived.Test.YtkbcplnlehdjfaaGreatOwnQ2
import Derived.Test.YtkbcplnlehdjfaaGreatOwnQ3
import Derived.Test.YtkbcplnlehdjfaaGreatOwnQ4

namespace Go.Proofs.YtkbcplnlehdjfaaGreat
open Go.RowKit

theorem rinfSem : (Tryz.prog.info? 49).map (fun i => (i.zero, i.size, i.bytes)) = some (some (.agg #[.int .i64 0, .int .i64 0, .int .i64 0]), 3, 24) := by kernel_rfl
theorem rinfEvent : (Tryz.prog.info? 138).map (fun i => (i.zero, i.size, i.bytes)) = some (some (.agg #[.int .i64 0, .bool false]), 2, 16) := by kernel_rfl
theorem rinfBoard : (Tryz.prog.info? 141).map (fun i => (i.zero, i.size, i.bytes)) = some (some (.agg #[.int .i64 0, .bool false, .string ⟨#[]⟩]), 3, 32) := by kernel_rfl
theorem rinfBuffer : (Tryz.prog.info? 144).map (fun i => (i.zero, i.size, i.bytes)) = some (some (.agg #[.int .i64 0, .int .i64 0, .slice none 0 0]), 3, 40) := by kernel_rfl
theorem rinfPort : (Tryz.prog.info? 61).map (fun i => (i.zero, i.size, i.bytes)) = some (some (.agg #[.int .i64 0, .bool false, .bool false, .int .i64 0, .slice none 0 0]), 5, 48) := by kernel_rfl
theorem rinfProc : (Tryz.prog.info? 43).map (fun i => (i.zero, i.size, i.bytes)) = some (some (.agg #[.int .i64 0, .int .i64 0, .slice none 0 0, .int .i64 0, .int .i64 0, .int .i64 0, .int .i64 0, .int .i64 0, .string ⟨#[]⟩, .string ⟨#[]⟩, .int .i64 0, .int .i64 0]), 12, 128) := by kernel_rfl

theorem own_empty {w : World} {base g : Nat} {e : TypeId} {size : Nat} (hg : w.heap[g]? = some (.cells #[] e (0, 0))) (hb : base ≤ g) : w.ownsRow base e size (.slice (some ⟨g, 0, none⟩) 0 0) 0 [] :=
 ⟨by simp, .inr ⟨g, 0, #[], rfl, hb, hg, Nat.le_refl _, Nat.zero_le _, by simp, by simp⟩⟩
/-- The copy is the call's own: in the block that was made for it, or in a new one. -/
theorem append_onto {P : Program} (w : World) (base : Nat) (t ty e : TypeId) (i : TypeInfo) (z : Value) (size bytes : Nat) (ht : P.underlying t = some (.slice e)) (hi : P.info? e = some i) (hz : i.zero = some z)
  (hsize : i.size = size) (hby : i.bytes = bytes) (hzs : z.cells.size = size) (hsz : 0 < size) (g : Nat) (hg : w.heap[g]? = some (.cells #[] e (0, 0))) (hbg : base ≤ g) (a : Option Addr) (n cap : Nat) (xs : List Value) (h : Row w a xs) (hl : xs.length = n * size) (h1 : ∀ u ∈ xs, u.oneCell' = true)
  (h63 : n ≤ 1048576) (hb : bytes ≤ 1000) (hbw : base ≤ w.heap.size) :
  ∃ a' cap' w', (Builtin.append_ #[t, t] ty #[.slice (some ⟨g, 0, none⟩) 0 0, .slice a n cap]).run P w = .ok (.slice a' n cap') w' ∧ w'.ownsRow base e size (.slice a' n cap') n xs ∧ w.grownBy w' (some g) ∧ ∀ q ∈ blk a', q = g ∨ q = w.heap.size := by
 cases a with
 | none =>
  have hx : xs = [] := by
   cases xs with
   | nil => rfl
   | cons u r =>
    obtain ⟨g, e', _⟩ := h 0 u rfl
    cases e'
  subst hx
  have hn : n = 0 := by
   cases n with
   | zero => rfl
   | succ n => simp only [List.length_nil, Nat.succ_mul] at hl; omega
  subst hn
  refine ⟨some ⟨g, 0, none⟩, 0, w, ?_, own_empty hg hbg, ⟨rfl, rfl, rfl, Nat.le_refl _, fun _ _ _ => rfl⟩, fun q hq => by simp [blk] at hq; exact .inl hq⟩
  simp [Builtin.append_, run_underlying ht, sizeOf, typeInfo, hi, Builtin.lenOf, Builtin.firstCells, storeCells]
 | some ad =>
  have hnews : ∀ j u, xs[j]? = some u → w.cell? (ad.add j) = some u := fun j u hu => by
   obtain ⟨g, e', hc⟩ := h j u hu
   cases e'
   rw [add_off]
   exact hc
  obtain ⟨v', w', hr, ho, hgr, -, hbl⟩ := run_append_own_at (P := P) w base t ty e i z size bytes ht hi hz hsize hby hzs hsz (.slice (some ⟨g, 0, none⟩) 0 0) 0 [] (own_empty hg hbg) ad n cap xs hl hnews h1 (by unfold maxLen; omega) (by rw [Nat.zero_add]; have := Nat.mul_le_mul h63 hb; omega) hbw
  simp only [Nat.zero_add, List.nil_append] at ho
  obtain ⟨a', cap', rfl, -⟩ := own_form ho
  refine ⟨a', cap', w', hr, ho, hgr, fun q hq => ?_⟩
  rw [mem_blk] at hq
  cases a' with
  | none => simp at hq
  | some ad' =>
   simp only [Option.map_some, Option.some.injEq] at hq
   subst hq
   rcases hbl with hbl | hbl
   ·exact .inl (by simpa [Value.ownBlock] using hbl)
   ·exact .inr (by simpa [Value.ownBlock] using hbl)
theorem one_sem {l : List SemD} : ∀ u ∈ semK.flat l, u.oneCell' = true := fun u hu => by
 obtain ⟨x, _, hx⟩ := List.mem_flatMap.1 hu
 simp only [semK, semVals, List.mem_cons, List.not_mem_nil, or_false] at hx
 rcases hx with rfl | rfl | rfl <;> rfl
theorem one_event {l : List EventD} : ∀ u ∈ eventK.flat l, u.oneCell' = true := fun u hu => by
 obtain ⟨x, _, hx⟩ := List.mem_flatMap.1 hu
 simp only [eventK, eventVals, List.mem_cons, List.not_mem_nil, or_false] at hx
 rcases hx with rfl | rfl <;> rfl
theorem one_board {l : List BoardD} : ∀ u ∈ boardK.flat l, u.oneCell' = true := fun u hu => by
 obtain ⟨x, _, hx⟩ := List.mem_flatMap.1 hu
 simp only [boardK, boardVals, List.mem_cons, List.not_mem_nil, or_false] at hx
 rcases hx with rfl | rfl | rfl <;> rfl
theorem ontoSem (w : World) (base g : Nat) (hg : w.heap[g]? = some (.cells #[] 49 (0, 0))) (hbg : base ≤ g) (a : Option Addr) (l : List SemD) (cap : Nat) (h : Row w a (semK.flat l)) (hl : l.length ≤ 1048576) (hbw : base ≤ w.heap.size) :
  ∃ a' cap' w', (Builtin.append_ #[26, 26] 26 #[.slice (some ⟨g, 0, none⟩) 0 0, .slice a l.length cap]).run Tryz.prog w = .ok (.slice a' l.length cap') w' ∧ w'.ownsRow base 49 3 (.slice a' l.length cap') l.length (semK.flat l) ∧ w.grownBy w' (some g) ∧ ∀ q ∈ blk a', q = g ∨ q = w.heap.size := by
 obtain ⟨i, hi, e⟩ := Option.map_eq_some_iff.1 rinfSem
 simp only [Prod.mk.injEq] at e
 exact append_onto w base _ _ 49 i _ 3 24 Tryz.underlying26 hi e.1 e.2.1 e.2.2 rfl (by decide) g hg hbg a l.length cap _ h (semK.flat_length l) one_sem hl (by decide) hbw
theorem ontoEvent (w : World) (base g : Nat) (hg : w.heap[g]? = some (.cells #[] 138 (0, 0))) (hbg : base ≤ g) (a : Option Addr) (l : List EventD) (cap : Nat) (h : Row w a (eventK.flat l)) (hl : l.length ≤ 1048576) (hbw : base ≤ w.heap.size) :
  ∃ a' cap' w', (Builtin.append_ #[27, 27] 27 #[.slice (some ⟨g, 0, none⟩) 0 0, .slice a l.length cap]).run Tryz.prog w = .ok (.slice a' l.length cap') w' ∧ w'.ownsRow base 138 2 (.slice a' l.length cap') l.length (eventK.flat l) ∧ w.grownBy w' (some g) ∧ ∀ q ∈ blk a', q = g ∨ q = w.heap.size := by
 obtain ⟨i, hi, e⟩ := Option.map_eq_some_iff.1 rinfEvent
 simp only [Prod.mk.injEq] at e
 exact append_onto w base _ _ 138 i _ 2 16 Tryz.underlying27 hi e.1 e.2.1 e.2.2 rfl (by decide) g hg hbg a l.length cap _ h (eventK.flat_length l) one_event hl (by decide) hbw
theorem ontoBoard (w : World) (base g : Nat) (hg : w.heap[g]? = some (.cells #[] 141 (0, 0))) (hbg : base ≤ g) (a : Option Addr) (l : List BoardD) (cap : Nat) (h : Row w a (boardK.flat l)) (hl : l.length ≤ 1048576) (hbw : base ≤ w.heap.size) :
  ∃ a' cap' w', (Builtin.append_ #[28, 28] 28 #[.slice (some ⟨g, 0, none⟩) 0 0, .slice a l.length cap]).run Tryz.prog w = .ok (.slice a' l.length cap') w' ∧ w'.ownsRow base 141 3 (.slice a' l.length cap') l.length (boardK.flat l) ∧ w.grownBy w' (some g) ∧ ∀ q ∈ blk a', q = g ∨ q = w.heap.size := by
 obtain ⟨i, hi, e⟩ := Option.map_eq_some_iff.1 rinfBoard
 simp only [Prod.mk.injEq] at e
 exact append_onto w base _ _ 141 i _ 3 32 Tryz.underlying28 hi e.1 e.2.1 e.2.2 rfl (by decide) g hg hbg a l.length cap _ h (boardK.flat_length l) one_board hl (by decide) hbw
theorem ontoOp (w : World) (base g : Nat) (hg : w.heap[g]? = some (.cells #[] 134 (0, 0))) (hbg : base ≤ g) (a : Option Addr) (l : List OpD) (cap : Nat) (h : Row w a (opK.flat l)) (hl : l.length ≤ 1048576) (hbw : base ≤ w.heap.size) :
  ∃ a' cap' w', (Builtin.append_ #[37, 37] 37 #[.slice (some ⟨g, 0, none⟩) 0 0, .slice a l.length cap]).run Tryz.prog w = .ok (.slice a' l.length cap') w' ∧ w'.ownsRow base 134 4 (.slice a' l.length cap') l.length (opK.flat l) ∧ w.grownBy w' (some g) ∧ ∀ q ∈ blk a', q = g ∨ q = w.heap.size := by
 obtain ⟨i, hi, e⟩ := Option.map_eq_some_iff.1 opInfoL
 simp only [Prod.mk.injEq] at e
 exact append_onto w base _ _ 134 i _ 4 40 Tryz.underlying37 hi e.1 e.2.1 e.2.2 rfl (by decide) g hg hbg a l.length cap _ h (opK.flat_length l) one_op hl (by decide) hbw
theorem ontoStr (w : World) (base g : Nat) (hg : w.heap[g]? = some (.cells #[] 9 (0, 0))) (hbg : base ≤ g) (a : Option Addr) (l : List ByteArray) (cap : Nat) (h : Row w a (strK.flat l)) (hl : l.length ≤ 1048576) (hbw : base ≤ w.heap.size) :
  ∃ a' cap' w', (Builtin.append_ #[59, 59] 59 #[.slice (some ⟨g, 0, none⟩) 0 0, .slice a l.length cap]).run Tryz.prog w = .ok (.slice a' l.length cap') w' ∧ w'.ownsRow base 9 1 (.slice a' l.length cap') l.length (strK.flat l) ∧ w.grownBy w' (some g) ∧ ∀ q ∈ blk a', q = g ∨ q = w.heap.size := by
 obtain ⟨i, hi, e⟩ := Option.map_eq_some_iff.1 strInfo
 simp only [Prod.mk.injEq] at e
 exact append_onto w base _ _ 9 i _ 1 16 Tryz.underlying59 hi e.1 e.2.1 e.2.2 rfl (by decide) g hg hbg a l.length cap _ h (strK.flat_length l) one_str hl (by decide) hbw

section
variable {P : Program} {Q : Exit → Act → World → Prop} {K : Act → World → Prop} {o : Oper} {a : Act} {w : World}
theorem oper_append (s x : Operand) (t : TypeId) (ho : o.op = .call { callee := .builtin .append, args := #[s, x], argTypes := #[t, t] }) (v u r : Value) (w' : World) (hs : a.eval s = v) (hx : a.eval x = u) (hr : (Builtin.append_ #[t, t] o.type #[v, u]).run P w = .ok r w')
  (h : K (a.put o.dst r) w') : Oper.wp P o a w K Q := by
 unfold Oper.wp execOp
 simp only [ho, resolve, invoke, builtin, Sem.run_bind, Sem.run_pure, Result.andThen_ok, List.map_toArray, List.map_cons, List.map_nil, hs, hx, hr]
 exact h
theorem oper_store (ty : TypeId) (x y : Operand) (ho : o.op = .store ty x y) (g : Nat) (t : TypeId) (old cells : Array Value) (hx : a.eval x = .pointer (some ⟨g, 0, none⟩)) (hy : a.eval y = .agg cells) (hg : w.heap[g]? = some (.cells old t (0, 0))) (hi : (P.info? ty).map (·.size) = some cells.size)
  (hs : old.size = cells.size) (h1 : cells.all (·.oneCell') = true) (h : K (a.put o.dst undef) (w.setRow g cells)) : Oper.wp P o a w K Q := by
 unfold Oper.wp execOp
 simp only [ho, hx, hy, Instr.storeAt, Instr.sureAddr, Sem.run_bind, Sem.run_pure, Result.andThen_ok, run_storeVar_row w g t ty old cells hg hi hs h1]
 exact h
theorem wpList_store_row {ops : Array Oper} {rest : List Oper} (hgd : o.guard = none) (ty : TypeId) (x y : Operand) (ho : o.op = .store ty x y) (g : Nat) (t : TypeId) (old cells : Array Value) (hx : a.eval x = .pointer (some ⟨g, 0, none⟩)) (hy : a.eval y = .agg cells) (hg : w.heap[g]? = some (.cells old t (0, 0))) (hi : (P.info? ty).map (·.size) = some cells.size)
  (hs : old.size = cells.size) (h1 : cells.all (·.oneCell') = true) (h : wpList P ops Q rest (a.put o.dst undef) (w.setRow g cells)) : wpList P ops Q (o :: rest) a w :=
 wpList_plain hgd fun _ hK => oper_store ty x y ho g t old cells hx hy hg hi hs h1 (hK _ _ h)
end

/-- A list on its way to be copied: an empty slice is made for it (b), it is copied (c). -/
structure SlotIs (w : World) (base : Nat) (T : TypeId) (size len : Nat) (xs : List Value) (b c : Bool) (g : Nat) (a : Option Addr) (cap : Nat) : Prop where
 made : b = true → c = false → w.heap[g]? = some (.cells #[] T (0, 0)) ∧ base ≤ g
 done : c = true → w.ownsRow base T size (.slice a len cap) len xs
def slotB (b c : Bool) (g : Nat) (a : Option Addr) : List Nat := bif c then blk a else bif b then [g] else []
theorem SlotIs.same {w w' : World} {base : Nat} {T : TypeId} {size len : Nat} {xs : List Value} {b c : Bool} {g : Nat} {a : Option Addr} {cap : Nat} (h : SlotIs w base T size len xs b c g a cap) (hs : ∀ q ∈ slotB b c g a, w'.heap[q]? = w.heap[q]?) : SlotIs w' base T size len xs b c g a cap := by
 refine ⟨fun hb hc => ?_, fun hc => ?_⟩
 ·subst hb hc
  exact ⟨(hs g (by simp [slotB])).trans (h.made rfl rfl).1, (h.made rfl rfl).2⟩
 ·subst hc
  exact own_same (h.done rfl) fun q hq => hs q (by simpa [slotB] using hq)

end Go.Proofs.YtkbcplnlehdjfaaGreat

/- The plain lists of a partition copied by the specification, in whatever order: what stands between. (Made by mkl3copy.py.) -/
namespace Go.Proofs.YtkbcplnlehdjfaaGreat
open Go.RowKit

/-- Four lists of blocks, none of which has one in common with another. -/
def four (a b c d : List Nat) : Nat → List Nat
 | 0 => a
 | 1 => b
 | 2 => c
 | 3 => d
 | _ => []
structure Apart4 (n0 n : Nat) (X : Nat → List Nat) : Prop where
 apart : ∀ i j, i ≠ j → ∀ q ∈ X i, q ∉ X j
 lts : ∀ i, ∀ q ∈ X i, n0 ≤ q ∧ q < n
theorem Apart4.up {n0 n n' : Nat} {X X' : Nat → List Nat} (h : Apart4 n0 n X) (k : Nat) (hk : ∀ j, j ≠ k → X' j = X j) (hx : ∀ q ∈ X' k, q ∈ X k ∨ q = n) (hn : n < n') (h0 : n0 ≤ n) : Apart4 n0 n' X' := by
 refine ⟨fun i j hij q hi hj => ?_, fun i q hi => ?_⟩
 ·by_cases ei : i = k
  ·subst ei
   rw [hk j (Ne.symm hij)] at hj
   rcases hx q hi with h1 | rfl
   ·exact h.apart i j hij q h1 hj
   ·have := (h.lts j q hj).2; omega
  ·rw [hk i ei] at hi
   by_cases ej : j = k
   ·subst ej
    rcases hx q hj with h1 | rfl
    ·exact h.apart i j hij q hi h1
    ·have := (h.lts i q hi).2; omega
   ·rw [hk j ej] at hj
    exact h.apart i j hij q hi hj
 ·by_cases ei : i = k
  ·subst ei
   rcases hx q hi with h1 | rfl
   ·have := h.lts i q h1; omega
   ·omega
  ·rw [hk i ei] at hi
   have := h.lts i q hi
   omega
theorem Apart4.mono {n0 n n' : Nat} {X : Nat → List Nat} (h : Apart4 n0 n X) (hn : n ≤ n') : Apart4 n0 n' X := ⟨h.apart, fun i q hq => by have := h.lts i q hq; omega⟩

/-- What stands while the plain lists are copied, whatever has come first. -/
structure CopyF (p : PartD) (We w : World) (b0 d0 b1 d1 b2 d2 b3 d3 e : Bool) (g0 g1 g2 o : Nat) (a0 a1 a2 : Option Addr) (c0 c1 c2 : Nat) : Prop where
 bel : Below We.heap.size We w
 part : PartBox w We.heap.size p
 ret : w.heap[We.heap.size + 1]? = some (.cells #[.int .i64 0, .int .i64 0, .slice none 0 0, .slice none 0 0, .slice none 0 0, .slice none 0 0, .slice none 0 0, .slice none 0 0] 32 (0, 0))
 s0 : SlotIs w (We.heap.size + 2) 49 3 p.sems.length (semK.flat p.sems) b0 d0 g0 a0 c0
 s1 : SlotIs w (We.heap.size + 2) 138 2 p.events.length (eventK.flat p.events) b1 d1 g1 a1 c1
 s2 : SlotIs w (We.heap.size + 2) 141 3 p.boards.length (boardK.flat p.boards) b2 d2 g2 a2 c2
 out : b3 = true → w.heap[o]? = some (.cells (bif d3 then #[.int .i64 p.id, .int .i64 p.next, .slice none 0 0, .slice a0 p.sems.length c0, .slice a1 p.events.length c1, .slice a2 p.boards.length c2, .slice none 0 0, .slice none 0 0] else #[.int .i64 0, .int .i64 0, .slice none 0 0, .slice none 0 0, .slice none 0 0, .slice none 0 0, .slice none 0 0, .slice none 0 0]) 32 (0, 0))
 cl : (e = true → d0 = true ∧ d1 = true ∧ d2 = true) ∧ (d3 = true → e = true ∧ b3 = true)
 size : We.heap.size + 2 ≤ w.heap.size
 apt : Apart4 (We.heap.size + 2) w.heap.size (four (slotB b0 d0 g0 a0) (slotB b1 d1 g1 a1) (slotB b2 d2 g2 a2) (bif b3 then [o] else []))

section
variable {p : PartD} {We w : World} {b0 d0 b1 d1 b2 d2 b3 d3 e : Bool} {g0 g1 g2 o : Nat} {a0 a1 a2 : Option Addr} {c0 c1 c2 : Nat}
theorem CopyF.make0 (h : CopyF p We w false d0 b1 d1 b2 d2 b3 d3 e g0 g1 g2 o a0 a1 a2 c0 c1 c2) : CopyF p We (w.alloc (.cells #[] 49)) true d0 b1 d1 b2 d2 b3 d3 e w.heap.size g1 g2 o a0 a1 a2 c0 c1 c2 := by
 have hb : Below w.heap.size w (w.alloc (.cells #[] 49)) := (Below.refl _ _).alloc (Nat.le_refl _) _
 have hlt : ∀ i, ∀ q ∈ four (slotB false d0 g0 a0) (slotB b1 d1 g1 a1) (slotB b2 d2 g2 a2) (bif b3 then [o] else []) i, q < w.heap.size := fun i q hq => (h.apt.lts i q hq).2
 exact ⟨h.bel.trans (hb.mono h.bel.size), h.part.below hb, (hb.block _ (by have := h.size; omega)).trans h.ret, ⟨fun _ hd => ⟨heap_alloc_new _ _, h.size⟩, fun hd => own_same (h.s0.done hd) fun q hq => hb.block q (hlt 0 q (by subst hd; simpa [four, slotB] using hq))⟩, h.s1.same fun q hq => hb.block q (hlt 1 q hq), h.s2.same fun q hq => hb.block q (hlt 2 q hq), fun e => (hb.block _ (hlt 3 o (by simp [four, e]))).trans (h.out e), h.cl, by have := h.size; simp; omega, h.apt.up 0 (fun j hj => by rcases j with _ | _ | _ | _ | _ <;> first | rfl | exact absurd rfl hj) (fun q hq => by cases d0 with | true => exact .inl (by simpa [four, slotB] using hq) | false => exact .inr (by simpa [four, slotB] using hq)) (by simp) h.size⟩
theorem CopyF.make1 (h : CopyF p We w b0 d0 false d1 b2 d2 b3 d3 e g0 g1 g2 o a0 a1 a2 c0 c1 c2) : CopyF p We (w.alloc (.cells #[] 138)) b0 d0 true d1 b2 d2 b3 d3 e g0 w.heap.size g2 o a0 a1 a2 c0 c1 c2 := by
 have hb : Below w.heap.size w (w.alloc (.cells #[] 138)) := (Below.refl _ _).alloc (Nat.le_refl _) _
 have hlt : ∀ i, ∀ q ∈ four (slotB b0 d0 g0 a0) (slotB false d1 g1 a1) (slotB b2 d2 g2 a2) (bif b3 then [o] else []) i, q < w.heap.size := fun i q hq => (h.apt.lts i q hq).2
 exact ⟨h.bel.trans (hb.mono h.bel.size), h.part.below hb, (hb.block _ (by have := h.size; omega)).trans h.ret, h.s0.same fun q hq => hb.block q (hlt 0 q hq), ⟨fun _ hd => ⟨heap_alloc_new _ _, h.size⟩, fun hd => own_same (h.s1.done hd) fun q hq => hb.block q (hlt 1 q (by subst hd; simpa [four, slotB] using hq))⟩, h.s2.same fun q hq => hb.block q (hlt 2 q hq), fun e => (hb.block _ (hlt 3 o (by simp [four, e]))).trans (h.out e), h.cl, by have := h.size; simp; omega, h.apt.up 1 (fun j hj => by rcases j with _ | _ | _ | _ | _ <;> first | rfl | exact absurd rfl hj) (fun q hq => by cases d1 with | true => exact .inl (by simpa [four, slotB] using hq) | false => exact .inr (by simpa [four, slotB] using hq)) (by simp) h.size⟩
theorem CopyF.make2 (h : CopyF p We w b0 d0 b1 d1 false d2 b3 d3 e g0 g1 g2 o a0 a1 a2 c0 c1 c2) : CopyF p We (w.alloc (.cells #[] 141)) b0 d0 b1 d1 true d2 b3 d3 e g0 g1 w.heap.size o a0 a1 a2 c0 c1 c2 := by
 have hb : Below w.heap.size w (w.alloc (.cells #[] 141)) := (Below.refl _ _).alloc (Nat.le_refl _) _
 have hlt : ∀ i, ∀ q ∈ four (slotB b0 d0 g0 a0) (slotB b1 d1 g1 a1) (slotB false d2 g2 a2) (bif b3 then [o] else []) i, q < w.heap.size := fun i q hq => (h.apt.lts i q hq).2
 exact ⟨h.bel.trans (hb.mono h.bel.size), h.part.below hb, (hb.block _ (by have := h.size; omega)).trans h.ret, h.s0.same fun q hq => hb.block q (hlt 0 q hq), h.s1.same fun q hq => hb.block q (hlt 1 q hq), ⟨fun _ hd => ⟨heap_alloc_new _ _, h.size⟩, fun hd => own_same (h.s2.done hd) fun q hq => hb.block q (hlt 2 q (by subst hd; simpa [four, slotB] using hq))⟩, fun e => (hb.block _ (hlt 3 o (by simp [four, e]))).trans (h.out e), h.cl, by have := h.size; simp; omega, h.apt.up 2 (fun j hj => by rcases j with _ | _ | _ | _ | _ <;> first | rfl | exact absurd rfl hj) (fun q hq => by cases d2 with | true => exact .inl (by simpa [four, slotB] using hq) | false => exact .inr (by simpa [four, slotB] using hq)) (by simp) h.size⟩
theorem CopyF.copy0 {w2 : World} {a : Option Addr} {c : Nat} (h : CopyF p We w true false b1 d1 b2 d2 b3 d3 e g0 g1 g2 o a0 a1 a2 c0 c1 c2) (ho : w2.ownsRow (We.heap.size + 2) 49 3 (.slice a p.sems.length c) p.sems.length (semK.flat p.sems)) (hg : w.grownBy w2 (some g0)) (hq : ∀ q ∈ blk a, q = g0 ∨ q = w.heap.size) : CopyF p We w2 true true b1 d1 b2 d2 b3 d3 e g0 g1 g2 o a a1 a2 c c1 c2 := by
 have hlt : ∀ i, ∀ q ∈ four (slotB true false g0 a0) (slotB b1 d1 g1 a1) (slotB b2 d2 g2 a2) (bif b3 then [o] else []) i, q < w.heap.size := fun i q hq => (h.apt.lts i q hq).2
 have hgl : We.heap.size + 2 ≤ g0 ∧ g0 < w.heap.size := h.apt.lts 0 g0 (by simp [four, slotB])
 have hne : ∀ i, i ≠ 0 → ∀ q ∈ four (slotB true false g0 a0) (slotB b1 d1 g1 a1) (slotB b2 d2 g2 a2) (bif b3 then [o] else []) i, w2.heap[q]? = w.heap[q]? := fun i hi q hq => hg.block q (hlt i q hq) fun e => h.apt.apart i 0 hi q hq (by rw [Option.some.inj e]; simp [four, slotB])
 have hbe : Below We.heap.size We w2 := h.bel.grown hg (by have := h.size; omega) (fun k hk => by cases hk; omega)
 have he : e = false := by cases e with | false => rfl | true => have := h.cl.1 rfl; simp at this
 have hd : d3 = false := by cases hx : d3 with | false => rfl | true => rw [(h.cl.2 hx).1] at he; cases he
 subst he hd
 have hz := hg.size
 have hsz := h.size
 refine ⟨hbe, (hg.block _ (by omega) (fun e => by have := Option.some.inj e; omega)).trans h.part, (hg.block _ (by omega) (fun e => by have := Option.some.inj e; omega)).trans h.ret, ⟨(fun _ hd => by cases hd), fun _ => ho⟩, h.s1.same fun q hq => hne 1 (by decide) q hq, h.s2.same fun q hq => hne 2 (by decide) q hq, fun e => (hne 3 (by decide) o (by simp [four, e])).trans (h.out e), ⟨(fun e => by cases e), fun e => by cases e⟩, by omega, ?_⟩
 by_cases hnew : ∃ q ∈ blk a, q = w.heap.size
 ·obtain ⟨q0, hq0, hqe⟩ := hnew
  have hw2 := (own_lt ho hq0).2
  refine h.apt.up 0 (fun j hj => by rcases j with _ | _ | _ | _ | _ <;> first | rfl | exact absurd rfl hj) (fun q hq' => ?_) (by omega) hsz
  have h5 : q ∈ blk a := by simpa [four, slotB] using hq'
  rcases hq q h5 with h6 | h6
  ·exact .inl (by rw [h6]; simp [four, slotB])
  ·exact .inr h6
 ·have hall : ∀ q ∈ blk a, q = g0 := fun q hq' => (hq q hq').resolve_right fun e => hnew ⟨q, hq', e⟩
  refine Apart4.mono (n := w.heap.size) ⟨fun i i2 hij q hi hi2 => ?_, fun i q hi => ?_⟩ hz
  ·have e1 : ∀ i, ∀ q ∈ four (slotB true true g0 a) (slotB b1 d1 g1 a1) (slotB b2 d2 g2 a2) (bif b3 then [o] else []) i, q ∈ four (slotB true false g0 a0) (slotB b1 d1 g1 a1) (slotB b2 d2 g2 a2) (bif b3 then [o] else []) i := fun i q hq' => by
    by_cases ei : i = 0
    ·subst ei
     have h5 : q ∈ blk a := by simpa [four, slotB] using hq'
     rw [hall q h5]
     simp [four, slotB]
    ·rcases i with _ | _ | _ | _ | _ <;> first | exact hq' | exact absurd rfl ei
   exact h.apt.apart i i2 hij q (e1 i q hi) (e1 i2 q hi2)
  ·by_cases ei : i = 0
   ·subst ei
    have h5 : q ∈ blk a := by simpa [four, slotB] using hi
    rw [hall q h5]
    exact hgl
   ·exact h.apt.lts i q (by rcases i with _ | _ | _ | _ | _ <;> first | exact hi | exact absurd rfl ei)
theorem CopyF.copy1 {w2 : World} {a : Option Addr} {c : Nat} (h : CopyF p We w b0 d0 true false b2 d2 b3 d3 e g0 g1 g2 o a0 a1 a2 c0 c1 c2) (ho : w2.ownsRow (We.heap.size + 2) 138 2 (.slice a p.events.length c) p.events.length (eventK.flat p.events)) (hg : w.grownBy w2 (some g1)) (hq : ∀ q ∈ blk a, q = g1 ∨ q = w.heap.size) : CopyF p We w2 b0 d0 true true b2 d2 b3 d3 e g0 g1 g2 o a0 a a2 c0 c c2 := by
 have hlt : ∀ i, ∀ q ∈ four (slotB b0 d0 g0 a0) (slotB true false g1 a1) (slotB b2 d2 g2 a2) (bif b3 then [o] else []) i, q < w.heap.size := fun i q hq => (h.apt.lts i q hq).2
 have hgl : We.heap.size + 2 ≤ g1 ∧ g1 < w.heap.size := h.apt.lts 1 g1 (by simp [four, slotB])
 have hne : ∀ i, i ≠ 1 → ∀ q ∈ four (slotB b0 d0 g0 a0) (slotB true false g1 a1) (slotB b2 d2 g2 a2) (bif b3 then [o] else []) i, w2.heap[q]? = w.heap[q]? := fun i hi q hq => hg.block q (hlt i q hq) fun e => h.apt.apart i 1 hi q hq (by rw [Option.some.inj e]; simp [four, slotB])
 have hbe : Below We.heap.size We w2 := h.bel.grown hg (by have := h.size; omega) (fun k hk => by cases hk; omega)
 have he : e = false := by cases e with | false => rfl | true => have := h.cl.1 rfl; simp at this
 have hd : d3 = false := by cases hx : d3 with | false => rfl | true => rw [(h.cl.2 hx).1] at he; cases he
 subst he hd
 have hz := hg.size
 have hsz := h.size
 refine ⟨hbe, (hg.block _ (by omega) (fun e => by have := Option.some.inj e; omega)).trans h.part, (hg.block _ (by omega) (fun e => by have := Option.some.inj e; omega)).trans h.ret, h.s0.same fun q hq => hne 0 (by decide) q hq, ⟨(fun _ hd => by cases hd), fun _ => ho⟩, h.s2.same fun q hq => hne 2 (by decide) q hq, fun e => (hne 3 (by decide) o (by simp [four, e])).trans (h.out e), ⟨(fun e => by cases e), fun e => by cases e⟩, by omega, ?_⟩
 by_cases hnew : ∃ q ∈ blk a, q = w.heap.size
 ·obtain ⟨q0, hq0, hqe⟩ := hnew
  have hw2 := (own_lt ho hq0).2
  refine h.apt.up 1 (fun j hj => by rcases j with _ | _ | _ | _ | _ <;> first | rfl | exact absurd rfl hj) (fun q hq' => ?_) (by omega) hsz
  have h5 : q ∈ blk a := by simpa [four, slotB] using hq'
  rcases hq q h5 with h6 | h6
  ·exact .inl (by rw [h6]; simp [four, slotB])
  ·exact .inr h6
 ·have hall : ∀ q ∈ blk a, q = g1 := fun q hq' => (hq q hq').resolve_right fun e => hnew ⟨q, hq', e⟩
  refine Apart4.mono (n := w.heap.size) ⟨fun i i2 hij q hi hi2 => ?_, fun i q hi => ?_⟩ hz
  ·have e1 : ∀ i, ∀ q ∈ four (slotB b0 d0 g0 a0) (slotB true true g1 a) (slotB b2 d2 g2 a2) (bif b3 then [o] else []) i, q ∈ four (slotB b0 d0 g0 a0) (slotB true false g1 a1) (slotB b2 d2 g2 a2) (bif b3 then [o] else []) i := fun i q hq' => by
    by_cases ei : i = 1
    ·subst ei
     have h5 : q ∈ blk a := by simpa [four, slotB] using hq'
     rw [hall q h5]
     simp [four, slotB]
    ·rcases i with _ | _ | _ | _ | _ <;> first | exact hq' | exact absurd rfl ei
   exact h.apt.apart i i2 hij q (e1 i q hi) (e1 i2 q hi2)
  ·by_cases ei : i = 1
   ·subst ei
    have h5 : q ∈ blk a := by simpa [four, slotB] using hi
    rw [hall q h5]
    exact hgl
   ·exact h.apt.lts i q (by rcases i with _ | _ | _ | _ | _ <;> first | exact hi | exact absurd rfl ei)
theorem CopyF.copy2 {w2 : World} {a : Option Addr} {c : Nat} (h : CopyF p We w b0 d0 b1 d1 true false b3 d3 e g0 g1 g2 o a0 a1 a2 c0 c1 c2) (ho : w2.ownsRow (We.heap.size + 2) 141 3 (.slice a p.boards.length c) p.boards.length (boardK.flat p.boards)) (hg : w.grownBy w2 (some g2)) (hq : ∀ q ∈ blk a, q = g2 ∨ q = w.heap.size) : CopyF p We w2 b0 d0 b1 d1 true true b3 d3 e g0 g1 g2 o a0 a1 a c0 c1 c := by
 have hlt : ∀ i, ∀ q ∈ four (slotB b0 d0 g0 a0) (slotB b1 d1 g1 a1) (slotB true false g2 a2) (bif b3 then [o] else []) i, q < w.heap.size := fun i q hq => (h.apt.lts i q hq).2
 have hgl : We.heap.size + 2 ≤ g2 ∧ g2 < w.heap.size := h.apt.lts 2 g2 (by simp [four, slotB])
 have hne : ∀ i, i ≠ 2 → ∀ q ∈ four (slotB b0 d0 g0 a0) (slotB b1 d1 g1 a1) (slotB true false g2 a2) (bif b3 then [o] else []) i, w2.heap[q]? = w.heap[q]? := fun i hi q hq => hg.block q (hlt i q hq) fun e => h.apt.apart i 2 hi q hq (by rw [Option.some.inj e]; simp [four, slotB])
 have hbe : Below We.heap.size We w2 := h.bel.grown hg (by have := h.size; omega) (fun k hk => by cases hk; omega)
 have he : e = false := by cases e with | false => rfl | true => have := h.cl.1 rfl; simp at this
 have hd : d3 = false := by cases hx : d3 with | false => rfl | true => rw [(h.cl.2 hx).1] at he; cases he
 subst he hd
 have hz := hg.size
 have hsz := h.size
 refine ⟨hbe, (hg.block _ (by omega) (fun e => by have := Option.some.inj e; omega)).trans h.part, (hg.block _ (by omega) (fun e => by have := Option.some.inj e; omega)).trans h.ret, h.s0.same fun q hq => hne 0 (by decide) q hq, h.s1.same fun q hq => hne 1 (by decide) q hq, ⟨(fun _ hd => by cases hd), fun _ => ho⟩, fun e => (hne 3 (by decide) o (by simp [four, e])).trans (h.out e), ⟨(fun e => by cases e), fun e => by cases e⟩, by omega, ?_⟩
 by_cases hnew : ∃ q ∈ blk a, q = w.heap.size
 ·obtain ⟨q0, hq0, hqe⟩ := hnew
  have hw2 := (own_lt ho hq0).2
  refine h.apt.up 2 (fun j hj => by rcases j with _ | _ | _ | _ | _ <;> first | rfl | exact absurd rfl hj) (fun q hq' => ?_) (by omega) hsz
  have h5 : q ∈ blk a := by simpa [four, slotB] using hq'
  rcases hq q h5 with h6 | h6
  ·exact .inl (by rw [h6]; simp [four, slotB])
  ·exact .inr h6
 ·have hall : ∀ q ∈ blk a, q = g2 := fun q hq' => (hq q hq').resolve_right fun e => hnew ⟨q, hq', e⟩
  refine Apart4.mono (n := w.heap.size) ⟨fun i i2 hij q hi hi2 => ?_, fun i q hi => ?_⟩ hz
  ·have e1 : ∀ i, ∀ q ∈ four (slotB b0 d0 g0 a0) (slotB b1 d1 g1 a1) (slotB true true g2 a) (bif b3 then [o] else []) i, q ∈ four (slotB b0 d0 g0 a0) (slotB b1 d1 g1 a1) (slotB true false g2 a2) (bif b3 then [o] else []) i := fun i q hq' => by
    by_cases ei : i = 2
    ·subst ei
     have h5 : q ∈ blk a := by simpa [four, slotB] using hq'
     rw [hall q h5]
     simp [four, slotB]
    ·rcases i with _ | _ | _ | _ | _ <;> first | exact hq' | exact absurd rfl ei
   exact h.apt.apart i i2 hij q (e1 i q hi) (e1 i2 q hi2)
  ·by_cases ei : i = 2
   ·subst ei
    have h5 : q ∈ blk a := by simpa [four, slotB] using hi
    rw [hall q h5]
    exact hgl
   ·exact h.apt.lts i q (by rcases i with _ | _ | _ | _ | _ <;> first | exact hi | exact absurd rfl ei)
theorem CopyF.make3 (h : CopyF p We w b0 d0 b1 d1 b2 d2 false false e g0 g1 g2 o a0 a1 a2 c0 c1 c2) : CopyF p We (w.alloc (.cells #[.int .i64 0, .int .i64 0, .slice none 0 0, .slice none 0 0, .slice none 0 0, .slice none 0 0, .slice none 0 0, .slice none 0 0] 32)) b0 d0 b1 d1 b2 d2 true false e g0 g1 g2 w.heap.size a0 a1 a2 c0 c1 c2 := by
 have hb : Below w.heap.size w (w.alloc (.cells #[.int .i64 0, .int .i64 0, .slice none 0 0, .slice none 0 0, .slice none 0 0, .slice none 0 0, .slice none 0 0, .slice none 0 0] 32)) := (Below.refl _ _).alloc (Nat.le_refl _) _
 have hlt : ∀ i, ∀ q ∈ four (slotB b0 d0 g0 a0) (slotB b1 d1 g1 a1) (slotB b2 d2 g2 a2) (bif false then [o] else []) i, q < w.heap.size := fun i q hq => (h.apt.lts i q hq).2
 exact ⟨h.bel.trans (hb.mono h.bel.size), h.part.below hb, (hb.block _ (by have := h.size; omega)).trans h.ret, h.s0.same fun q hq => hb.block q (hlt 0 q hq), h.s1.same fun q hq => hb.block q (hlt 1 q hq), h.s2.same fun q hq => hb.block q (hlt 2 q hq), fun _ => heap_alloc_new _ _, ⟨h.cl.1, fun e => by cases e⟩, by have := h.size; simp; omega, h.apt.up 3 (fun j hj => by rcases j with _ | _ | _ | _ | _ <;> first | rfl | exact absurd rfl hj) (fun q hq => .inr (by simpa [four] using hq)) (by simp) h.size⟩
theorem CopyF.build (h : CopyF p We w b0 d0 b1 d1 b2 d2 b3 d3 false g0 g1 g2 o a0 a1 a2 c0 c1 c2) (h0 : d0 = true) (h1 : d1 = true) (h2 : d2 = true) : CopyF p We w b0 d0 b1 d1 b2 d2 b3 d3 true g0 g1 g2 o a0 a1 a2 c0 c1 c2 := ⟨h.bel, h.part, h.ret, h.s0, h.s1, h.s2, h.out, ⟨fun _ => ⟨h0, h1, h2⟩, fun hd => ⟨rfl, (h.cl.2 hd).2⟩⟩, h.size, h.apt⟩
theorem CopyF.store (h : CopyF p We w b0 d0 b1 d1 b2 d2 true false true g0 g1 g2 o a0 a1 a2 c0 c1 c2) : CopyF p We (w.setRow o #[.int .i64 p.id, .int .i64 p.next, .slice none 0 0, .slice a0 p.sems.length c0, .slice a1 p.events.length c1, .slice a2 p.boards.length c2, .slice none 0 0, .slice none 0 0]) b0 d0 b1 d1 b2 d2 true true true g0 g1 g2 o a0 a1 a2 c0 c1 c2 := by
 have ho := h.apt.lts 3 o (by simp [four])
 have hne : ∀ q, q ≠ o → (w.setRow o #[.int .i64 p.id, .int .i64 p.next, .slice none 0 0, .slice a0 p.sems.length c0, .slice a1 p.events.length c1, .slice a2 p.boards.length c2, .slice none 0 0, .slice none 0 0]).heap[q]? = w.heap[q]? := fun q hq => setRow_other _ _ _ _ hq
 have hap : ∀ i, i ≠ 3 → ∀ q ∈ four (slotB b0 d0 g0 a0) (slotB b1 d1 g1 a1) (slotB b2 d2 g2 a2) [o] i, q ≠ o := fun i hi q hq e => h.apt.apart i 3 hi q hq (by subst e; simp [four])
 have hsz := h.size
 exact ⟨below_setRow h.bel (by omega) _, (hne _ (by omega)).trans h.part, (hne _ (by omega)).trans h.ret, h.s0.same fun q hq => hne q (hap 0 (by decide) q hq), h.s1.same fun q hq => hne q (hap 1 (by decide) q hq), h.s2.same fun q hq => hne q (hap 2 (by decide) q hq), fun _ => setRow_heap _ _ _ _ _ _ (h.out rfl), ⟨h.cl.1, fun _ => ⟨rfl, rfl⟩⟩, by rw [size_setRow]; exact h.size, by rw [size_setRow]; exact h.apt⟩
end

end Go.Proofs.YtkbcplnlehdjfaaGreat

/- What the specification copies. (Made by mkl3copy2.py.) -/
namespace Go.Proofs.YtkbcplnlehdjfaaGreat
open Go.RowKit
attribute [local go_sem ↓] Go.wp_at_zero Go.wp_at_succ

/-- The slots while the plain lists are copied. -/
def copyFr (p : PartD) (B : Nat) (b0 d0 b1 d1 b2 d2 b3 e : Bool) (g0 g1 g2 o : Nat) (a0 a1 a2 : Option Addr) (c0 c1 c2 : Nat) : Act := ⟨#[.agg #[.int .i64 p.id, .int .i64 p.next, .slice p.procA p.procs.length p.procC, .slice p.semA p.sems.length p.semC, .slice p.eventA p.events.length p.eventC, .slice p.boardA p.boards.length p.boardC, .slice p.bufferA p.buffers.length p.bufferC, .slice p.portA p.ports.length p.portC], .pointer (some ⟨B, 0, none⟩), .pointer (some ⟨(B + 1), 0, none⟩), bif b3 then .pointer (some ⟨o, 0, none⟩) else undef, undef, undef, undef, undef, undef, undef, .pointer (some ⟨B, 0, none⟩), .int .i64 p.id, .pointer (some ⟨B, 1, none⟩), .int .i64 p.next, bif b0 then .slice (some ⟨g0, 0, none⟩) 0 0 else undef, .pointer (some ⟨B, 3, none⟩), .slice p.semA p.sems.length p.semC, bif d0 then .slice a0 p.sems.length c0 else undef, bif b1 then .slice (some ⟨g1, 0, none⟩) 0 0 else undef, .pointer (some ⟨B, 4, none⟩), .slice p.eventA p.events.length p.eventC, bif d1 then .slice a1 p.events.length c1 else undef, bif b2 then .slice (some ⟨g2, 0, none⟩) 0 0 else undef, .pointer (some ⟨B, 5, none⟩), .slice p.boardA p.boards.length p.boardC, bif d2 then .slice a2 p.boards.length c2 else undef, bif e then .agg #[.int .i64 p.id, .int .i64 p.next, .slice none 0 0, .slice a0 p.sems.length c0, .slice a1 p.events.length c1, .slice a2 p.boards.length c2, .slice none 0 0, .slice none 0 0] else undef, undef, undef, undef, undef, undef, undef, undef, undef, undef, undef, undef, undef, undef, undef, undef, undef, undef, undef, undef, undef, undef, undef, undef, undef, undef, undef, undef, undef, undef, undef, undef, undef, undef, undef, undef, undef, undef, undef, undef, undef, undef, undef, undef, undef, undef, undef, undef, undef, undef, undef, undef, undef, undef, undef, undef, undef, undef, undef, undef, undef, undef, undef, undef, undef, undef, undef, undef, undef, undef, undef], []⟩
def CopyInv (p : PartD) (We : World) (l : Array Bool) (a : Act) (w : World) : Prop := ∃ (b0 d0 b1 d1 b2 d2 b3 d3 e : Bool) (g0 g1 g2 o : Nat) (a0 a1 a2 : Option Addr) (c0 c1 c2 : Nat), l = #[true, true, true, true, b0, true, true, d0, b1, true, true, d1, b2, true, true, d2, e, b3, d3] ∧ a = copyFr p We.heap.size b0 d0 b1 d1 b2 d2 b3 e g0 g1 g2 o a0 a1 a2 c0 c1 c2 ∧ CopyF p We w b0 d0 b1 d1 b2 d2 b3 d3 e g0 g1 g2 o a0 a1 a2 c0 c1 c2
/-- What stands while the lists of things that have lists are copied. -/
structure CopyL (p : PartD) (We w : World) (o : Nat) (q : PartD) : Prop where
 bel : Below We.heap.size We w
 part : PartBox w We.heap.size p
 ret : w.heap[We.heap.size + 1]? = some (.cells #[.int .i64 0, .int .i64 0, .slice none 0 0, .slice none 0 0, .slice none 0 0, .slice none 0 0, .slice none 0 0, .slice none 0 0] 32 (0, 0))
 out : PartBox w o q
 own : PartOwn w (We.heap.size + 2) q
 low : We.heap.size + 2 ≤ o
 free : o ∉ q.blocks
theorem CopyL.below {p : PartD} {We w w' : World} {o : Nat} {q : PartD} (h : CopyL p We w o q) (hb : Below w.heap.size w w') : CopyL p We w' o q :=
 ⟨h.bel.trans (hb.mono h.bel.size), h.part.below hb, (hb.block _ (Array.getElem?_eq_some_iff.1 h.ret).1).trans h.ret, h.out.below hb, h.own.below hb, h.low, h.free⟩
theorem CopyL.start {p : PartD} {We w : World} {g0 g1 g2 o : Nat} {a0 a1 a2 : Option Addr} {c0 c1 c2 : Nat} (h : CopyF p We w true true true true true true true true true g0 g1 g2 o a0 a1 a2 c0 c1 c2) :
  CopyL p We w o ⟨p.id, p.next, [], none, 0, p.sems, a0, c0, p.events, a1, c1, p.boards, a2, c2, [], none, 0, [], none, 0⟩ := by
 have hap := h.apt.apart
 refine ⟨h.bel, h.part, h.ret, h.out rfl, ⟨World.ownsRow_nil _ _ _ _, h.s0.done rfl, h.s1.done rfl, h.s2.done rfl, World.ownsRow_nil _ _ _ _, World.ownsRow_nil _ _ _ _, (fun x hx => by cases hx), (fun x hx => by cases hx), (fun x hx => by cases hx), ?_⟩, (h.apt.lts 3 o (by simp [four])).1, ?_⟩
 ·have e : PartD.blocks ⟨p.id, p.next, [], none, 0, p.sems, a0, c0, p.events, a1, c1, p.boards, a2, c2, [], none, 0, [], none, 0⟩ = blk a0 ++ (blk a1 ++ blk a2) := by simp [PartD.blocks, blk]
  rw [e]
  simp only [List.nodup_append, List.mem_append]
  refine ⟨blk_nodup _, ⟨blk_nodup _, blk_nodup _, fun a ha b hb e => ?_⟩, fun a ha b hb e => ?_⟩
  ·subst e
   exact hap 1 2 (by decide) a (by simpa [four, slotB] using ha) (by simpa [four, slotB] using hb)
  ·subst e
   rcases hb with hb | hb
   ·exact hap 0 1 (by decide) a (by simpa [four, slotB] using ha) (by simpa [four, slotB] using hb)
   ·exact hap 0 2 (by decide) a (by simpa [four, slotB] using ha) (by simpa [four, slotB] using hb)
 ·have e : PartD.blocks ⟨p.id, p.next, [], none, 0, p.sems, a0, c0, p.events, a1, c1, p.boards, a2, c2, [], none, 0, [], none, 0⟩ = blk a0 ++ (blk a1 ++ blk a2) := by simp [PartD.blocks, blk]
  rw [e]
  simp only [List.mem_append]
  rintro (hb | hb | hb)
  ·exact hap 3 0 (by decide) o (by simp [four]) (by simpa [four, slotB] using hb)
  ·exact hap 3 1 (by decide) o (by simp [four]) (by simpa [four, slotB] using hb)
  ·exact hap 3 2 (by decide) o (by simp [four]) (by simpa [four, slotB] using hb)
theorem own_block {a : Option Addr} {n c g : Nat} (h : (Value.slice a n c).ownBlock = some g) : g ∈ blk a := by
 cases a with
 | none => simp [Value.ownBlock] at h
 | some ad => simp [Value.ownBlock] at h; simp [blk, h]
theorem setCell_other {w : World} {o i g : Nat} {v : Value} (h : g ≠ o) : (w.setCell ⟨o, i, none⟩ v).heap[g]? = w.heap[g]? := setAllW_other [v] h
theorem setCell_block {w : World} {o i : Nat} {v : Value} {cs : Array Value} {t : TypeId} (h : w.heap[o]? = some (.cells cs t (0, 0))) : (w.setCell ⟨o, i, none⟩ v).heap[o]? = some (.cells (cs.setIfInBounds i v) t (0, 0)) := setAllW_heap [v] h
theorem below_setCell {B o i : Nat} {w0 w : World} {v : Value} (h : Below B w0 w) (hb : B ≤ o) : Below B w0 (w.setCell ⟨o, i, none⟩ v) :=
 ⟨h.os, h.tape, h.output, by have := h.size; rw [show (w.setCell ⟨o, i, none⟩ v).heap.size = w.heap.size from setAllW_size [v]]; exact this, fun k hk => (setCell_other (by omega)).trans (h.block k hk)⟩
theorem lenProc {p q : PartD} {k : Nat} (h : q.pure = { p.pure with procs := p.pure.procs.take k, buffers := [], ports := [] }) (hk : k ≤ p.procs.length) : q.procs.length = k := by
 have h5 := congrArg (fun z => (PartP.procs z).length) h
 simp [PartD.pure] at h5
 omega
theorem lenBuffer {p q : PartD} {k : Nat} (h : q.pure = { p.pure with buffers := p.pure.buffers.take k, ports := [] }) (hk : k ≤ p.buffers.length) : q.buffers.length = k := by
 have h5 := congrArg (fun z => (PartP.buffers z).length) h
 simp [PartD.pure] at h5
 omega
theorem lenPort {p q : PartD} {k : Nat} (h : q.pure = { p.pure with ports := p.pure.ports.take k }) (hk : k ≤ p.ports.length) : q.ports.length = k := by
 have h5 := congrArg (fun z => (PartP.ports z).length) h
 simp [PartD.pure] at h5
 omega
/-- A thing of the kind Proc is appended, and the slice is stored. -/
theorem CopyL.addProc {p : PartD} {We w w' : World} {o : Nat} {q : PartD} {x : ProcD} {a : Option Addr} {c : Nat} (h : CopyL p We w o q) (hm : procN.Mine w (We.heap.size + 2) x) (hx : ∀ g, procN.kid x = some g → g ∉ q.blocks ∧ g ≠ o)
  (ho : w'.ownsRow (We.heap.size + 2) 43 12 (.slice a (q.procs.length + 1) c) (q.procs.length + 1) (procK.flat (q.procs ++ [x]))) (hg : w.grownBy w' ((Value.slice q.procA q.procs.length q.procC).ownBlock)) (hb : ∀ g ∈ blk a, g ∈ blk q.procA ∨ g = w.heap.size) :
  CopyL p We (w'.setCell ⟨o, 2, none⟩ (.slice a (q.procs.length + 1) c)) o ({ q with procs := q.procs ++ [x], procA := a, procC := c } : PartD) := by
 have hol : o < w.heap.size := (Array.getElem?_eq_some_iff.1 h.out).1
 have hrow : ∀ g, g < w.heap.size → g ∉ blk q.procA → w'.heap[g]? = w.heap[g]? := fun g hgl hn => hg.block g hgl fun e => hn (own_block e.symm)
 obtain ⟨hown, hbl⟩ := h.own.addProc hm (fun g hk => (hx g hk).1) ho hrow hb
 have hoA : o ∉ blk q.procA := fun hm' => h.free (by simp [PartD.blocks, hm'])
 have hlow : ∀ g, g ∈ blk q.procA → We.heap.size + 2 ≤ g := fun g hg' => (own_lt h.own.procs hg').1
 have hfree : o ∉ ({ q with procs := q.procs ++ [x], procA := a, procC := c } : PartD).blocks := fun hm' => by
  rcases hbl o hm' with h1 | h1 | h1
  ·exact h.free h1
  ·exact (hx o h1).2 rfl
  ·omega
 have hsc : ∀ g, g ≠ o → (w'.setCell ⟨o, 2, none⟩ (.slice a (q.procs.length + 1) c)).heap[g]? = w'.heap[g]? := fun g hne => setCell_other hne
 have hbw : Below We.heap.size We w' := h.bel.grown hg (by have := h.low; omega) (fun k hk => by have := hlow k (own_block hk); omega)
 have hout : w'.heap[o]? = w.heap[o]? := hrow o hol hoA
 have hlo := h.low
 refine ⟨below_setCell hbw (by omega), (hsc _ (by omega)).trans ((hrow _ (by omega) fun hm' => by have := hlow _ hm'; omega).trans h.part), (hsc _ (by omega)).trans ((hrow _ (by omega) fun hm' => by have := hlow _ hm'; omega).trans h.ret), ?_, hown.same fun g hg' => hsc g fun e => hfree (e ▸ hg'), h.low, hfree⟩
 have h5 := setCell_block (i := 2) (v := .slice a (q.procs.length + 1) c) (hout.trans h.out)
 have e : (q.procs ++ [x]).length = q.procs.length + 1 := by simp
 unfold PartBox
 simp only [e]
 exact h5
def CpProc (wr w7 : World) (x : ProcD) (a2 : Option Addr) (c2 : Nat) : Prop := w7.heap[wr.heap.size]? = some (.cells #[.int .i64 x.id, .int .i64 x.prio, .slice x.progA x.prog.length x.progC, .int .i64 x.state, .int .i64 x.pc, .int .i64 x.left, .int .i64 x.wake, .int .i64 x.on, .string x.held, .string x.got, .int .i64 x.code, .int .i64 x.since] 43 (0, 0)) ∧ Below wr.heap.size wr w7 ∧ w7.ownsRow wr.heap.size 134 4 (.slice a2 x.prog.length c2) x.prog.length (opK.flat x.prog) ∧ ∀ g ∈ blk a2, g = wr.heap.size + 1 ∨ g = wr.heap.size + 2
section
variable {p q : PartD} {We wr w7 w10 W8 W9 : World} {o c2 c k : Nat} {x : ProcD} {a2 a : Option Addr}
theorem CopyL.inProc (h : CopyL p We wr o q) (h7 : CpProc wr w7 x a2 c2) (e8 : W8 = w7.setCell ⟨wr.heap.size, 2, none⟩ (.slice a2 x.prog.length c2)) : W8.cell? ⟨o, 2, none⟩ = some (.slice q.procA q.procs.length q.procC) ∧ W8.cell? ⟨wr.heap.size, 0, none⟩ = some (.int .i64 x.id) ∧ W8.cell? ⟨wr.heap.size, 1, none⟩ = some (.int .i64 x.prio) ∧ W8.cell? ⟨wr.heap.size, 2, none⟩ = some (.slice a2 x.prog.length c2) ∧ W8.cell? ⟨wr.heap.size, 3, none⟩ = some (.int .i64 x.state) ∧ W8.cell? ⟨wr.heap.size, 4, none⟩ = some (.int .i64 x.pc) ∧ W8.cell? ⟨wr.heap.size, 5, none⟩ = some (.int .i64 x.left) ∧ W8.cell? ⟨wr.heap.size, 6, none⟩ = some (.int .i64 x.wake) ∧ W8.cell? ⟨wr.heap.size, 7, none⟩ = some (.int .i64 x.on) ∧ W8.cell? ⟨wr.heap.size, 8, none⟩ = some (.string x.held) ∧ W8.cell? ⟨wr.heap.size, 9, none⟩ = some (.string x.got) ∧ W8.cell? ⟨wr.heap.size, 10, none⟩ = some (.int .i64 x.code) ∧ W8.cell? ⟨wr.heap.size, 11, none⟩ = some (.int .i64 x.since) := by
 subst e8
 have hol : o < wr.heap.size := (Array.getElem?_eq_some_iff.1 h.out).1
 have h1 := (setCell_other (i := 2) (v := .slice a2 x.prog.length c2) (by omega : o ≠ wr.heap.size)).trans (h7.2.1.block o hol)
 have h2 := setCell_block (i := 2) (v := .slice a2 x.prog.length c2) h7.1
 have h3 := h1.trans h.out
 refine ⟨by simp [World.cell?, h3], ?_⟩
 simp [World.cell?, h2]
theorem CopyL.beProc (h7 : CpProc wr w7 x a2 c2) (e8 : W8 = w7.setCell ⟨wr.heap.size, 2, none⟩ (.slice a2 x.prog.length c2)) (e9 : W9 = W8.alloc (.cells #[.int .i64 x.id, .int .i64 x.prio, .slice a2 x.prog.length c2, .int .i64 x.state, .int .i64 x.pc, .int .i64 x.left, .int .i64 x.wake, .int .i64 x.on, .string x.held, .string x.got, .int .i64 x.code, .int .i64 x.since] 43)) : Below wr.heap.size wr W9 ∧ W8.heap.size = w7.heap.size := by
 subst e8 e9
 exact ⟨(below_setCell h7.2.1 (Nat.le_refl _)).alloc (below_setCell h7.2.1 (Nat.le_refl _)).size _, setAllW_size [_]⟩
theorem CopyL.rowProc (h : CopyL p We wr o q) (h7 : CpProc wr w7 x a2 c2) (e8 : W8 = w7.setCell ⟨wr.heap.size, 2, none⟩ (.slice a2 x.prog.length c2)) (e9 : W9 = W8.alloc (.cells #[.int .i64 x.id, .int .i64 x.prio, .slice a2 x.prog.length c2, .int .i64 x.state, .int .i64 x.pc, .int .i64 x.left, .int .i64 x.wake, .int .i64 x.on, .string x.held, .string x.got, .int .i64 x.code, .int .i64 x.since] 43)) : W9.ownsRow (We.heap.size + 2) 43 12 (.slice q.procA q.procs.length q.procC) q.procs.length (procK.flat q.procs) ∧ W9.heap[w7.heap.size]? = some (.cells #[.int .i64 x.id, .int .i64 x.prio, .slice a2 x.prog.length c2, .int .i64 x.state, .int .i64 x.pc, .int .i64 x.left, .int .i64 x.wake, .int .i64 x.on, .string x.held, .string x.got, .int .i64 x.code, .int .i64 x.since] 43 (0, 0)) := by
 have hb9 := CopyL.beProc h7 e8 e9
 refine ⟨(h.below hb9.1).own.procs, ?_⟩
 subst e9
 have h5 := heap_alloc_new W8 (.cells #[.int .i64 x.id, .int .i64 x.prio, .slice a2 x.prog.length c2, .int .i64 x.state, .int .i64 x.pc, .int .i64 x.left, .int .i64 x.wake, .int .i64 x.on, .string x.held, .string x.got, .int .i64 x.code, .int .i64 x.since] 43)
 rwa [hb9.2] at h5
theorem CopyL.upProc (h : q.pure = { p.pure with procs := p.pure.procs.take k, buffers := [], ports := [] }) (hx : p.procs[k]? = some x) : ({ q with procs := q.procs ++ [({ x with progA := a2, progC := c2 } : ProcD)], procA := a, procC := c } : PartD).pure = { p.pure with procs := p.pure.procs.take (k + 1), buffers := [], ports := [] } := by
 have e : p.pure.procs.take (k + 1) = p.pure.procs.take k ++ [x.toProcP] := by
  rw [take_up (x := x.toProcP)]
  show (p.procs.map (·.toProcP))[k]? = _
  rw [List.getElem?_map, hx]
  rfl
 rw [e]
 have h5 := congrArg PartP.procs h
 have h6 : (q.procs ++ [({ x with progA := a2, progC := c2 } : ProcD)]).map (·.toProcP) = p.pure.procs.take k ++ [x.toProcP] := by
  rw [List.map_append]
  exact congrArg (· ++ [x.toProcP]) h5
 show ({ q.pure with procs := (q.procs ++ [({ x with progA := a2, progC := c2 } : ProcD)]).map (·.toProcP) } : PartP) = _
 rw [h6, h]
theorem CopyL.stepProc (h : CopyL p We wr o q) (h7 : CpProc wr w7 x a2 c2) (e8 : W8 = w7.setCell ⟨wr.heap.size, 2, none⟩ (.slice a2 x.prog.length c2)) (e9 : W9 = W8.alloc (.cells #[.int .i64 x.id, .int .i64 x.prio, .slice a2 x.prog.length c2, .int .i64 x.state, .int .i64 x.pc, .int .i64 x.left, .int .i64 x.wake, .int .i64 x.on, .string x.held, .string x.got, .int .i64 x.code, .int .i64 x.since] 43))
  (ho : w10.ownsRow (We.heap.size + 2) 43 12 (.slice a (q.procs.length + 1) c) (q.procs.length + 1) (procK.flat q.procs ++ procK.vals ({ x with progA := a2, progC := c2 } : ProcD))) (hg : W9.grownBy w10 ((Value.slice q.procA q.procs.length q.procC).ownBlock))
  (hb : (Value.slice a (q.procs.length + 1) c).ownBlock = (Value.slice q.procA q.procs.length q.procC).ownBlock ∨ (Value.slice a (q.procs.length + 1) c).ownBlock = some W9.heap.size) :
  CopyL p We (w10.setCell ⟨o, 2, none⟩ (.slice a (q.procs.length + 1) c)) o ({ q with procs := q.procs ++ [({ x with progA := a2, progC := c2 } : ProcD)], procA := a, procC := c } : PartD) ∧ w10.cell? ⟨o, 2, none⟩ = some (.slice q.procA q.procs.length q.procC) ∧ w10.frozen? ⟨o, 2, none⟩ = false := by
 have hol : o < wr.heap.size := (Array.getElem?_eq_some_iff.1 h.out).1
 obtain ⟨hb9, hs8⟩ := CopyL.beProc h7 e8 e9
 have h9 := h.below hb9
 have hlow := h.low
 have hm : procN.Mine W9 (We.heap.size + 2) ({ x with progA := a2, progC := c2 } : ProcD) := by
  refine own_low (base := wr.heap.size) ?_ (by omega)
  refine own_same h7.2.2.1 fun g hg' => ?_
  have h5 := h7.2.2.2 g hg'
  have h6 := own_lt h7.2.2.1 hg'
  subst e9
  refine (heap_alloc_old _ _ (by omega)).trans ?_
  subst e8
  exact setCell_other (by omega)
 have hx : ∀ g, procN.kid ({ x with progA := a2, progC := c2 } : ProcD) = some g → g ∉ q.blocks ∧ g ≠ o := fun g hk => by
  have h5 := h7.2.2.2 g (mem_blk.2 hk)
  refine ⟨fun hm' => ?_, by omega⟩
  have := (h.own.lt g hm').2
  omega
 have hn : ∀ g ∈ blk a, g ∈ blk q.procA ∨ g = W9.heap.size := fun g hg' => by
  cases a with
  | none => simp [blk] at hg'
  | some ad =>
   simp [blk] at hg'
   subst hg'
   rcases hb with hb | hb
   ·exact .inl (own_block hb.symm)
   ·exact .inr (by simpa [Value.ownBlock] using hb)
 have hL := h9.addProc hm hx (by rw [procK.flat_append]; exact ho) hg hn
 have ho9 : w10.heap[o]? = W9.heap[o]? := hg.block o (Nat.lt_of_lt_of_le hol hb9.size) fun e => h.free (by
  have := own_block e.symm
  simp [PartD.blocks, this])
 have ho10 := ho9.trans h9.out
 exact ⟨hL, by simp [World.cell?, ho10], frozen_of_row _ _ _ _ _ ho10⟩
end
/-- A thing of the kind Buffer is appended, and the slice is stored. -/
theorem CopyL.addBuffer {p : PartD} {We w w' : World} {o : Nat} {q : PartD} {x : BufferD} {a : Option Addr} {c : Nat} (h : CopyL p We w o q) (hm : bufferN.Mine w (We.heap.size + 2) x) (hx : ∀ g, bufferN.kid x = some g → g ∉ q.blocks ∧ g ≠ o)
  (ho : w'.ownsRow (We.heap.size + 2) 144 3 (.slice a (q.buffers.length + 1) c) (q.buffers.length + 1) (bufferK.flat (q.buffers ++ [x]))) (hg : w.grownBy w' ((Value.slice q.bufferA q.buffers.length q.bufferC).ownBlock)) (hb : ∀ g ∈ blk a, g ∈ blk q.bufferA ∨ g = w.heap.size) :
  CopyL p We (w'.setCell ⟨o, 6, none⟩ (.slice a (q.buffers.length + 1) c)) o ({ q with buffers := q.buffers ++ [x], bufferA := a, bufferC := c } : PartD) := by
 have hol : o < w.heap.size := (Array.getElem?_eq_some_iff.1 h.out).1
 have hrow : ∀ g, g < w.heap.size → g ∉ blk q.bufferA → w'.heap[g]? = w.heap[g]? := fun g hgl hn => hg.block g hgl fun e => hn (own_block e.symm)
 obtain ⟨hown, hbl⟩ := h.own.addBuffer hm (fun g hk => (hx g hk).1) ho hrow hb
 have hoA : o ∉ blk q.bufferA := fun hm' => h.free (by simp [PartD.blocks, hm'])
 have hlow : ∀ g, g ∈ blk q.bufferA → We.heap.size + 2 ≤ g := fun g hg' => (own_lt h.own.buffers hg').1
 have hfree : o ∉ ({ q with buffers := q.buffers ++ [x], bufferA := a, bufferC := c } : PartD).blocks := fun hm' => by
  rcases hbl o hm' with h1 | h1 | h1
  ·exact h.free h1
  ·exact (hx o h1).2 rfl
  ·omega
 have hsc : ∀ g, g ≠ o → (w'.setCell ⟨o, 6, none⟩ (.slice a (q.buffers.length + 1) c)).heap[g]? = w'.heap[g]? := fun g hne => setCell_other hne
 have hbw : Below We.heap.size We w' := h.bel.grown hg (by have := h.low; omega) (fun k hk => by have := hlow k (own_block hk); omega)
 have hout : w'.heap[o]? = w.heap[o]? := hrow o hol hoA
 have hlo := h.low
 refine ⟨below_setCell hbw (by omega), (hsc _ (by omega)).trans ((hrow _ (by omega) fun hm' => by have := hlow _ hm'; omega).trans h.part), (hsc _ (by omega)).trans ((hrow _ (by omega) fun hm' => by have := hlow _ hm'; omega).trans h.ret), ?_, hown.same fun g hg' => hsc g fun e => hfree (e ▸ hg'), h.low, hfree⟩
 have h5 := setCell_block (i := 6) (v := .slice a (q.buffers.length + 1) c) (hout.trans h.out)
 have e : (q.buffers ++ [x]).length = q.buffers.length + 1 := by simp
 unfold PartBox
 simp only [e]
 exact h5
def CpBuffer (wr w7 : World) (x : BufferD) (a2 : Option Addr) (c2 : Nat) : Prop := w7.heap[wr.heap.size]? = some (.cells #[.int .i64 x.id, .int .i64 x.max, .slice x.itemsA x.items.length x.itemsC] 144 (0, 0)) ∧ Below wr.heap.size wr w7 ∧ w7.ownsRow wr.heap.size 9 1 (.slice a2 x.items.length c2) x.items.length (strK.flat x.items) ∧ ∀ g ∈ blk a2, g = wr.heap.size + 1 ∨ g = wr.heap.size + 2
section
variable {p q : PartD} {We wr w7 w10 W8 W9 : World} {o c2 c k : Nat} {x : BufferD} {a2 a : Option Addr}
theorem CopyL.inBuffer (h : CopyL p We wr o q) (h7 : CpBuffer wr w7 x a2 c2) (e8 : W8 = w7.setCell ⟨wr.heap.size, 2, none⟩ (.slice a2 x.items.length c2)) : W8.cell? ⟨o, 6, none⟩ = some (.slice q.bufferA q.buffers.length q.bufferC) ∧ W8.cell? ⟨wr.heap.size, 0, none⟩ = some (.int .i64 x.id) ∧ W8.cell? ⟨wr.heap.size, 1, none⟩ = some (.int .i64 x.max) ∧ W8.cell? ⟨wr.heap.size, 2, none⟩ = some (.slice a2 x.items.length c2) := by
 subst e8
 have hol : o < wr.heap.size := (Array.getElem?_eq_some_iff.1 h.out).1
 have h1 := (setCell_other (i := 2) (v := .slice a2 x.items.length c2) (by omega : o ≠ wr.heap.size)).trans (h7.2.1.block o hol)
 have h2 := setCell_block (i := 2) (v := .slice a2 x.items.length c2) h7.1
 have h3 := h1.trans h.out
 refine ⟨by simp [World.cell?, h3], ?_⟩
 simp [World.cell?, h2]
theorem CopyL.beBuffer (h7 : CpBuffer wr w7 x a2 c2) (e8 : W8 = w7.setCell ⟨wr.heap.size, 2, none⟩ (.slice a2 x.items.length c2)) (e9 : W9 = W8.alloc (.cells #[.int .i64 x.id, .int .i64 x.max, .slice a2 x.items.length c2] 144)) : Below wr.heap.size wr W9 ∧ W8.heap.size = w7.heap.size := by
 subst e8 e9
 exact ⟨(below_setCell h7.2.1 (Nat.le_refl _)).alloc (below_setCell h7.2.1 (Nat.le_refl _)).size _, setAllW_size [_]⟩
theorem CopyL.rowBuffer (h : CopyL p We wr o q) (h7 : CpBuffer wr w7 x a2 c2) (e8 : W8 = w7.setCell ⟨wr.heap.size, 2, none⟩ (.slice a2 x.items.length c2)) (e9 : W9 = W8.alloc (.cells #[.int .i64 x.id, .int .i64 x.max, .slice a2 x.items.length c2] 144)) : W9.ownsRow (We.heap.size + 2) 144 3 (.slice q.bufferA q.buffers.length q.bufferC) q.buffers.length (bufferK.flat q.buffers) ∧ W9.heap[w7.heap.size]? = some (.cells #[.int .i64 x.id, .int .i64 x.max, .slice a2 x.items.length c2] 144 (0, 0)) := by
 have hb9 := CopyL.beBuffer h7 e8 e9
 refine ⟨(h.below hb9.1).own.buffers, ?_⟩
 subst e9
 have h5 := heap_alloc_new W8 (.cells #[.int .i64 x.id, .int .i64 x.max, .slice a2 x.items.length c2] 144)
 rwa [hb9.2] at h5
theorem CopyL.upBuffer (h : q.pure = { p.pure with buffers := p.pure.buffers.take k, ports := [] }) (hx : p.buffers[k]? = some x) : ({ q with buffers := q.buffers ++ [({ x with itemsA := a2, itemsC := c2 } : BufferD)], bufferA := a, bufferC := c } : PartD).pure = { p.pure with buffers := p.pure.buffers.take (k + 1), ports := [] } := by
 have e : p.pure.buffers.take (k + 1) = p.pure.buffers.take k ++ [x.toBufferP] := by
  rw [take_up (x := x.toBufferP)]
  show (p.buffers.map (·.toBufferP))[k]? = _
  rw [List.getElem?_map, hx]
  rfl
 rw [e]
 have h5 := congrArg PartP.buffers h
 have h6 : (q.buffers ++ [({ x with itemsA := a2, itemsC := c2 } : BufferD)]).map (·.toBufferP) = p.pure.buffers.take k ++ [x.toBufferP] := by
  rw [List.map_append]
  exact congrArg (· ++ [x.toBufferP]) h5
 show ({ q.pure with buffers := (q.buffers ++ [({ x with itemsA := a2, itemsC := c2 } : BufferD)]).map (·.toBufferP) } : PartP) = _
 rw [h6, h]
theorem CopyL.stepBuffer (h : CopyL p We wr o q) (h7 : CpBuffer wr w7 x a2 c2) (e8 : W8 = w7.setCell ⟨wr.heap.size, 2, none⟩ (.slice a2 x.items.length c2)) (e9 : W9 = W8.alloc (.cells #[.int .i64 x.id, .int .i64 x.max, .slice a2 x.items.length c2] 144))
  (ho : w10.ownsRow (We.heap.size + 2) 144 3 (.slice a (q.buffers.length + 1) c) (q.buffers.length + 1) (bufferK.flat q.buffers ++ bufferK.vals ({ x with itemsA := a2, itemsC := c2 } : BufferD))) (hg : W9.grownBy w10 ((Value.slice q.bufferA q.buffers.length q.bufferC).ownBlock))
  (hb : (Value.slice a (q.buffers.length + 1) c).ownBlock = (Value.slice q.bufferA q.buffers.length q.bufferC).ownBlock ∨ (Value.slice a (q.buffers.length + 1) c).ownBlock = some W9.heap.size) :
  CopyL p We (w10.setCell ⟨o, 6, none⟩ (.slice a (q.buffers.length + 1) c)) o ({ q with buffers := q.buffers ++ [({ x with itemsA := a2, itemsC := c2 } : BufferD)], bufferA := a, bufferC := c } : PartD) ∧ w10.cell? ⟨o, 6, none⟩ = some (.slice q.bufferA q.buffers.length q.bufferC) ∧ w10.frozen? ⟨o, 6, none⟩ = false := by
 have hol : o < wr.heap.size := (Array.getElem?_eq_some_iff.1 h.out).1
 obtain ⟨hb9, hs8⟩ := CopyL.beBuffer h7 e8 e9
 have h9 := h.below hb9
 have hlow := h.low
 have hm : bufferN.Mine W9 (We.heap.size + 2) ({ x with itemsA := a2, itemsC := c2 } : BufferD) := by
  refine own_low (base := wr.heap.size) ?_ (by omega)
  refine own_same h7.2.2.1 fun g hg' => ?_
  have h5 := h7.2.2.2 g hg'
  have h6 := own_lt h7.2.2.1 hg'
  subst e9
  refine (heap_alloc_old _ _ (by omega)).trans ?_
  subst e8
  exact setCell_other (by omega)
 have hx : ∀ g, bufferN.kid ({ x with itemsA := a2, itemsC := c2 } : BufferD) = some g → g ∉ q.blocks ∧ g ≠ o := fun g hk => by
  have h5 := h7.2.2.2 g (mem_blk.2 hk)
  refine ⟨fun hm' => ?_, by omega⟩
  have := (h.own.lt g hm').2
  omega
 have hn : ∀ g ∈ blk a, g ∈ blk q.bufferA ∨ g = W9.heap.size := fun g hg' => by
  cases a with
  | none => simp [blk] at hg'
  | some ad =>
   simp [blk] at hg'
   subst hg'
   rcases hb with hb | hb
   ·exact .inl (own_block hb.symm)
   ·exact .inr (by simpa [Value.ownBlock] using hb)
 have hL := h9.addBuffer hm hx (by rw [bufferK.flat_append]; exact ho) hg hn
 have ho9 : w10.heap[o]? = W9.heap[o]? := hg.block o (Nat.lt_of_lt_of_le hol hb9.size) fun e => h.free (by
  have := own_block e.symm
  simp [PartD.blocks, this])
 have ho10 := ho9.trans h9.out
 exact ⟨hL, by simp [World.cell?, ho10], frozen_of_row _ _ _ _ _ ho10⟩
end
/-- A thing of the kind Port is appended, and the slice is stored. -/
theorem CopyL.addPort {p : PartD} {We w w' : World} {o : Nat} {q : PartD} {x : PortD} {a : Option Addr} {c : Nat} (h : CopyL p We w o q) (hm : portN.Mine w (We.heap.size + 2) x) (hx : ∀ g, portN.kid x = some g → g ∉ q.blocks ∧ g ≠ o)
  (ho : w'.ownsRow (We.heap.size + 2) 61 5 (.slice a (q.ports.length + 1) c) (q.ports.length + 1) (portK.flat (q.ports ++ [x]))) (hg : w.grownBy w' ((Value.slice q.portA q.ports.length q.portC).ownBlock)) (hb : ∀ g ∈ blk a, g ∈ blk q.portA ∨ g = w.heap.size) :
  CopyL p We (w'.setCell ⟨o, 7, none⟩ (.slice a (q.ports.length + 1) c)) o ({ q with ports := q.ports ++ [x], portA := a, portC := c } : PartD) := by
 have hol : o < w.heap.size := (Array.getElem?_eq_some_iff.1 h.out).1
 have hrow : ∀ g, g < w.heap.size → g ∉ blk q.portA → w'.heap[g]? = w.heap[g]? := fun g hgl hn => hg.block g hgl fun e => hn (own_block e.symm)
 obtain ⟨hown, hbl⟩ := h.own.addPort hm (fun g hk => (hx g hk).1) ho hrow hb
 have hoA : o ∉ blk q.portA := fun hm' => h.free (by simp [PartD.blocks, hm'])
 have hlow : ∀ g, g ∈ blk q.portA → We.heap.size + 2 ≤ g := fun g hg' => (own_lt h.own.ports hg').1
 have hfree : o ∉ ({ q with ports := q.ports ++ [x], portA := a, portC := c } : PartD).blocks := fun hm' => by
  rcases hbl o hm' with h1 | h1 | h1
  ·exact h.free h1
  ·exact (hx o h1).2 rfl
  ·omega
 have hsc : ∀ g, g ≠ o → (w'.setCell ⟨o, 7, none⟩ (.slice a (q.ports.length + 1) c)).heap[g]? = w'.heap[g]? := fun g hne => setCell_other hne
 have hbw : Below We.heap.size We w' := h.bel.grown hg (by have := h.low; omega) (fun k hk => by have := hlow k (own_block hk); omega)
 have hout : w'.heap[o]? = w.heap[o]? := hrow o hol hoA
 have hlo := h.low
 refine ⟨below_setCell hbw (by omega), (hsc _ (by omega)).trans ((hrow _ (by omega) fun hm' => by have := hlow _ hm'; omega).trans h.part), (hsc _ (by omega)).trans ((hrow _ (by omega) fun hm' => by have := hlow _ hm'; omega).trans h.ret), ?_, hown.same fun g hg' => hsc g fun e => hfree (e ▸ hg'), h.low, hfree⟩
 have h5 := setCell_block (i := 7) (v := .slice a (q.ports.length + 1) c) (hout.trans h.out)
 have e : (q.ports ++ [x]).length = q.ports.length + 1 := by simp
 unfold PartBox
 simp only [e]
 exact h5
def CpPort (wr w7 : World) (x : PortD) (a2 : Option Addr) (c2 : Nat) : Prop := w7.heap[wr.heap.size]? = some (.cells #[.int .i64 x.id, .bool x.out, .bool x.queue, .int .i64 x.max, .slice x.itemsA x.items.length x.itemsC] 61 (0, 0)) ∧ Below wr.heap.size wr w7 ∧ w7.ownsRow wr.heap.size 9 1 (.slice a2 x.items.length c2) x.items.length (strK.flat x.items) ∧ ∀ g ∈ blk a2, g = wr.heap.size + 1 ∨ g = wr.heap.size + 2
section
variable {p q : PartD} {We wr w7 w10 W8 W9 : World} {o c2 c k : Nat} {x : PortD} {a2 a : Option Addr}
theorem CopyL.inPort (h : CopyL p We wr o q) (h7 : CpPort wr w7 x a2 c2) (e8 : W8 = w7.setCell ⟨wr.heap.size, 4, none⟩ (.slice a2 x.items.length c2)) : W8.cell? ⟨o, 7, none⟩ = some (.slice q.portA q.ports.length q.portC) ∧ W8.cell? ⟨wr.heap.size, 0, none⟩ = some (.int .i64 x.id) ∧ W8.cell? ⟨wr.heap.size, 1, none⟩ = some (.bool x.out) ∧ W8.cell? ⟨wr.heap.size, 2, none⟩ = some (.bool x.queue) ∧ W8.cell? ⟨wr.heap.size, 3, none⟩ = some (.int .i64 x.max) ∧ W8.cell? ⟨wr.heap.size, 4, none⟩ = some (.slice a2 x.items.length c2) := by
 subst e8
 have hol : o < wr.heap.size := (Array.getElem?_eq_some_iff.1 h.out).1
 have h1 := (setCell_other (i := 4) (v := .slice a2 x.items.length c2) (by omega : o ≠ wr.heap.size)).trans (h7.2.1.block o hol)
 have h2 := setCell_block (i := 4) (v := .slice a2 x.items.length c2) h7.1
 have h3 := h1.trans h.out
 refine ⟨by simp [World.cell?, h3], ?_⟩
 simp [World.cell?, h2]
theorem CopyL.bePort (h7 : CpPort wr w7 x a2 c2) (e8 : W8 = w7.setCell ⟨wr.heap.size, 4, none⟩ (.slice a2 x.items.length c2)) (e9 : W9 = W8.alloc (.cells #[.int .i64 x.id, .bool x.out, .bool x.queue, .int .i64 x.max, .slice a2 x.items.length c2] 61)) : Below wr.heap.size wr W9 ∧ W8.heap.size = w7.heap.size := by
 subst e8 e9
 exact ⟨(below_setCell h7.2.1 (Nat.le_refl _)).alloc (below_setCell h7.2.1 (Nat.le_refl _)).size _, setAllW_size [_]⟩
theorem CopyL.rowPort (h : CopyL p We wr o q) (h7 : CpPort wr w7 x a2 c2) (e8 : W8 = w7.setCell ⟨wr.heap.size, 4, none⟩ (.slice a2 x.items.length c2)) (e9 : W9 = W8.alloc (.cells #[.int .i64 x.id, .bool x.out, .bool x.queue, .int .i64 x.max, .slice a2 x.items.length c2] 61)) : W9.ownsRow (We.heap.size + 2) 61 5 (.slice q.portA q.ports.length q.portC) q.ports.length (portK.flat q.ports) ∧ W9.heap[w7.heap.size]? = some (.cells #[.int .i64 x.id, .bool x.out, .bool x.queue, .int .i64 x.max, .slice a2 x.items.length c2] 61 (0, 0)) := by
 have hb9 := CopyL.bePort h7 e8 e9
 refine ⟨(h.below hb9.1).own.ports, ?_⟩
 subst e9
 have h5 := heap_alloc_new W8 (.cells #[.int .i64 x.id, .bool x.out, .bool x.queue, .int .i64 x.max, .slice a2 x.items.length c2] 61)
 rwa [hb9.2] at h5
theorem CopyL.upPort (h : q.pure = { p.pure with ports := p.pure.ports.take k }) (hx : p.ports[k]? = some x) : ({ q with ports := q.ports ++ [({ x with itemsA := a2, itemsC := c2 } : PortD)], portA := a, portC := c } : PartD).pure = { p.pure with ports := p.pure.ports.take (k + 1) } := by
 have e : p.pure.ports.take (k + 1) = p.pure.ports.take k ++ [x.toPortP] := by
  rw [take_up (x := x.toPortP)]
  show (p.ports.map (·.toPortP))[k]? = _
  rw [List.getElem?_map, hx]
  rfl
 rw [e]
 have h5 := congrArg PartP.ports h
 have h6 : (q.ports ++ [({ x with itemsA := a2, itemsC := c2 } : PortD)]).map (·.toPortP) = p.pure.ports.take k ++ [x.toPortP] := by
  rw [List.map_append]
  exact congrArg (· ++ [x.toPortP]) h5
 show ({ q.pure with ports := (q.ports ++ [({ x with itemsA := a2, itemsC := c2 } : PortD)]).map (·.toPortP) } : PartP) = _
 rw [h6, h]
theorem CopyL.stepPort (h : CopyL p We wr o q) (h7 : CpPort wr w7 x a2 c2) (e8 : W8 = w7.setCell ⟨wr.heap.size, 4, none⟩ (.slice a2 x.items.length c2)) (e9 : W9 = W8.alloc (.cells #[.int .i64 x.id, .bool x.out, .bool x.queue, .int .i64 x.max, .slice a2 x.items.length c2] 61))
  (ho : w10.ownsRow (We.heap.size + 2) 61 5 (.slice a (q.ports.length + 1) c) (q.ports.length + 1) (portK.flat q.ports ++ portK.vals ({ x with itemsA := a2, itemsC := c2 } : PortD))) (hg : W9.grownBy w10 ((Value.slice q.portA q.ports.length q.portC).ownBlock))
  (hb : (Value.slice a (q.ports.length + 1) c).ownBlock = (Value.slice q.portA q.ports.length q.portC).ownBlock ∨ (Value.slice a (q.ports.length + 1) c).ownBlock = some W9.heap.size) :
  CopyL p We (w10.setCell ⟨o, 7, none⟩ (.slice a (q.ports.length + 1) c)) o ({ q with ports := q.ports ++ [({ x with itemsA := a2, itemsC := c2 } : PortD)], portA := a, portC := c } : PartD) ∧ w10.cell? ⟨o, 7, none⟩ = some (.slice q.portA q.ports.length q.portC) ∧ w10.frozen? ⟨o, 7, none⟩ = false := by
 have hol : o < wr.heap.size := (Array.getElem?_eq_some_iff.1 h.out).1
 obtain ⟨hb9, hs8⟩ := CopyL.bePort h7 e8 e9
 have h9 := h.below hb9
 have hlow := h.low
 have hm : portN.Mine W9 (We.heap.size + 2) ({ x with itemsA := a2, itemsC := c2 } : PortD) := by
  refine own_low (base := wr.heap.size) ?_ (by omega)
  refine own_same h7.2.2.1 fun g hg' => ?_
  have h5 := h7.2.2.2 g hg'
  have h6 := own_lt h7.2.2.1 hg'
  subst e9
  refine (heap_alloc_old _ _ (by omega)).trans ?_
  subst e8
  exact setCell_other (by omega)
 have hx : ∀ g, portN.kid ({ x with itemsA := a2, itemsC := c2 } : PortD) = some g → g ∉ q.blocks ∧ g ≠ o := fun g hk => by
  have h5 := h7.2.2.2 g (mem_blk.2 hk)
  refine ⟨fun hm' => ?_, by omega⟩
  have := (h.own.lt g hm').2
  omega
 have hn : ∀ g ∈ blk a, g ∈ blk q.portA ∨ g = W9.heap.size := fun g hg' => by
  cases a with
  | none => simp [blk] at hg'
  | some ad =>
   simp [blk] at hg'
   subst hg'
   rcases hb with hb | hb
   ·exact .inl (own_block hb.symm)
   ·exact .inr (by simpa [Value.ownBlock] using hb)
 have hL := h9.addPort hm hx (by rw [portK.flat_append]; exact ho) hg hn
 have ho9 : w10.heap[o]? = W9.heap[o]? := hg.block o (Nat.lt_of_lt_of_le hol hb9.size) fun e => h.free (by
  have := own_block e.symm
  simp [PartD.blocks, this])
 have ho10 := ho9.trans h9.out
 exact ⟨hL, by simp [World.cell?, ho10], frozen_of_row _ _ _ _ _ ho10⟩
end

def CopyS (p : PartD) (w w' : World) : Prop := w'.cell? ⟨w.heap.size, 0, none⟩ = some (.int .i64 p.id) ∧ w'.cell? ⟨w.heap.size, 1, none⟩ = some (.int .i64 p.next) ∧ w'.cell? ⟨w.heap.size, 3, none⟩ = some (.slice p.semA p.sems.length p.semC) ∧ w'.cell? ⟨w.heap.size, 4, none⟩ = some (.slice p.eventA p.events.length p.eventC) ∧ w'.cell? ⟨w.heap.size, 5, none⟩ = some (.slice p.boardA p.boards.length p.boardC)

set_option maxRecDepth 100000 in
set_option maxHeartbeats 8000000 in
theorem l3Copy_any (p : PartD) (w : World) (hf : p.Fit) (hsh : ∀ x ∈ p.procs, x.Short) (h : PartD.At w p) :
  Calls Tryz.prog 86 #[.agg p.cells] w fun e w' => ∃ p', e = .returned (.agg p'.cells) ∧ PartOwn w' w.heap.size p' ∧ p'.pure = p.pure ∧ Below w.heap.size w w' := by
 have HF : Hid (p.Fit ∧ PartD.At w p) := ⟨hf, h⟩
 have HFS : Hid (∀ x ∈ p.procs, x.Short) := hsh
 have HC : Hid (CopyF p w (((w.alloc (.cells #[.int .i64 p.id, .int .i64 p.next, .slice p.procA p.procs.length p.procC, .slice p.semA p.sems.length p.semC, .slice p.eventA p.events.length p.eventC, .slice p.boardA p.boards.length p.boardC, .slice p.bufferA p.buffers.length p.bufferC, .slice p.portA p.ports.length p.portC] 32)).alloc (.cells #[.int .i64 0, .int .i64 0, .slice none 0 0, .slice none 0 0, .slice none 0 0, .slice none 0 0, .slice none 0 0, .slice none 0 0] 32))).drew false false false false false false false false false 0 0 0 0 none none none 0 0 0) := by
  have b1 : Below w.heap.size w ((w.alloc (.cells #[.int .i64 p.id, .int .i64 p.next, .slice p.procA p.procs.length p.procC, .slice p.semA p.sems.length p.semC, .slice p.eventA p.events.length p.eventC, .slice p.boardA p.boards.length p.boardC, .slice p.bufferA p.buffers.length p.bufferC, .slice p.portA p.ports.length p.portC] 32)).alloc (.cells #[.int .i64 0, .int .i64 0, .slice none 0 0, .slice none 0 0, .slice none 0 0, .slice none 0 0, .slice none 0 0, .slice none 0 0] 32)) := ((Below.refl _ _).alloc (Nat.le_refl _) _).alloc (by simp) _
  exact ⟨b1.drew, (heap_alloc_old _ _ (by simp)).trans (heap_alloc_new _ _), heap_alloc2_new _ _ _, ⟨(fun h => by cases h), fun h => by cases h⟩, ⟨(fun h => by cases h), fun h => by cases h⟩, ⟨(fun h => by cases h), fun h => by cases h⟩, (fun h => by cases h), ⟨(fun h => by cases h), fun h => by cases h⟩, (by simp), ⟨fun i j _ q hq => by rcases i with _ | _ | _ | _ | _ <;> simp [four, slotB] at hq, fun i q hq => by rcases i with _ | _ | _ | _ | _ <;> simp [four, slotB] at hq⟩⟩
 have HS : Hid (CopyS p w (((w.alloc (.cells #[.int .i64 p.id, .int .i64 p.next, .slice p.procA p.procs.length p.procC, .slice p.semA p.sems.length p.semC, .slice p.eventA p.events.length p.eventC, .slice p.boardA p.boards.length p.boardC, .slice p.bufferA p.buffers.length p.bufferC, .slice p.portA p.ports.length p.portC] 32)).alloc (.cells #[.int .i64 0, .int .i64 0, .slice none 0 0, .slice none 0 0, .slice none 0 0, .slice none 0 0, .slice none 0 0, .slice none 0 0] 32))).drew) := by obtain ⟨m0, m1, m2, m3, m4, m5, m6, m7⟩ := HC.out.part.cells; exact ⟨m0, m1, m3, m4, m5⟩
 clear hf h hsh
 unfold PartD.cells
 go_enter Tryz.func86, Tryz.ntmps86
 go_wp2_with fail
 generalize (w.alloc (.cells #[.int .i64 p.id, .int .i64 p.next, .slice p.procA p.procs.length p.procC, .slice p.semA p.sems.length p.semC, .slice p.eventA p.events.length p.eventC, .slice p.boardA p.boards.length p.boardC, .slice p.bufferA p.buffers.length p.bufferC, .slice p.portA p.ports.length p.portC] 32)).alloc (.cells #[.int .i64 0, .int .i64 0, .slice none 0 0, .slice none 0 0, .slice none 0 0, .slice none 0 0, .slice none 0 0, .slice none 0 0] 32) = W at *
 refine wp_region_held_drew (S := CopyS p w) (by kernel_rfl) HS.out (fun hHeld => ?_)
 refine tk 0 (v := ?_) ?_ hHeld ?_; rotate_left; (intro w0 hS0; obtain ⟨m0, m1, m3, m4, m5⟩ := hS0; go_simp; try with_reducible rfl); simp only [pt, sb, s0, s1]
 refine tk 1 (v := ?_) ?_ hHeld ?_; rotate_left; (intro w0 hS0; obtain ⟨m0, m1, m3, m4, m5⟩ := hS0; go_simp; try with_reducible rfl); simp only [pt, sb, s0, s1]
 refine tk 2 (v := ?_) ?_ hHeld ?_; rotate_left; (intro w0 hS0; obtain ⟨m0, m1, m3, m4, m5⟩ := hS0; go_simp; try with_reducible rfl); simp only [pt, sb, s0, s1]
 refine tk 3 (v := ?_) ?_ hHeld ?_; rotate_left; (intro w0 hS0; obtain ⟨m0, m1, m3, m4, m5⟩ := hS0; go_simp; try with_reducible rfl); simp only [pt, sb, s0, s1]
 refine tk 5 (v := ?_) ?_ hHeld ?_; rotate_left; (intro w0 hS0; obtain ⟨m0, m1, m3, m4, m5⟩ := hS0; go_simp; try with_reducible rfl); simp only [pt, sb, s0, s1]
 refine tk 6 (v := ?_) ?_ hHeld ?_; rotate_left; (intro w0 hS0; obtain ⟨m0, m1, m3, m4, m5⟩ := hS0; go_simp; try with_reducible rfl); simp only [pt, sb, s0, s1]
 refine tk 9 (v := ?_) ?_ hHeld ?_; rotate_left; (intro w0 hS0; obtain ⟨m0, m1, m3, m4, m5⟩ := hS0; go_simp; try with_reducible rfl); simp only [pt, sb, s0, s1]
 refine tk 10 (v := ?_) ?_ hHeld ?_; rotate_left; (intro w0 hS0; obtain ⟨m0, m1, m3, m4, m5⟩ := hS0; go_simp; try with_reducible rfl); simp only [pt, sb, s0, s1]
 refine tk 13 (v := ?_) ?_ hHeld ?_; rotate_left; (intro w0 hS0; obtain ⟨m0, m1, m3, m4, m5⟩ := hS0; go_simp; try with_reducible rfl); simp only [pt, sb, s0, s1]
 refine tk 14 (v := ?_) ?_ hHeld ?_; rotate_left; (intro w0 hS0; obtain ⟨m0, m1, m3, m4, m5⟩ := hS0; go_simp; try with_reducible rfl); simp only [pt, sb, s0, s1]
 refine wild (CopyInv p w) (fun l a w1 hI => ?_) (fun l a w1 hI i hi => ?_) (fun l a w1 hI h0 => ?_) _ _ _ _ ⟨false, false, false, false, false, false, false, false, false, 0, 0, 0, 0, none, none, none, 0, 0, 0, by kernel_rfl, rfl, HC.out⟩ (of_decide_eq_true (by kernel_rfl))
 ·obtain ⟨b0, d0, b1, d1, b2, d2, b3, d3, e, g0, g1, g2, o, a0, a1, a2, c0, c1, c2, -, -, hC⟩ := hI
  obtain ⟨m0, m1, m2, m3, m4, m5, m6, m7⟩ := hC.part.cells
  exact ⟨m0, m1, m3, m4, m5⟩
 ·obtain ⟨b0, d0, b1, d1, b2, d2, b3, d3, e, g0, g1, g2, o, a0, a1, a2, c0, c1, c2, rfl, rfl, hC⟩ := hI
  have HI : Hid (CopyF p w w1 b0 d0 b1 d1 b2 d2 b3 d3 e g0 g1 g2 o a0 a1 a2 c0 c1 c2) := hC
  clear hC
  unfold copyFr
  match i, hi with
  | 0, hi => exact absurd (ready_free hi) (by simp)
  | 1, hi => exact absurd (ready_free hi) (by simp)
  | 2, hi => exact absurd (ready_free hi) (by simp)
  | 3, hi => exact absurd (ready_free hi) (by simp)
  | 4, hi =>
   have hb : b0 = false := by have h5 := ready_free hi; simpa using h5
   subst hb
   refine wpOp_do (o := _) rfl (by kernel_rfl) (fun K hK => ?_)
   go_wp2_with fail
   exact hK.out _ _ ⟨true, d0, b1, d1, b2, d2, b3, d3, e, w1.heap.size, g1, g2, o, a0, a1, a2, c0, c1, c2, by rfl, by rfl, HI.out.make0⟩
  | 5, hi => exact absurd (ready_free hi) (by simp)
  | 6, hi => exact absurd (ready_free hi) (by simp)
  | 7, hi =>
   have hb : d0 = false := by have h5 := ready_free hi; simpa using h5
   have hn4 : b0 = true := by have h5 := ready_needs [4, 6] hi (by kernel_rfl) 4 (by decide); simpa using h5
   subst hb hn4
   refine wpOp_do (o := _) rfl (by kernel_rfl) (fun K hK => ?_)
   obtain ⟨a', c', w2, hr, ho, hg, hq⟩ := ontoSem w1 (w.heap.size + 2) g0 (HI.out.s0.made rfl rfl).1 (HI.out.s0.made rfl rfl).2 p.semA p.sems p.semC ((HF.out.2.below HI.out.bel).2.1.1) HF.out.1.short.sems HI.out.size
   refine oper_append _ _ _ rfl _ _ _ w2 rfl rfl hr ?_
   have he : e = false := by cases e with | false => rfl | true => (have h5 := HI.out.cl.1 rfl; simp at h5)
   subst he
   exact hK.out _ _ ⟨true, true, b1, d1, b2, d2, b3, d3, false, g0, g1, g2, o, a', a1, a2, c', c1, c2, by rfl, by rfl, HI.out.copy0 ho hg hq⟩
  | 8, hi =>
   have hb : b1 = false := by have h5 := ready_free hi; simpa using h5
   subst hb
   refine wpOp_do (o := _) rfl (by kernel_rfl) (fun K hK => ?_)
   go_wp2_with fail
   exact hK.out _ _ ⟨b0, d0, true, d1, b2, d2, b3, d3, e, g0, w1.heap.size, g2, o, a0, a1, a2, c0, c1, c2, by rfl, by rfl, HI.out.make1⟩
  | 9, hi => exact absurd (ready_free hi) (by simp)
  | 10, hi => exact absurd (ready_free hi) (by simp)
  | 11, hi =>
   have hb : d1 = false := by have h5 := ready_free hi; simpa using h5
   have hn8 : b1 = true := by have h5 := ready_needs [8, 10, 7] hi (by kernel_rfl) 8 (by decide); simpa using h5
   subst hb hn8
   refine wpOp_do (o := _) rfl (by kernel_rfl) (fun K hK => ?_)
   obtain ⟨a', c', w2, hr, ho, hg, hq⟩ := ontoEvent w1 (w.heap.size + 2) g1 (HI.out.s1.made rfl rfl).1 (HI.out.s1.made rfl rfl).2 p.eventA p.events p.eventC ((HF.out.2.below HI.out.bel).2.2.1.1) HF.out.1.short.events HI.out.size
   refine oper_append _ _ _ rfl _ _ _ w2 rfl rfl hr ?_
   have he : e = false := by cases e with | false => rfl | true => (have h5 := HI.out.cl.1 rfl; simp at h5)
   subst he
   exact hK.out _ _ ⟨b0, d0, true, true, b2, d2, b3, d3, false, g0, g1, g2, o, a0, a', a2, c0, c', c2, by rfl, by rfl, HI.out.copy1 ho hg hq⟩
  | 12, hi =>
   have hb : b2 = false := by have h5 := ready_free hi; simpa using h5
   subst hb
   refine wpOp_do (o := _) rfl (by kernel_rfl) (fun K hK => ?_)
   go_wp2_with fail
   exact hK.out _ _ ⟨b0, d0, b1, d1, true, d2, b3, d3, e, g0, g1, w1.heap.size, o, a0, a1, a2, c0, c1, c2, by rfl, by rfl, HI.out.make2⟩
  | 13, hi => exact absurd (ready_free hi) (by simp)
  | 14, hi => exact absurd (ready_free hi) (by simp)
  | 15, hi =>
   have hb : d2 = false := by have h5 := ready_free hi; simpa using h5
   have hn12 : b2 = true := by have h5 := ready_needs [12, 14, 11] hi (by kernel_rfl) 12 (by decide); simpa using h5
   subst hb hn12
   refine wpOp_do (o := _) rfl (by kernel_rfl) (fun K hK => ?_)
   obtain ⟨a', c', w2, hr, ho, hg, hq⟩ := ontoBoard w1 (w.heap.size + 2) g2 (HI.out.s2.made rfl rfl).1 (HI.out.s2.made rfl rfl).2 p.boardA p.boards p.boardC ((HF.out.2.below HI.out.bel).2.2.2.1.1) HF.out.1.short.boards HI.out.size
   refine oper_append _ _ _ rfl _ _ _ w2 rfl rfl hr ?_
   have he : e = false := by cases e with | false => rfl | true => (have h5 := HI.out.cl.1 rfl; simp at h5)
   subst he
   exact hK.out _ _ ⟨b0, d0, b1, d1, true, true, b3, d3, false, g0, g1, g2, o, a0, a1, a', c0, c1, c', by rfl, by rfl, HI.out.copy2 ho hg hq⟩
  | 16, hi =>
   have hb : e = false := by have h5 := ready_free hi; simpa using h5
   have hn7 : d0 = true := by have h5 := ready_needs [1, 3, 7, 11, 15] hi (by kernel_rfl) 7 (by decide); simpa using h5
   have hn11 : d1 = true := by have h5 := ready_needs [1, 3, 7, 11, 15] hi (by kernel_rfl) 11 (by decide); simpa using h5
   have hn15 : d2 = true := by have h5 := ready_needs [1, 3, 7, 11, 15] hi (by kernel_rfl) 15 (by decide); simpa using h5
   subst hb hn7 hn11 hn15
   refine wpOp_do (o := _) rfl (by kernel_rfl) (fun K hK => ?_)
   go_wp2_with fail
   exact hK.out _ _ ⟨b0, true, b1, true, b2, true, b3, d3, true, g0, g1, g2, o, a0, a1, a2, c0, c1, c2, by rfl, by rfl, HI.out.build rfl rfl rfl⟩
  | 17, hi =>
   have hb : b3 = false := by have h5 := ready_free hi; simpa using h5
   subst hb
   refine wpOp_do (o := _) rfl (by kernel_rfl) (fun K hK => ?_)
   have hd3 : d3 = false := by cases d3 with | false => rfl | true => (have h5 := HI.out.cl.2 rfl; simp at h5)
   subst hd3
   go_wp2_with fail
   exact hK.out _ _ ⟨b0, d0, b1, d1, b2, d2, true, false, e, g0, g1, g2, w1.heap.size, a0, a1, a2, c0, c1, c2, by rfl, by rfl, HI.out.make3⟩
  | 18, hi =>
   have hb : d3 = false := by have h5 := ready_free hi; simpa using h5
   have hn17 : b3 = true := by have h5 := ready_needs [17, 16, 15, 0, 1, 2, 3, 4, 5, 6, 7, 8, 9, 10, 11, 12, 13, 14, 15, 16, 17] hi (by kernel_rfl) 17 (by decide); simpa using h5
   have hn16 : e = true := by have h5 := ready_needs [17, 16, 15, 0, 1, 2, 3, 4, 5, 6, 7, 8, 9, 10, 11, 12, 13, 14, 15, 16, 17] hi (by kernel_rfl) 16 (by decide); simpa using h5
   subst hb hn17 hn16
   refine wpOp_do (o := _) rfl (by kernel_rfl) (fun K hK => ?_)
   refine oper_store _ _ _ rfl o _ _ _ rfl rfl (HI.out.out rfl) (by kernel_rfl) rfl (by kernel_rfl) ?_
   exact hK.out _ _ ⟨b0, d0, b1, d1, b2, d2, true, true, true, g0, g1, g2, o, a0, a1, a2, c0, c1, c2, by rfl, by rfl, HI.out.store⟩
  | n + 19, hi => exact absurd (ready_free hi) (by simp)
 ·obtain ⟨b0, d0, b1, d1, b2, d2, b3, d3, e, g0, g1, g2, o, a0, a1, a2, c0, c1, c2, rfl, rfl, hC⟩ := hI
  have hno : ∀ i, i ∉ Region.ready .any _ _ := fun i hi => by rw [h0] at hi; cases hi
  have hb0 : b0 = true := by cases hx : b0 with | true => rfl | false => exact absurd (ready_of [] (by kernel_rfl) (by kernel_rfl) (by simp [hx]) (fun j hj => by cases hj)) (hno 4)
  have hd0 : d0 = true := by cases hx : d0 with | true => rfl | false => exact absurd (ready_of [4, 6] (by kernel_rfl) (by kernel_rfl) (by simp [hx]) (fun j hj => by simp only [List.mem_cons, List.not_mem_nil, or_false] at hj; rcases hj with rfl | rfl <;> first | rfl | simp [hb0])) (hno 7)
  have hb1 : b1 = true := by cases hx : b1 with | true => rfl | false => exact absurd (ready_of [] (by kernel_rfl) (by kernel_rfl) (by simp [hx]) (fun j hj => by cases hj)) (hno 8)
  have hd1 : d1 = true := by cases hx : d1 with | true => rfl | false => exact absurd (ready_of [8, 10, 7] (by kernel_rfl) (by kernel_rfl) (by simp [hx]) (fun j hj => by simp only [List.mem_cons, List.not_mem_nil, or_false] at hj; rcases hj with rfl | rfl | rfl <;> first | rfl | simp [hb1, hd0])) (hno 11)
  have hb2 : b2 = true := by cases hx : b2 with | true => rfl | false => exact absurd (ready_of [] (by kernel_rfl) (by kernel_rfl) (by simp [hx]) (fun j hj => by cases hj)) (hno 12)
  have hd2 : d2 = true := by cases hx : d2 with | true => rfl | false => exact absurd (ready_of [12, 14, 11] (by kernel_rfl) (by kernel_rfl) (by simp [hx]) (fun j hj => by simp only [List.mem_cons, List.not_mem_nil, or_false] at hj; rcases hj with rfl | rfl | rfl <;> first | rfl | simp [hb2, hd1])) (hno 15)
  have he : e = true := by cases hx : e with | true => rfl | false => exact absurd (ready_of [1, 3, 7, 11, 15] (by kernel_rfl) (by kernel_rfl) (by simp [hx]) (fun j hj => by simp only [List.mem_cons, List.not_mem_nil, or_false] at hj; rcases hj with rfl | rfl | rfl | rfl | rfl <;> first | rfl | simp [hd0, hd1, hd2])) (hno 16)
  have hb3 : b3 = true := by cases hx : b3 with | true => rfl | false => exact absurd (ready_of [] (by kernel_rfl) (by kernel_rfl) (by simp [hx]) (fun j hj => by cases hj)) (hno 17)
  have hd3 : d3 = true := by cases hx : d3 with | true => rfl | false => exact absurd (ready_of [17, 16, 15, 0, 1, 2, 3, 4, 5, 6, 7, 8, 9, 10, 11, 12, 13, 14, 15, 16, 17] (by kernel_rfl) (by kernel_rfl) (by simp [hx]) (fun j hj => by simp only [List.mem_cons, List.not_mem_nil, or_false] at hj; rcases hj with rfl | rfl | rfl | rfl | rfl | rfl | rfl | rfl | rfl | rfl | rfl | rfl | rfl | rfl | rfl | rfl | rfl | rfl | rfl | rfl | rfl <;> first | rfl | simp [hb0, hd0, hb1, hd1, hb2, hd2, he, hb3])) (hno 18)
  subst hb0 hd0 hb1 hd1 hb2 hd2 he hb3 hd3
  have HI : Hid (CopyF p w w1 true true true true true true true true true g0 g1 g2 o a0 a1 a2 c0 c1 c2) := hC
  clear hC hno h0
  simp only [copyFr, cond_true]
  have HLS : Hid (CopyL p w w1 o ⟨p.id, p.next, [], none, 0, p.sems, a0, c0, p.events, a1, c1, p.boards, a2, c2, [], none, 0, [], none, 0⟩) := CopyL.start HI.out
  clear HI HC HS hHeld
  obtain ⟨i0', hi', e0'⟩ := Option.map_eq_some_iff.1 rinfProc
  simp only [Prod.mk.injEq] at e0'
  have HI : Hid (Tryz.prog.info? 43 = some i0' ∧ i0'.zero = some _ ∧ i0'.size = 12 ∧ i0'.bytes = 128) := ⟨hi', e0'⟩
  clear hi' e0'
  have hpProc : p.procs.length ≤ 1048576 := HF.out.1.short.procs
  go_wp2_with fail
  go_loopw [4] (fun i wr => ∃ k : Nat, k ≤ p.procs.length ∧ i = .int .i64 k ∧ Hid (∃ q, CopyL p w wr o q ∧ q.pure = { p.pure with procs := p.pure.procs.take k, buffers := [], ports := [] })) (fun i _ => p.procs.length - (intOf i).toNat)
  case atStart => exact ⟨0, Nat.zero_le _, rfl, ⟨_, HLS.out, rfl⟩⟩
  case round =>
   obtain ⟨k, hk, rfl, HA⟩ := hrel
   obtain ⟨q, hL, hq⟩ := HA.out
   have HL : Hid (CopyL p w wr o q ∧ (q.pure = { p.pure with procs := p.pure.procs.take k, buffers := [], ports := [] }) ∧ q.procs.length = k) := ⟨hL, hq, lenProc hq hk⟩
   clear HA hL hq
   have mp : wr.cell? ⟨w.heap.size, 2, none⟩ = some (.slice p.procA p.procs.length p.procC) := by obtain ⟨m0, m1, m2, m3, m4, m5, m6, m7⟩ := HL.out.1.part.cells; exact m2
   by_cases hlt : k < p.procs.length
   ·have i0 : (0 : Int) ≤ (k : Int) := by omega
    have i1 : (k : Int) < (p.procs.length : Int) := by omega
    obtain ⟨x, hx⟩ : ∃ x, p.procs[k]? = some x := ⟨_, List.getElem?_eq_getElem hlt⟩
    have hAt := HF.out.2.below HL.out.1.bel
    obtain ⟨gs, ha, hat⟩ := proc_at hAt.1 hx
    rw [ha] at mp
    obtain ⟨d0, d1, d2, d3, d4, d5, d6, d7, d8, d9, d10, d11⟩ := hat
    have HX : Hid (p.procs[k]? = some x ∧ Row wr x.progA (opK.flat x.prog) ∧ x.prog.length ≤ 1048576) := ⟨hx, hAt.1.2 x (List.mem_of_getElem? hx) (x.progA, opK.flat x.prog) (List.mem_singleton.2 rfl), (HFS.out x (List.mem_of_getElem? hx)).prog⟩
    clear hx ha hAt
    have hb2 : Below wr.heap.size wr ((wr.alloc (.cells #[.int .i64 x.id, .int .i64 x.prio, .slice x.progA x.prog.length x.progC, .int .i64 x.state, .int .i64 x.pc, .int .i64 x.left, .int .i64 x.wake, .int .i64 x.on, .string x.held, .string x.got, .int .i64 x.code, .int .i64 x.since] 43)).alloc (.cells #[] 134)) := ((Below.refl _ _).alloc (Nat.le_refl _) _).alloc (by simp) _
    obtain ⟨a2, c2, w7, hap, how, hgw, hqb⟩ := ontoOp ((wr.alloc (.cells #[.int .i64 x.id, .int .i64 x.prio, .slice x.progA x.prog.length x.progC, .int .i64 x.state, .int .i64 x.pc, .int .i64 x.left, .int .i64 x.wake, .int .i64 x.on, .string x.held, .string x.got, .int .i64 x.code, .int .i64 x.since] 43)).alloc (.cells #[] 134)) wr.heap.size (wr.heap.size + 1) (heap_alloc2_new _ _ _) (by omega) x.progA x.prog x.progC (HX.out.2.1.below hb2) HX.out.2.2 (by simp; omega)
    have hX7 := (hgw.block wr.heap.size (by simp; omega) (fun e => by have := Option.some.inj e; omega)).trans ((heap_alloc_old _ _ (by simp)).trans (heap_alloc_new wr _))
    have hb7 : Below wr.heap.size wr w7 := hb2.grown hgw (by simp; omega) (fun k hk => by cases hk; omega)
    have HW7 : Hid (CpProc wr w7 x a2 c2) := ⟨hX7, hb7, how, fun g hg => by have h5 := hqb g hg; simp at h5; exact h5⟩
    have z0 : w7.frozen? ⟨wr.heap.size, 2, none⟩ = false := frozen_of_row _ _ _ _ _ hX7
    have z1 : w7.cell? ⟨wr.heap.size, 2, none⟩ = some (.slice x.progA x.prog.length x.progC) := by simp [World.cell?, hX7]
    clear hb2 how hgw hqb hX7 hb7
    obtain ⟨co, e0, e1, e2, e3, e4, e5, e6, e7, e8, e9, e10, e11⟩ := HL.out.1.inProc HW7.out rfl
    have hkl : q.procs.length ≤ 1048576 := by have := HL.out.2.2; have := HF.out.1.short.procs; omega
    have hsz : w.heap.size + 2 ≤ w7.heap.size := by have h5 := HW7.out.2.1.size; have h6 := HL.out.1.low; have h7 : o < wr.heap.size := (Array.getElem?_eq_some_iff.1 HL.out.1.out).1; omega
    have HR9 : Hid (_) := HL.out.1.rowProc HW7.out rfl rfl
    go_wp2_with (at_builtin; first | (refine wpList_append_run _ rfl _ _ 37 rfl _ _ _ _ rfl rfl hap ?_; clear hap) | (refine wpList_append_own_at _ rfl _ _ 25 rfl (w.heap.size + 2) 43 i0' _ 12 128 Tryz.underlying25 HI.out.1 HI.out.2.1 HI.out.2.2.1 HI.out.2.2.2 rfl (by decide) (.slice q.procA q.procs.length q.procC) q.procs.length (procK.flat q.procs) rfl HR9.out.1 ⟨w7.heap.size, 0, none⟩ 1 1 (procK.vals ({ x with progA := a2, progC := c2 } : ProcD)) (by rfl) rfl (World.news_of_block (cs := #[.int .i64 x.id, .int .i64 x.prio, .slice a2 x.prog.length c2, .int .i64 x.state, .int .i64 x.pc, .int .i64 x.left, .int .i64 x.wake, .int .i64 x.on, .string x.held, .string x.got, .int .i64 x.code, .int .i64 x.since]) (t := 43) (fr := (0, 0)) HR9.out.2) (by simp [procK, procVals, Value.oneCell']) (by unfold maxLen; omega) (by omega) (by simp; omega) ?_; intro v5 w10 hown5 hgrow5 hnil5 hloc5; obtain ⟨a5, c5, rfl, -⟩ := own_form hown5; have HN : Hid (CopyL p w (w10.setCell ⟨o, 2, none⟩ (.slice a5 (q.procs.length + 1) c5)) o ({ q with procs := q.procs ++ [({ x with progA := a2, progC := c2 } : ProcD)], procA := a5, procC := c5 } : PartD) ∧ w10.cell? ⟨o, 2, none⟩ = some (.slice q.procA q.procs.length q.procC) ∧ w10.frozen? ⟨o, 2, none⟩ = false) := HL.out.1.stepProc HW7.out rfl rfl hown5 hgrow5 hloc5; have yo := HN.out.2.1; have zo := HN.out.2.2; clear hown5 hgrow5 hnil5 hloc5))
    go_roundw
    case rel => exact ⟨k + 1, by omega, by go_num, ⟨_, HN.out.1, CopyL.upProc HL.out.2.1 HX.out.1⟩⟩
    case measure => simp [intOf]; omega
   ·have i1 : ¬ (k : Int) < (p.procs.length : Int) := by omega
    have HE : Hid (∃ q, CopyL p w wr o q ∧ q.pure = { p.pure with buffers := [], ports := [] }) := by
     have h5 := HL.out.2.1
     rw [List.take_of_length_le (by show (p.procs.map _).length ≤ k; rw [List.length_map]; omega)] at h5
     exact ⟨q, HL.out.1, h5⟩
    clear HL
    rename World => W2
    obtain ⟨i0', hi', e0'⟩ := Option.map_eq_some_iff.1 rinfBuffer
    simp only [Prod.mk.injEq] at e0'
    have HI : Hid (Tryz.prog.info? 144 = some i0' ∧ i0'.zero = some _ ∧ i0'.size = 3 ∧ i0'.bytes = 40) := ⟨hi', e0'⟩
    clear hi' e0'
    have hpBuffer : p.buffers.length ≤ 1048576 := HF.out.1.short.buffers
    go_wp2_with fail
    clear mp
    go_loopw [6] (fun i wr => ∃ k : Nat, k ≤ p.buffers.length ∧ i = .int .i64 k ∧ Hid (∃ q, CopyL p w wr o q ∧ q.pure = { p.pure with buffers := p.pure.buffers.take k, ports := [] })) (fun i _ => p.buffers.length - (intOf i).toNat)
    case atStart => exact ⟨0, Nat.zero_le _, rfl, by obtain ⟨q, h1, h2⟩ := HE.out; exact ⟨q, h1, h2.trans (by simp)⟩⟩
    case round =>
     obtain ⟨k, hk, rfl, HA⟩ := hrel
     obtain ⟨q, hL, hq⟩ := HA.out
     have HL : Hid (CopyL p w wr o q ∧ (q.pure = { p.pure with buffers := p.pure.buffers.take k, ports := [] }) ∧ q.buffers.length = k) := ⟨hL, hq, lenBuffer hq hk⟩
     clear HA hL hq
     have mp : wr.cell? ⟨w.heap.size, 6, none⟩ = some (.slice p.bufferA p.buffers.length p.bufferC) := by obtain ⟨m0, m1, m2, m3, m4, m5, m6, m7⟩ := HL.out.1.part.cells; exact m6
     by_cases hlt : k < p.buffers.length
     ·have i0 : (0 : Int) ≤ (k : Int) := by omega
      have i1 : (k : Int) < (p.buffers.length : Int) := by omega
      obtain ⟨x, hx⟩ : ∃ x, p.buffers[k]? = some x := ⟨_, List.getElem?_eq_getElem hlt⟩
      have hAt := HF.out.2.below HL.out.1.bel
      obtain ⟨gs, ha, hat⟩ := buffer_at hAt.2.2.2.2.1 hx
      rw [ha] at mp
      obtain ⟨d0, d1, d2⟩ := hat
      have HX : Hid (p.buffers[k]? = some x ∧ Row wr x.itemsA (strK.flat x.items) ∧ x.items.length ≤ 1048576) := ⟨hx, hAt.2.2.2.2.1.2 x (List.mem_of_getElem? hx) (x.itemsA, strK.flat x.items) (List.mem_singleton.2 rfl), (HF.out.1.buffers x (List.mem_of_getElem? hx)).1⟩
      clear hx ha hAt
      have hb2 : Below wr.heap.size wr ((wr.alloc (.cells #[.int .i64 x.id, .int .i64 x.max, .slice x.itemsA x.items.length x.itemsC] 144)).alloc (.cells #[] 9)) := ((Below.refl _ _).alloc (Nat.le_refl _) _).alloc (by simp) _
      obtain ⟨a2, c2, w7, hap, how, hgw, hqb⟩ := ontoStr ((wr.alloc (.cells #[.int .i64 x.id, .int .i64 x.max, .slice x.itemsA x.items.length x.itemsC] 144)).alloc (.cells #[] 9)) wr.heap.size (wr.heap.size + 1) (heap_alloc2_new _ _ _) (by omega) x.itemsA x.items x.itemsC (HX.out.2.1.below hb2) HX.out.2.2 (by simp; omega)
      have hX7 := (hgw.block wr.heap.size (by simp; omega) (fun e => by have := Option.some.inj e; omega)).trans ((heap_alloc_old _ _ (by simp)).trans (heap_alloc_new wr _))
      have hb7 : Below wr.heap.size wr w7 := hb2.grown hgw (by simp; omega) (fun k hk => by cases hk; omega)
      have HW7 : Hid (CpBuffer wr w7 x a2 c2) := ⟨hX7, hb7, how, fun g hg => by have h5 := hqb g hg; simp at h5; exact h5⟩
      have z0 : w7.frozen? ⟨wr.heap.size, 2, none⟩ = false := frozen_of_row _ _ _ _ _ hX7
      have z1 : w7.cell? ⟨wr.heap.size, 2, none⟩ = some (.slice x.itemsA x.items.length x.itemsC) := by simp [World.cell?, hX7]
      clear hb2 how hgw hqb hX7 hb7
      obtain ⟨co, e0, e1, e2⟩ := HL.out.1.inBuffer HW7.out rfl
      have hkl : q.buffers.length ≤ 1048576 := by have := HL.out.2.2; have := HF.out.1.short.buffers; omega
      have hsz : w.heap.size + 2 ≤ w7.heap.size := by have h5 := HW7.out.2.1.size; have h6 := HL.out.1.low; have h7 : o < wr.heap.size := (Array.getElem?_eq_some_iff.1 HL.out.1.out).1; omega
      have HR9 : Hid (_) := HL.out.1.rowBuffer HW7.out rfl rfl
      go_wp2_with (at_builtin; first | (refine wpList_append_run _ rfl _ _ 59 rfl _ _ _ _ rfl rfl hap ?_; clear hap) | (refine wpList_append_own_at _ rfl _ _ 29 rfl (w.heap.size + 2) 144 i0' _ 3 40 Tryz.underlying29 HI.out.1 HI.out.2.1 HI.out.2.2.1 HI.out.2.2.2 rfl (by decide) (.slice q.bufferA q.buffers.length q.bufferC) q.buffers.length (bufferK.flat q.buffers) rfl HR9.out.1 ⟨w7.heap.size, 0, none⟩ 1 1 (bufferK.vals ({ x with itemsA := a2, itemsC := c2 } : BufferD)) (by rfl) rfl (World.news_of_block (cs := #[.int .i64 x.id, .int .i64 x.max, .slice a2 x.items.length c2]) (t := 144) (fr := (0, 0)) HR9.out.2) (by simp [bufferK, bufferVals, Value.oneCell']) (by unfold maxLen; omega) (by omega) (by simp; omega) ?_; intro v5 w10 hown5 hgrow5 hnil5 hloc5; obtain ⟨a5, c5, rfl, -⟩ := own_form hown5; have HN : Hid (CopyL p w (w10.setCell ⟨o, 6, none⟩ (.slice a5 (q.buffers.length + 1) c5)) o ({ q with buffers := q.buffers ++ [({ x with itemsA := a2, itemsC := c2 } : BufferD)], bufferA := a5, bufferC := c5 } : PartD) ∧ w10.cell? ⟨o, 6, none⟩ = some (.slice q.bufferA q.buffers.length q.bufferC) ∧ w10.frozen? ⟨o, 6, none⟩ = false) := HL.out.1.stepBuffer HW7.out rfl rfl hown5 hgrow5 hloc5; have yo := HN.out.2.1; have zo := HN.out.2.2; clear hown5 hgrow5 hnil5 hloc5))
      go_roundw
      case rel => exact ⟨k + 1, by omega, by go_num, ⟨_, HN.out.1, CopyL.upBuffer HL.out.2.1 HX.out.1⟩⟩
      case measure => simp [intOf]; omega
     ·have i1 : ¬ (k : Int) < (p.buffers.length : Int) := by omega
      have HE : Hid (∃ q, CopyL p w wr o q ∧ q.pure = { p.pure with ports := [] }) := by
       have h5 := HL.out.2.1
       rw [List.take_of_length_le (by show (p.buffers.map _).length ≤ k; rw [List.length_map]; omega)] at h5
       exact ⟨q, HL.out.1, h5⟩
      clear HL
      rename World => W3
      obtain ⟨i0', hi', e0'⟩ := Option.map_eq_some_iff.1 rinfPort
      simp only [Prod.mk.injEq] at e0'
      have HI : Hid (Tryz.prog.info? 61 = some i0' ∧ i0'.zero = some _ ∧ i0'.size = 5 ∧ i0'.bytes = 48) := ⟨hi', e0'⟩
      clear hi' e0'
      have hpPort : p.ports.length ≤ 1048576 := HF.out.1.short.ports
      go_wp2_with fail
      clear mp
      go_loopw [8] (fun i wr => ∃ k : Nat, k ≤ p.ports.length ∧ i = .int .i64 k ∧ Hid (∃ q, CopyL p w wr o q ∧ q.pure = { p.pure with ports := p.pure.ports.take k })) (fun i _ => p.ports.length - (intOf i).toNat)
      case atStart => exact ⟨0, Nat.zero_le _, rfl, by obtain ⟨q, h1, h2⟩ := HE.out; exact ⟨q, h1, h2.trans (by simp)⟩⟩
      case round =>
       obtain ⟨k, hk, rfl, HA⟩ := hrel
       obtain ⟨q, hL, hq⟩ := HA.out
       have HL : Hid (CopyL p w wr o q ∧ (q.pure = { p.pure with ports := p.pure.ports.take k }) ∧ q.ports.length = k) := ⟨hL, hq, lenPort hq hk⟩
       clear HA hL hq
       have mp : wr.cell? ⟨w.heap.size, 7, none⟩ = some (.slice p.portA p.ports.length p.portC) := by obtain ⟨m0, m1, m2, m3, m4, m5, m6, m7⟩ := HL.out.1.part.cells; exact m7
       by_cases hlt : k < p.ports.length
       ·have i0 : (0 : Int) ≤ (k : Int) := by omega
        have i1 : (k : Int) < (p.ports.length : Int) := by omega
        obtain ⟨x, hx⟩ : ∃ x, p.ports[k]? = some x := ⟨_, List.getElem?_eq_getElem hlt⟩
        have hAt := HF.out.2.below HL.out.1.bel
        obtain ⟨gs, ha, hat⟩ := port_at hAt.2.2.2.2.2 hx
        rw [ha] at mp
        obtain ⟨d0, d1, d2, d3, d4⟩ := hat
        have HX : Hid (p.ports[k]? = some x ∧ Row wr x.itemsA (strK.flat x.items) ∧ x.items.length ≤ 1048576) := ⟨hx, hAt.2.2.2.2.2.2 x (List.mem_of_getElem? hx) (x.itemsA, strK.flat x.items) (List.mem_singleton.2 rfl), (HF.out.1.ports x (List.mem_of_getElem? hx)).1⟩
        clear hx ha hAt
        have hb2 : Below wr.heap.size wr ((wr.alloc (.cells #[.int .i64 x.id, .bool x.out, .bool x.queue, .int .i64 x.max, .slice x.itemsA x.items.length x.itemsC] 61)).alloc (.cells #[] 9)) := ((Below.refl _ _).alloc (Nat.le_refl _) _).alloc (by simp) _
        obtain ⟨a2, c2, w7, hap, how, hgw, hqb⟩ := ontoStr ((wr.alloc (.cells #[.int .i64 x.id, .bool x.out, .bool x.queue, .int .i64 x.max, .slice x.itemsA x.items.length x.itemsC] 61)).alloc (.cells #[] 9)) wr.heap.size (wr.heap.size + 1) (heap_alloc2_new _ _ _) (by omega) x.itemsA x.items x.itemsC (HX.out.2.1.below hb2) HX.out.2.2 (by simp; omega)
        have hX7 := (hgw.block wr.heap.size (by simp; omega) (fun e => by have := Option.some.inj e; omega)).trans ((heap_alloc_old _ _ (by simp)).trans (heap_alloc_new wr _))
        have hb7 : Below wr.heap.size wr w7 := hb2.grown hgw (by simp; omega) (fun k hk => by cases hk; omega)
        have HW7 : Hid (CpPort wr w7 x a2 c2) := ⟨hX7, hb7, how, fun g hg => by have h5 := hqb g hg; simp at h5; exact h5⟩
        have z0 : w7.frozen? ⟨wr.heap.size, 4, none⟩ = false := frozen_of_row _ _ _ _ _ hX7
        have z1 : w7.cell? ⟨wr.heap.size, 4, none⟩ = some (.slice x.itemsA x.items.length x.itemsC) := by simp [World.cell?, hX7]
        clear hb2 how hgw hqb hX7 hb7
        obtain ⟨co, e0, e1, e2, e3, e4⟩ := HL.out.1.inPort HW7.out rfl
        have hkl : q.ports.length ≤ 1048576 := by have := HL.out.2.2; have := HF.out.1.short.ports; omega
        have hsz : w.heap.size + 2 ≤ w7.heap.size := by have h5 := HW7.out.2.1.size; have h6 := HL.out.1.low; have h7 : o < wr.heap.size := (Array.getElem?_eq_some_iff.1 HL.out.1.out).1; omega
        have HR9 : Hid (_) := HL.out.1.rowPort HW7.out rfl rfl
        go_wp2_with (at_builtin; first | (refine wpList_append_run _ rfl _ _ 59 rfl _ _ _ _ rfl rfl hap ?_; clear hap) | (refine wpList_append_own_at _ rfl _ _ 30 rfl (w.heap.size + 2) 61 i0' _ 5 48 Tryz.underlying30 HI.out.1 HI.out.2.1 HI.out.2.2.1 HI.out.2.2.2 rfl (by decide) (.slice q.portA q.ports.length q.portC) q.ports.length (portK.flat q.ports) rfl HR9.out.1 ⟨w7.heap.size, 0, none⟩ 1 1 (portK.vals ({ x with itemsA := a2, itemsC := c2 } : PortD)) (by rfl) rfl (World.news_of_block (cs := #[.int .i64 x.id, .bool x.out, .bool x.queue, .int .i64 x.max, .slice a2 x.items.length c2]) (t := 61) (fr := (0, 0)) HR9.out.2) (by simp [portK, portVals, Value.oneCell']) (by unfold maxLen; omega) (by omega) (by simp; omega) ?_; intro v5 w10 hown5 hgrow5 hnil5 hloc5; obtain ⟨a5, c5, rfl, -⟩ := own_form hown5; have HN : Hid (CopyL p w (w10.setCell ⟨o, 7, none⟩ (.slice a5 (q.ports.length + 1) c5)) o ({ q with ports := q.ports ++ [({ x with itemsA := a2, itemsC := c2 } : PortD)], portA := a5, portC := c5 } : PartD) ∧ w10.cell? ⟨o, 7, none⟩ = some (.slice q.portA q.ports.length q.portC) ∧ w10.frozen? ⟨o, 7, none⟩ = false) := HL.out.1.stepPort HW7.out rfl rfl hown5 hgrow5 hloc5; have yo := HN.out.2.1; have zo := HN.out.2.2; clear hown5 hgrow5 hnil5 hloc5))
        go_roundw
        case rel => exact ⟨k + 1, by omega, by go_num, ⟨_, HN.out.1, CopyL.upPort HL.out.2.1 HX.out.1⟩⟩
        case measure => simp [intOf]; omega
       ·have i1 : ¬ (k : Int) < (p.ports.length : Int) := by omega
        have HE : Hid (∃ q, CopyL p w wr o q ∧ q.pure = p.pure) := by
         have h5 := HL.out.2.1
         rw [List.take_of_length_le (by show (p.ports.map _).length ≤ k; rw [List.length_map]; omega)] at h5
         exact ⟨q, HL.out.1, h5⟩
        clear HL
        obtain ⟨q, hL, hq⟩ := HE.out
        have HZ : Hid (CopyL p w wr o q ∧ q.pure = p.pure) := ⟨hL, hq⟩
        obtain ⟨m0, m1, m2, m3, m4, m5, m6, m7⟩ := hL.out.cells
        clear hL hq HE
        repeat (first | (go_big_may; refine wpList_store_row rfl 32 (Operand.tmp 2) (Operand.tmp 96) rfl (w.heap.size + 1) _ _ #[.int .i64 q.id, .int .i64 q.next, .slice q.procA q.procs.length q.procC, .slice q.semA q.sems.length q.semC, .slice q.eventA q.events.length q.eventC, .slice q.boardA q.boards.length q.boardC, .slice q.bufferA q.buffers.length q.bufferC, .slice q.portA q.ports.length q.portC] rfl rfl HZ.out.1.ret (by kernel_rfl) rfl (by kernel_rfl) ?_) | go_values | go_skip | go_guarded | go_step | go_upon | go_back)
        repeat (first | go_values | go_skip | go_guarded | go_step | go_upon)
        refine bodyPost_ret (v := .agg #[.int .i64 q.id, .int .i64 q.next, .slice q.procA q.procs.length q.procC, .slice q.semA q.sems.length q.semC, .slice q.eventA q.events.length q.eventC, .slice q.boardA q.boards.length q.boardC, .slice q.bufferA q.buffers.length q.bufferC, .slice q.portA q.ports.length q.portC]) (results_cell_row Tryz.results86 _ _ (w.heap.size + 1) _ _ (0, 0) _ rfl (setRow_heap _ _ _ _ _ _ HZ.out.1.ret) Tryz.underlying32 rfl (by kernel_rfl)) rfl ?_
        have hne : ∀ g ∈ q.blocks, g ≠ w.heap.size + 1 := fun g hg e => by have := (HZ.out.1.own.lt g hg).1; omega
        exact ⟨q, rfl, (HZ.out.1.own.lower (by omega)).same fun g hg => setRow_other _ _ _ _ (hne g hg), HZ.out.2, below_setRow HZ.out.1.bel (by omega) _⟩

end Go.Proofs.YtkbcplnlehdjfaaGreat

/- Two results, the first of them a struct in a block. -/
namespace Go.Proofs.YtkbcplnlehdjfaaGreat
open Go

theorem results_row_tmp {P : Program} {fn : Func} {p u : Tmp} {ty : TypeId} (h : fn.results = #[.cell p ty, .tmp u]) (tmps : Array Value) (w : World) (g : Nat) (t : TypeId) (cs : Array Value) (fr : Nat × Nat) (d : TypeDesc)
  (hp : tmps.getD p undef = .pointer (some ⟨g, 0, none⟩)) (hg : w.heap[g]? = some (.cells cs t fr))
  (hu : P.underlying ty = some d) (hd : (match d with | .struct _ | .array _ _ => true | _ => false) = true) (hi : (P.info? ty).map (·.size) = some cs.size) :
  (results fn tmps).run P w = .ok (.tuple #[.agg cs, tmps.getD u undef]) w := by
 rw [results_cell_tmp h, hp]
 simp [asAddr, run_loadVar_row w g t ty cs fr d hg hu hd hi]

end Go.Proofs.YtkbcplnlehdjfaaGreat

/- A process by its number: the specification and the programme. (Made by mkprocof.py.) -/
namespace Go.Proofs.YtkbcplnlehdjfaaGreat
open Go.RowKit Go.Maps
attribute [local go_sem ↓] Go.wp_at_zero Go.wp_at_succ

/-- The process of that number. -/
def zeroP : ProcP := ⟨0, 0, [], 0, 0, 0, 0, 0, noT, noT, 0, 0⟩
def procOfP (p : PartP) (id : Int) : Option ProcP := if partB p then p.procs.find? (fun x => decide (x.id = id)) else none
/-- What asking for a process ends in: it, or none, in memory of its own. -/
def ProcEnds (w : World) (r : Option ProcP) (e : Ending) (w' : World) : Prop := ∃ x : ProcD, e = .returned (.tuple #[.agg (procVs x), .bool r.isSome]) ∧ procN.Mine w' w.heap.size x ∧ x.toProcP = r.getD zeroP ∧ Below w.heap.size w w'
theorem procEnds_no {w w' : World} {r : Option ProcP} (h : r = none) (hb : Below w.heap.size w w') : ProcEnds w r (.returned (.tuple #[.agg #[.int .i64 0, .int .i64 0, .slice none 0 0, .int .i64 0, .int .i64 0, .int .i64 0, .int .i64 0, .int .i64 0, .string ⟨#[]⟩, .string ⟨#[]⟩, .int .i64 0, .int .i64 0], .bool false])) w' := by
 subst h
 exact ⟨⟨zeroP, none, 0⟩, rfl, World.ownsRow_nil _ _ _ _, rfl, hb⟩
theorem procOf_not {p : PartP} {id : Int} (h : partB p = false) : procOfP p id = none := by simp [procOfP, h]
theorem procOf_len {p : PartP} (id : Int) (h : p.Small) : ((procOfP p id).getD zeroP).prog.length ≤ 1048576 := by
 unfold procOfP
 split
 ·cases hf : p.procs.find? (fun x => decide (x.id = id)) with
  | none => simp [zeroP]
  | some y => exact (h.procs y (List.mem_of_find?_eq_some hf)).1.1
 ·simp [zeroP]
theorem place_find (id : Int) : ∀ (l : List ProcP) (k : Nat), (place (l.map (·.id)) id k = -1 ∧ l.find? (fun x => decide (x.id = id)) = none) ∨ ∃ n x, place (l.map (·.id)) id k = ((k + n : Nat) : Int) ∧ l[n]? = some x ∧ l.find? (fun x => decide (x.id = id)) = some x
 | [], k => .inl ⟨rfl, rfl⟩
 | x :: r, k => by
  by_cases h : x.id = id
  ·refine .inr ⟨0, x, ?_, rfl, by simp [h]⟩
   simp [place, h]
  ·rcases place_find id r (k + 1) with ⟨h1, h2⟩ | ⟨n, y, h1, h2, h3⟩
   ·exact .inl ⟨by simp only [List.map_cons, place]; rw [if_neg h]; exact h1, by simp only [List.find?_cons, h, decide_false]; exact h2⟩
   ·refine .inr ⟨n + 1, y, ?_, h2, by simp only [List.find?_cons, h, decide_false]; exact h3⟩
    simp only [List.map_cons, place]
    rw [if_neg h, h1]
    omega

set_option maxRecDepth 100000 in
set_option maxHeartbeats 4000000 in
theorem specProcOf_any (p : PartD) (id : Int) (w : World) (hf : p.Fit) (hs : ∀ x ∈ p.procs, x.Short) (h : PartD.At w p) :
  Calls Tryz.prog 72 #[.agg p.cells, .int .i64 id] w fun e w' => ProcEnds w (procOfP p.pure id) e w' := by
 have HB : Hid (PartBox ((w.alloc (.cells #[.int .i64 p.id, .int .i64 p.next, .slice p.procA p.procs.length p.procC, .slice p.semA p.sems.length p.semC, .slice p.eventA p.events.length p.eventC, .slice p.boardA p.boards.length p.boardC, .slice p.bufferA p.buffers.length p.bufferC, .slice p.portA p.ports.length p.portC] 32)).alloc (.cells #[.int .i64 0, .int .i64 0, .slice none 0 0, .int .i64 0, .int .i64 0, .int .i64 0, .int .i64 0, .int .i64 0, .string ⟨#[]⟩, .string ⟨#[]⟩, .int .i64 0, .int .i64 0] 43)) w.heap.size p ∧ PartD.At ((w.alloc (.cells #[.int .i64 p.id, .int .i64 p.next, .slice p.procA p.procs.length p.procC, .slice p.semA p.sems.length p.semC, .slice p.eventA p.events.length p.eventC, .slice p.boardA p.boards.length p.boardC, .slice p.bufferA p.buffers.length p.bufferC, .slice p.portA p.ports.length p.portC] 32)).alloc (.cells #[.int .i64 0, .int .i64 0, .slice none 0 0, .int .i64 0, .int .i64 0, .int .i64 0, .int .i64 0, .int .i64 0, .string ⟨#[]⟩, .string ⟨#[]⟩, .int .i64 0, .int .i64 0] 43)) p ∧ Below w.heap.size w ((w.alloc (.cells #[.int .i64 p.id, .int .i64 p.next, .slice p.procA p.procs.length p.procC, .slice p.semA p.sems.length p.semC, .slice p.eventA p.events.length p.eventC, .slice p.boardA p.boards.length p.boardC, .slice p.bufferA p.buffers.length p.bufferC, .slice p.portA p.ports.length p.portC] 32)).alloc (.cells #[.int .i64 0, .int .i64 0, .slice none 0 0, .int .i64 0, .int .i64 0, .int .i64 0, .int .i64 0, .int .i64 0, .string ⟨#[]⟩, .string ⟨#[]⟩, .int .i64 0, .int .i64 0] 43)) ∧ ((w.alloc (.cells #[.int .i64 p.id, .int .i64 p.next, .slice p.procA p.procs.length p.procC, .slice p.semA p.sems.length p.semC, .slice p.eventA p.events.length p.eventC, .slice p.boardA p.boards.length p.boardC, .slice p.bufferA p.buffers.length p.bufferC, .slice p.portA p.ports.length p.portC] 32)).alloc (.cells #[.int .i64 0, .int .i64 0, .slice none 0 0, .int .i64 0, .int .i64 0, .int .i64 0, .int .i64 0, .int .i64 0, .string ⟨#[]⟩, .string ⟨#[]⟩, .int .i64 0, .int .i64 0] 43)).heap[w.heap.size + 1]? = some (.cells #[.int .i64 0, .int .i64 0, .slice none 0 0, .int .i64 0, .int .i64 0, .int .i64 0, .int .i64 0, .int .i64 0, .string ⟨#[]⟩, .string ⟨#[]⟩, .int .i64 0, .int .i64 0] 43 (0, 0))) := by
  have b1 : Below w.heap.size w ((w.alloc (.cells #[.int .i64 p.id, .int .i64 p.next, .slice p.procA p.procs.length p.procC, .slice p.semA p.sems.length p.semC, .slice p.eventA p.events.length p.eventC, .slice p.boardA p.boards.length p.boardC, .slice p.bufferA p.buffers.length p.bufferC, .slice p.portA p.ports.length p.portC] 32)).alloc (.cells #[.int .i64 0, .int .i64 0, .slice none 0 0, .int .i64 0, .int .i64 0, .int .i64 0, .int .i64 0, .int .i64 0, .string ⟨#[]⟩, .string ⟨#[]⟩, .int .i64 0, .int .i64 0] 43)) := ((Below.refl _ _).alloc (Nat.le_refl _) _).alloc (by simp) _
  exact ⟨(heap_alloc_old _ _ (by simp)).trans (heap_alloc_new _ _), h.below b1, b1, heap_alloc2_new _ _ _⟩
 have HFT : Hid (p.Fit ∧ ∀ x ∈ p.procs, x.Short) := ⟨hf, hs⟩
 have hpl := hf.short.procs
 clear h hf hs
 obtain ⟨m0, m1, m2, m3, m4, m5, m6, m7⟩ := HB.out.1.cells
 unfold PartD.cells
 go_enter Tryz.func72, Tryz.ntmps72
 go_wp2_with fail
 generalize (w.alloc (.cells #[.int .i64 p.id, .int .i64 p.next, .slice p.procA p.procs.length p.procC, .slice p.semA p.sems.length p.semC, .slice p.eventA p.events.length p.eventC, .slice p.boardA p.boards.length p.boardC, .slice p.bufferA p.buffers.length p.bufferC, .slice p.portA p.ports.length p.portC] 32)).alloc (.cells #[.int .i64 0, .int .i64 0, .slice none 0 0, .int .i64 0, .int .i64 0, .int .i64 0, .int .i64 0, .int .i64 0, .string ⟨#[]⟩, .string ⟨#[]⟩, .int .i64 0, .int .i64 0] 43) = W at *
 clear m0 m1 m2 m3 m4 m5 m6 m7
 refine (l3Proc_any p id W hpl HB.out.2.1).mono ?_
 rintro e W1 ⟨rfl, hb1⟩
 have HB1 : Hid (PartBox W1 w.heap.size p ∧ PartD.At W1 p ∧ Below w.heap.size w W1 ∧ W1.heap[w.heap.size + 1]? = some (.cells #[.int .i64 0, .int .i64 0, .slice none 0 0, .int .i64 0, .int .i64 0, .int .i64 0, .int .i64 0, .int .i64 0, .string ⟨#[]⟩, .string ⟨#[]⟩, .int .i64 0, .int .i64 0] 43 (0, 0))) := ⟨HB.out.1.below hb1, HB.out.2.1.below hb1, HB.out.2.2.1.trans (hb1.mono HB.out.2.2.1.size), (hb1.block _ (Array.getElem?_eq_some_iff.1 HB.out.2.2.2).1).trans HB.out.2.2.2⟩
 clear hb1 HB
 obtain ⟨m0, m1, m2, m3, m4, m5, m6, m7⟩ := HB1.out.1.cells
 have hpf := place_find id p.pure.procs 0
 rw [show p.pure.procs.map (·.id) = p.procs.map (·.id) by simp [PartD.pure, Function.comp_def]] at hpf
 have HPF : Hid (_) := hpf
 clear hpf
 generalize place (p.procs.map (·.id)) id 0 = z at *
 go_wp2_with fail
 clear m0 m1 m2 m3 m4 m5 m6 m7
 refine (specPartOk_any p W1 HFT.out.1 HFT.out.2 HB1.out.2.1).mono ?_
 rintro e W2 ⟨rfl, hb2⟩
 have HB2 : Hid (PartBox W2 w.heap.size p ∧ PartD.At W2 p ∧ Below w.heap.size w W2 ∧ W2.heap[w.heap.size + 1]? = some (.cells #[.int .i64 0, .int .i64 0, .slice none 0 0, .int .i64 0, .int .i64 0, .int .i64 0, .int .i64 0, .int .i64 0, .string ⟨#[]⟩, .string ⟨#[]⟩, .int .i64 0, .int .i64 0] 43 (0, 0))) := ⟨HB1.out.1.below hb2, HB1.out.2.1.below hb2, HB1.out.2.2.1.trans (hb2.mono HB1.out.2.2.1.size), (hb2.block _ (Array.getElem?_eq_some_iff.1 HB1.out.2.2.2).1).trans HB1.out.2.2.2⟩
 clear hb2 HB1
 obtain ⟨m0, m1, m2, m3, m4, m5, m6, m7⟩ := HB2.out.1.cells
 cases h4 : partB p.pure
 ·have HN : Hid (procOfP p.pure id = none) := procOf_not h4
  clear h4
  dsimp only
  repeat (first | (go_big_may; refine wpList_store_row rfl 43 (Operand.tmp 4) (Operand.tmp 17) rfl (w.heap.size + 1) _ _ #[.int .i64 0, .int .i64 0, .slice none 0 0, .int .i64 0, .int .i64 0, .int .i64 0, .int .i64 0, .int .i64 0, .string ⟨#[]⟩, .string ⟨#[]⟩, .int .i64 0, .int .i64 0] rfl rfl HB2.out.2.2.2 (by kernel_rfl) rfl (by kernel_rfl) ?_) | go_values | go_skip | go_guarded | go_step | go_upon | go_back)
  refine bodyPost_ret (v := .tuple #[.agg #[.int .i64 0, .int .i64 0, .slice none 0 0, .int .i64 0, .int .i64 0, .int .i64 0, .int .i64 0, .int .i64 0, .string ⟨#[]⟩, .string ⟨#[]⟩, .int .i64 0, .int .i64 0], .bool false]) (results_row_tmp Tryz.results72 _ _ (w.heap.size + 1) _ _ _ _ (by rfl) (setRow_heap _ _ _ _ _ _ HB2.out.2.2.2) Tryz.underlying43 rfl (by kernel_rfl)) rfl ?_
  exact procEnds_no HN.out (below_setRow HB2.out.2.2.1 (by omega) _)
 have H4 : Hid (partB p.pure = true) := h4
 clear h4
 rcases HPF.out with ⟨hz, hnf⟩ | ⟨n, y0, hz, hn, hfd⟩
 ·have HN : Hid (procOfP p.pure id = none) := by show procOfP _ _ = none; simp only [procOfP, H4.out, if_true]; exact hnf
  subst hz
  clear hnf HPF
  dsimp only
  repeat (first | (go_big_may; refine wpList_store_row rfl 43 (Operand.tmp 4) (Operand.tmp 17) rfl (w.heap.size + 1) _ _ #[.int .i64 0, .int .i64 0, .slice none 0 0, .int .i64 0, .int .i64 0, .int .i64 0, .int .i64 0, .int .i64 0, .string ⟨#[]⟩, .string ⟨#[]⟩, .int .i64 0, .int .i64 0] rfl rfl HB2.out.2.2.2 (by kernel_rfl) rfl (by kernel_rfl) ?_) | go_values | go_skip | go_guarded | go_step | go_upon | go_back)
  refine bodyPost_ret (v := .tuple #[.agg #[.int .i64 0, .int .i64 0, .slice none 0 0, .int .i64 0, .int .i64 0, .int .i64 0, .int .i64 0, .int .i64 0, .string ⟨#[]⟩, .string ⟨#[]⟩, .int .i64 0, .int .i64 0], .bool false]) (results_row_tmp Tryz.results72 _ _ (w.heap.size + 1) _ _ _ _ (by rfl) (setRow_heap _ _ _ _ _ _ HB2.out.2.2.2) Tryz.underlying43 rfl (by kernel_rfl)) rfl ?_
  exact procEnds_no HN.out (below_setRow HB2.out.2.2.1 (by omega) _)
 rw [Nat.zero_add] at hz
 subst hz
 have HN : Hid (procOfP p.pure id = some y0) := by show procOfP _ _ = _; simp only [procOfP, H4.out, if_true]; exact hfd
 have HY : Hid (p.pure.procs[n]? = some y0) := hn
 have hnl : n < p.procs.length := by have h5 := (List.getElem?_eq_some_iff.1 hn).1; simpa [PartD.pure] using h5
 have dz : decide ((n : Int) < 0) = false := decide_eq_false (by omega)
 clear hn hfd HPF
 go_wp2_with fail
 clear m0 m1 m2 m3 m4 m5 m6 m7
 refine (l3Copy_any p W2 HFT.out.1 HFT.out.2 HB2.out.2.1).mono ?_
 rintro e W3 ⟨q, rfl, hown, hpu, hb3⟩
 have hgo := HB2.out.2.2.1.size
 have hlt2 : w.heap.size + 1 < W2.heap.size := (Array.getElem?_eq_some_iff.1 HB2.out.2.2.2).1
 have HB3 : Hid (Below w.heap.size w W3 ∧ W3.heap[w.heap.size + 1]? = some (.cells #[.int .i64 0, .int .i64 0, .slice none 0 0, .int .i64 0, .int .i64 0, .int .i64 0, .int .i64 0, .int .i64 0, .string ⟨#[]⟩, .string ⟨#[]⟩, .int .i64 0, .int .i64 0] 43 (0, 0)) ∧ PartOwn W3 W2.heap.size q) := ⟨HB2.out.2.2.1.trans (hb3.mono hgo), (hb3.block _ hlt2).trans HB2.out.2.2.2, hown⟩
 have hql : q.procs.length = p.procs.length := by have h5 := congrArg (fun z => (PartP.procs z).length) hpu; simpa [PartD.pure] using h5
 obtain ⟨x, hx, hxy⟩ : ∃ x, q.procs[n]? = some x ∧ x.toProcP = y0 := by
  have h5 : (q.procs.map (·.toProcP))[n]? = some y0 := by have h6 := HY.out; rw [← hpu] at h6; exact h6
  rw [List.getElem?_map, Option.map_eq_some_iff] at h5
  exact h5
 obtain ⟨gs, ha, hat⟩ := proc_at hown.at.1 hx
 have HX : Hid (x.toProcP = y0 ∧ procN.Mine W3 W2.heap.size x) := ⟨hxy, hown.mineP x (List.mem_of_getElem? hx)⟩
 obtain ⟨d0, d1, d2, d3, d4, d5, d6, d7, d8, d9, d10, d11⟩ := hat
 have j0 : (0 : Int) ≤ (n : Int) := by omega
 have j1 : (n : Int) < (q.procs.length : Int) := by omega
 have hq8 : (PartD.cells q) = #[.int .i64 q.id, .int .i64 q.next, .slice q.procA q.procs.length q.procC, .slice q.semA q.sems.length q.semC, .slice q.eventA q.events.length q.eventC, .slice q.boardA q.boards.length q.boardC, .slice q.bufferA q.buffers.length q.bufferC, .slice q.portA q.ports.length q.portC] := rfl
 rw [hq8, ha]
 have hfd : ∀ W : World, Sem.run Tryz.prog (Instr.field 32 (.agg #[.int .i64 q.id, .int .i64 q.next, .slice (some ⟨gs, 0, none⟩) q.procs.length q.procC, .slice q.semA q.sems.length q.semC, .slice q.eventA q.events.length q.eventC, .slice q.boardA q.boards.length q.boardC, .slice q.bufferA q.buffers.length q.bufferC, .slice q.portA q.ports.length q.portC]) 2) W = .ok (.slice (some ⟨gs, 0, none⟩) q.procs.length q.procC) W := fun W => by kernel_rfl
 clear hq8 hown hpu hb3 hx hxy ha HB2 HY hql
 go_wp2_with (refine wpList_store_row rfl 43 (Operand.tmp 4) (Operand.tmp 23) rfl (w.heap.size + 1) _ _ #[.int .i64 x.id, .int .i64 x.prio, .slice x.progA x.prog.length x.progC, .int .i64 x.state, .int .i64 x.pc, .int .i64 x.left, .int .i64 x.wake, .int .i64 x.on, .string x.held, .string x.got, .int .i64 x.code, .int .i64 x.since] rfl rfl HB3.out.2.1 (by kernel_rfl) rfl (by kernel_rfl) ?_)
 refine bodyPost_ret (v := .tuple #[.agg #[.int .i64 x.id, .int .i64 x.prio, .slice x.progA x.prog.length x.progC, .int .i64 x.state, .int .i64 x.pc, .int .i64 x.left, .int .i64 x.wake, .int .i64 x.on, .string x.held, .string x.got, .int .i64 x.code, .int .i64 x.since], .bool true]) (results_row_tmp Tryz.results72 _ _ (w.heap.size + 1) _ _ _ _ (by rfl) (setRow_heap _ _ _ _ _ _ HB3.out.2.1) Tryz.underlying43 rfl (by kernel_rfl)) rfl ?_
 rw [HN.out]
 exact ⟨x, rfl, (HX.out.2.low (by omega)).same fun g hk => setRow_other _ _ _ _ (by have := (HX.out.2.lt hk).1; omega), HX.out.1, below_setRow HB3.out.1 (by omega) _⟩

theorem look_find (id : Int) (lp : List (ProcD × Nat)) : lookM (keysOf (fun x : ProcD => x.id) lp) id = (lp.find? (fun p => decide (p.1.id = id))).map (·.2) := by
 unfold lookM keysOf
 rw [List.find?_map, Option.map_map]
 have e : ((fun p : Int × Nat => p.1 == id) ∘ fun p : ProcD × Nat => (p.1.id, p.2)) = fun p => decide (p.1.id = id) := by
  funext p
  show (p.1.id == id) = _
  rw [Bool.beq_eq_decide_eq]
 rw [e]
 rfl
theorem find_pure (id : Int) (lp : List (ProcD × Nat)) : (lp.map fun p => p.1.toProcP).find? (fun x => decide (x.id = id)) = (lp.find? (fun p => decide (p.1.id = id))).map (fun p => p.1.toProcP) := by
 rw [List.find?_map]
 rfl

set_option maxRecDepth 100000 in
set_option maxHeartbeats 4000000 in
theorem implProcOf_any (p : PartD) (id : Int) (w : World) (hid : (Lit.int .i64 id).wf = true) (hg : p.Good w) :
  Calls Tryz.prog 30 #[.agg p.cells, .int .i64 id] w fun e w' => ProcEnds w (procOfP p.pure id) e w' := by
 have HB : Hid (p.Good ((w.alloc (.cells #[.int .i64 p.id, .int .i64 p.next, .slice p.procA p.procs.length p.procC, .slice p.semA p.sems.length p.semC, .slice p.eventA p.events.length p.eventC, .slice p.boardA p.boards.length p.boardC, .slice p.bufferA p.buffers.length p.bufferC, .slice p.portA p.ports.length p.portC] 32)).alloc (.cells #[.int .i64 0, .int .i64 0, .slice none 0 0, .int .i64 0, .int .i64 0, .int .i64 0, .int .i64 0, .int .i64 0, .string ⟨#[]⟩, .string ⟨#[]⟩, .int .i64 0, .int .i64 0] 43)) ∧ Below w.heap.size w ((w.alloc (.cells #[.int .i64 p.id, .int .i64 p.next, .slice p.procA p.procs.length p.procC, .slice p.semA p.sems.length p.semC, .slice p.eventA p.events.length p.eventC, .slice p.boardA p.boards.length p.boardC, .slice p.bufferA p.buffers.length p.bufferC, .slice p.portA p.ports.length p.portC] 32)).alloc (.cells #[.int .i64 0, .int .i64 0, .slice none 0 0, .int .i64 0, .int .i64 0, .int .i64 0, .int .i64 0, .int .i64 0, .string ⟨#[]⟩, .string ⟨#[]⟩, .int .i64 0, .int .i64 0] 43)) ∧ ((w.alloc (.cells #[.int .i64 p.id, .int .i64 p.next, .slice p.procA p.procs.length p.procC, .slice p.semA p.sems.length p.semC, .slice p.eventA p.events.length p.eventC, .slice p.boardA p.boards.length p.boardC, .slice p.bufferA p.buffers.length p.bufferC, .slice p.portA p.ports.length p.portC] 32)).alloc (.cells #[.int .i64 0, .int .i64 0, .slice none 0 0, .int .i64 0, .int .i64 0, .int .i64 0, .int .i64 0, .int .i64 0, .string ⟨#[]⟩, .string ⟨#[]⟩, .int .i64 0, .int .i64 0] 43)).heap[w.heap.size + 1]? = some (.cells #[.int .i64 0, .int .i64 0, .slice none 0 0, .int .i64 0, .int .i64 0, .int .i64 0, .int .i64 0, .int .i64 0, .string ⟨#[]⟩, .string ⟨#[]⟩, .int .i64 0, .int .i64 0] 43 (0, 0)) ∧ PartBox ((w.alloc (.cells #[.int .i64 p.id, .int .i64 p.next, .slice p.procA p.procs.length p.procC, .slice p.semA p.sems.length p.semC, .slice p.eventA p.events.length p.eventC, .slice p.boardA p.boards.length p.boardC, .slice p.bufferA p.buffers.length p.bufferC, .slice p.portA p.ports.length p.portC] 32)).alloc (.cells #[.int .i64 0, .int .i64 0, .slice none 0 0, .int .i64 0, .int .i64 0, .int .i64 0, .int .i64 0, .int .i64 0, .string ⟨#[]⟩, .string ⟨#[]⟩, .int .i64 0, .int .i64 0] 43)) w.heap.size p ∧ (Lit.int .i64 id).wf = true) := by
  have b1 : Below w.heap.size w ((w.alloc (.cells #[.int .i64 p.id, .int .i64 p.next, .slice p.procA p.procs.length p.procC, .slice p.semA p.sems.length p.semC, .slice p.eventA p.events.length p.eventC, .slice p.boardA p.boards.length p.boardC, .slice p.bufferA p.buffers.length p.bufferC, .slice p.portA p.ports.length p.portC] 32)).alloc (.cells #[.int .i64 0, .int .i64 0, .slice none 0 0, .int .i64 0, .int .i64 0, .int .i64 0, .int .i64 0, .int .i64 0, .string ⟨#[]⟩, .string ⟨#[]⟩, .int .i64 0, .int .i64 0] 43)) := ((Below.refl _ _).alloc (Nat.le_refl _) _).alloc (by simp) _
  exact ⟨hg.below b1, b1, heap_alloc2_new _ _ _, (heap_alloc_old _ _ (by simp)).trans (heap_alloc_new _ _), hid⟩
 clear hg hid
 obtain ⟨m0, m1, m2, m3, m4, m5, m6, m7⟩ := HB.out.2.2.2.1.cells
 unfold PartD.cells
 go_enter Tryz.func30, Tryz.ntmps30
 go_wp2_with fail
 generalize (w.alloc (.cells #[.int .i64 p.id, .int .i64 p.next, .slice p.procA p.procs.length p.procC, .slice p.semA p.sems.length p.semC, .slice p.eventA p.events.length p.eventC, .slice p.boardA p.boards.length p.boardC, .slice p.bufferA p.buffers.length p.bufferC, .slice p.portA p.ports.length p.portC] 32)).alloc (.cells #[.int .i64 0, .int .i64 0, .slice none 0 0, .int .i64 0, .int .i64 0, .int .i64 0, .int .i64 0, .int .i64 0, .string ⟨#[]⟩, .string ⟨#[]⟩, .int .i64 0, .int .i64 0] 43) = W at *
 clear m0 m1 m2 m3 m4 m5 m6 m7
 refine (opened_any p W HB.out.1).mono ?_
 rintro e w1 ⟨hb1, ⟨hno, rfl⟩ | ⟨hyes, o, S, rfl, hat, hpu⟩⟩
 ·have HZ : Hid (Below w.heap.size w w1 ∧ w1.heap[w.heap.size + 1]? = some (.cells #[.int .i64 0, .int .i64 0, .slice none 0 0, .int .i64 0, .int .i64 0, .int .i64 0, .int .i64 0, .int .i64 0, .string ⟨#[]⟩, .string ⟨#[]⟩, .int .i64 0, .int .i64 0] 43 (0, 0)) ∧ True) := ⟨HB.out.2.1.trans (hb1.mono HB.out.2.1.size), (hb1.block _ (Array.getElem?_eq_some_iff.1 HB.out.2.2.1).1).trans HB.out.2.2.1, trivial⟩
  have HN : Hid (procOfP p.pure id = none) := procOf_not (partB_false hno)
  clear hb1 hno
  dsimp only
  repeat (first | (go_big_may; refine wpList_store_row rfl 43 (Operand.tmp 4) (Operand.tmp 16) rfl (w.heap.size + 1) _ _ #[.int .i64 0, .int .i64 0, .slice none 0 0, .int .i64 0, .int .i64 0, .int .i64 0, .int .i64 0, .int .i64 0, .string ⟨#[]⟩, .string ⟨#[]⟩, .int .i64 0, .int .i64 0] rfl rfl HZ.out.2.1 (by kernel_rfl) rfl (by kernel_rfl) ?_) | go_values | go_skip | go_guarded | go_step | go_upon | go_back)
  refine bodyPost_ret (v := .tuple #[.agg #[.int .i64 0, .int .i64 0, .slice none 0 0, .int .i64 0, .int .i64 0, .int .i64 0, .int .i64 0, .int .i64 0, .string ⟨#[]⟩, .string ⟨#[]⟩, .int .i64 0, .int .i64 0], .bool false]) (results_row_tmp Tryz.results30 _ _ (w.heap.size + 1) _ _ _ _ (by rfl) (setRow_heap _ _ _ _ _ _ HZ.out.2.1) Tryz.underlying43 rfl (by kernel_rfl)) rfl ?_
  exact procEnds_no HN.out (below_setRow HZ.out.1 (by omega) _)
 have HZ : Hid (Below w.heap.size w w1 ∧ w1.heap[w.heap.size + 1]? = some (.cells #[.int .i64 0, .int .i64 0, .slice none 0 0, .int .i64 0, .int .i64 0, .int .i64 0, .int .i64 0, .int .i64 0, .string ⟨#[]⟩, .string ⟨#[]⟩, .int .i64 0, .int .i64 0] 43 (0, 0)) ∧ PartR S.pure ∧ OpenAt w1 W.heap.size o S ∧ S.pure = p.pure ∧ w.heap.size + 1 < W.heap.size) := ⟨HB.out.2.1.trans (hb1.mono HB.out.2.1.size), (hb1.block _ (Array.getElem?_eq_some_iff.1 HB.out.2.2.1).1).trans HB.out.2.2.1, by rw [hpu]; exact hyes, hat, hpu, (Array.getElem?_eq_some_iff.1 HB.out.2.2.1).1⟩
 have c3 : w1.cell? ⟨o, 3, none⟩ = some (.map (some S.q.bp)) := hat.opn.cell 3
 have hlk := hat.procs.map.look Tryz.underlying108 (zeroPtrProc w1) HB.out.2.2.2.2 true
 have hpo : procOfP p.pure id = (S.lp.find? (fun p => decide (p.1.id = id))).map (fun p => p.1.toProcP) := by
  rw [← hpu]
  simp only [procOfP, partB_true HZ.out.2.2.1, if_true]
  exact find_pure id S.lp
 rw [look_find] at hlk
 simp only [if_true] at hlk
 clear hb1 hyes hat hpu
 cases hfd : S.lp.find? (fun p => decide (p.1.id = id)) with
 | none =>
  rw [hfd] at hlk hpo
  simp only [Option.map_none, ptrO, Option.isSome_none] at hlk
  have HN : Hid (procOfP p.pure id = none) := hpo
  clear hfd hpo
  go_wp2_with (refine wpList_store_row rfl 43 (Operand.tmp 4) (Operand.tmp 29) rfl (w.heap.size + 1) _ _ #[.int .i64 0, .int .i64 0, .slice none 0 0, .int .i64 0, .int .i64 0, .int .i64 0, .int .i64 0, .int .i64 0, .string ⟨#[]⟩, .string ⟨#[]⟩, .int .i64 0, .int .i64 0] rfl rfl HZ.out.2.1 (by kernel_rfl) rfl (by kernel_rfl) ?_)
  refine bodyPost_ret (v := .tuple #[.agg #[.int .i64 0, .int .i64 0, .slice none 0 0, .int .i64 0, .int .i64 0, .int .i64 0, .int .i64 0, .int .i64 0, .string ⟨#[]⟩, .string ⟨#[]⟩, .int .i64 0, .int .i64 0], .bool false]) (results_row_tmp Tryz.results30 _ _ (w.heap.size + 1) _ _ _ _ (by rfl) (setRow_heap _ _ _ _ _ _ HZ.out.2.1) Tryz.underlying43 rfl (by kernel_rfl)) rfl ?_
  exact procEnds_no HN.out (below_setRow HZ.out.1 (by omega) _)
 | some r =>
  obtain ⟨x, g⟩ := r
  rw [hfd] at hlk hpo
  simp only [Option.map_some, ptrO, ptrV, Option.isSome_some] at hlk
  have hm : (x, g) ∈ S.lp := List.mem_of_find?_eq_some hfd
  have HN : Hid (procOfP p.pure id = some x.toProcP ∧ procN.Mine w1 W.heap.size x) := ⟨hpo, HZ.out.2.2.2.1.mineP (x, g) hm⟩
  obtain ⟨d0, d1, d2, d3, d4, d5, d6, d7, d8, d9, d10, d11⟩ := proc_cells (HZ.out.2.2.2.1.procs.box (x, g) hm)
  clear hfd hpo hm
  go_wp2_with (refine wpList_store_row rfl 43 (Operand.tmp 4) (Operand.tmp 32) rfl (w.heap.size + 1) _ _ #[.int .i64 x.id, .int .i64 x.prio, .slice x.progA x.prog.length x.progC, .int .i64 x.state, .int .i64 x.pc, .int .i64 x.left, .int .i64 x.wake, .int .i64 x.on, .string x.held, .string x.got, .int .i64 x.code, .int .i64 x.since] rfl rfl HZ.out.2.1 (by kernel_rfl) rfl (by kernel_rfl) ?_)
  refine bodyPost_ret (v := .tuple #[.agg #[.int .i64 x.id, .int .i64 x.prio, .slice x.progA x.prog.length x.progC, .int .i64 x.state, .int .i64 x.pc, .int .i64 x.left, .int .i64 x.wake, .int .i64 x.on, .string x.held, .string x.got, .int .i64 x.code, .int .i64 x.since], .bool true]) (results_row_tmp Tryz.results30 _ _ (w.heap.size + 1) _ _ _ _ (by rfl) (setRow_heap _ _ _ _ _ _ HZ.out.2.1) Tryz.underlying43 rfl (by kernel_rfl)) rfl ?_
  rw [HN.out.1]
  have hWs := HZ.out.2.2.2.2.2
  exact ⟨x, rfl, (HN.out.2.low (by omega)).same fun g hk => setRow_other _ _ _ _ (by have := (HN.out.2.lt hk).1; omega), rfl, below_setRow HZ.out.1 (by omega) _⟩

end Go.Proofs.YtkbcplnlehdjfaaGreat

/- One process of a partition is turned: what becomes of it, and of the memory. -/
namespace Go.Proofs.YtkbcplnlehdjfaaGreat
open Go.RowKit

/-- A partition, one of whose processes is turned, if it may be. -/
def turnP (id : Int) (f : ProcP → ProcP) (l : List ProcP) : List ProcP := l.map fun x => if x.id = id then f x else x
def turnedP (p : PartP) (id : Int) (ok : ProcP → Bool) (f : ProcP → ProcP) (nx : Int) : Option PartP :=
 if partB p then match p.procs.find? (fun x => decide (x.id = id)) with
  | some y => if ok y then some { p with next := nx, procs := turnP id f p.procs } else none
  | none => none
 else none
def zeroPart : PartP := ⟨0, 0, [], [], [], [], [], []⟩
/-- What such a call ends in. -/
def TurnRes (w : World) (r : Option PartP) (e : Ending) (w' : World) : Prop := ∃ q : PartD, e = .returned (.tuple #[.agg q.cells, .bool r.isSome]) ∧ PartOwn w' w.heap.size q ∧ q.pure = r.getD zeroPart ∧ Below w.heap.size w w'
theorem own_zero (w : World) (base : Nat) : PartOwn w base ⟨0, 0, [], none, 0, [], none, 0, [], none, 0, [], none, 0, [], none, 0, [], none, 0⟩ :=
 ⟨World.ownsRow_nil _ _ _ _, World.ownsRow_nil _ _ _ _, World.ownsRow_nil _ _ _ _, World.ownsRow_nil _ _ _ _, World.ownsRow_nil _ _ _ _, World.ownsRow_nil _ _ _ _, (fun x hx => by cases hx), (fun x hx => by cases hx), (fun x hx => by cases hx), by simp [PartD.blocks, blk]⟩
theorem turnRes_no {w w' : World} {r : Option PartP} (h : r = none) (hb : Below w.heap.size w w') : TurnRes w r (.returned (.tuple #[.agg #[.int .i64 0, .int .i64 0, .slice none 0 0, .slice none 0 0, .slice none 0 0, .slice none 0 0, .slice none 0 0, .slice none 0 0], .bool false])) w' := by
 subst h
 exact ⟨_, rfl, own_zero _ _, rfl, hb⟩
theorem turned_not {p : PartP} {id nx : Int} {ok : ProcP → Bool} {f : ProcP → ProcP} (h : partB p = false) : turnedP p id ok f nx = none := by simp [turnedP, h]
theorem turned_none {p : PartP} {id nx : Int} {ok : ProcP → Bool} {f : ProcP → ProcP} (h : p.procs.find? (fun x => decide (x.id = id)) = none) : turnedP p id ok f nx = none := by
 unfold turnedP
 split
 ·rw [h]
 ·rfl
theorem turned_no {p : PartP} {id nx : Int} {ok : ProcP → Bool} {f : ProcP → ProcP} {y : ProcP} (h : p.procs.find? (fun x => decide (x.id = id)) = some y) (ho : ok y = false) : turnedP p id ok f nx = none := by
 unfold turnedP
 split
 ·rw [h]; simp [ho]
 ·rfl
theorem turned_yes {p : PartP} {id nx : Int} {ok : ProcP → Bool} {f : ProcP → ProcP} {y : ProcP} (hp : partB p = true) (h : p.procs.find? (fun x => decide (x.id = id)) = some y) (ho : ok y = true) : turnedP p id ok f nx = some { p with next := nx, procs := turnP id f p.procs } := by
 unfold turnedP
 rw [if_pos hp, h]
 simp [ho]
/-- Numbers that rise are each there once. -/
theorem things_rise {α : Type} {num : α → Int} {ok : α → Bool} : ∀ {l : List α} {last : Int}, thingsB num ok last l = true → (∀ x ∈ l, last < num x) ∧ l.Pairwise (fun x y => num x < num y)
 | [], _, _ => ⟨(fun x hx => by cases hx), List.Pairwise.nil⟩
 | x :: r, last, h => by
  simp only [thingsB, Bool.and_eq_true, decide_eq_true_eq] at h
  obtain ⟨h1, h2⟩ := things_rise h.2
  refine ⟨fun y hy => ?_, List.Pairwise.cons (fun y hy => h1 y hy) h2⟩
  rcases List.mem_cons.1 hy with rfl | hy
  ·exact h.1.1.2
  ·have := h1 y hy; have := h.1.1.2; omega
/-- At its place it is the one of that number. -/
theorem turn_set {l : List ProcP} {f : ProcP → ProcP} {id : Int} {n : Nat} {y : ProcP} (hr : l.Pairwise (fun x y => x.id < y.id)) (hn : l[n]? = some y) (hy : y.id = id) : turnP id f l = l.set n (f y) := by
 induction l generalizing n with
 | nil => simp at hn
 | cons x r ih =>
  obtain ⟨h1, h2⟩ := List.pairwise_cons.1 hr
  cases n with
  | zero =>
   simp only [List.getElem?_cons_zero, Option.some.injEq] at hn
   subst hn
   have e : turnP id f r = r := by
    unfold turnP
    conv => rhs; rw [← List.map_id r]
    refine List.map_congr_left fun z hz => ?_
    rw [if_neg (by have := h1 z hz; omega)]
    rfl
   simp only [List.set_cons_zero]
   show (if x.id = id then f x else x) :: turnP id f r = _
   rw [if_pos hy, e]
  | succ n =>
   simp only [List.getElem?_cons_succ] at hn
   have hlt := h1 y (List.mem_of_getElem? hn)
   simp only [List.set_cons_succ]
   show (if x.id = id then f x else x) :: turnP id f r = _
   rw [if_neg (by omega), ih h2 hn]
theorem part_rise {p : PartP} (h : partB p = true) : p.procs.Pairwise (fun x y => x.id < y.id) := (things_rise ((partB_iff _).1 h).procs).2

/-- A process is short, and its numbers fit. -/
def SmallP (x : ProcP) : Prop := (x.prog.length ≤ 1048576 ∧ (∀ o ∈ x.prog, o.2.2.2.size ≤ 1048576) ∧ x.held.size ≤ 1048576 ∧ x.got.size ≤ 1048576) ∧ (Lit.int .i64 x.id).wf = true ∧ (Lit.int .i64 x.on).wf = true ∧ (Lit.int .i64 x.since).wf = true
theorem wf_next {p : PartP} (h : partB p = true) : (Lit.int .i64 p.next).wf = true := by
 have h2 := inB_iff.1 ((partB_iff _).1 h).next
 have e1 : IntKind.min .i64 ≤ 0 := by decide
 have e2 : 2000000000 ≤ IntKind.max .i64 := by decide
 simp only [Lit.wf, Bool.and_eq_true, decide_eq_true_eq]
 omega
theorem zero_small : zeroPart.Small := ⟨Nat.zero_le _, Nat.zero_le _, Nat.zero_le _, Nat.zero_le _, Nat.zero_le _, Nat.zero_le _, (fun x hx => by cases hx), (fun x hx => by cases hx), (fun x hx => by cases hx), (fun x hx => by cases hx), (fun x hx => by cases hx), (fun x hx => by cases hx)⟩
theorem turned_cases {p : PartP} {id nx : Int} {ok : ProcP → Bool} {f : ProcP → ProcP} : (turnedP p id ok f nx).getD zeroPart = zeroPart ∨ partB p = true ∧ (turnedP p id ok f nx).getD zeroPart = { p with next := nx, procs := turnP id f p.procs } := by
 unfold turnedP
 split
 ·rename_i hp
  split
  ·split
   ·exact .inr ⟨hp, rfl⟩
   ·exact .inl rfl
  ·exact .inl rfl
 ·exact .inl rfl
theorem turned_small {p : PartP} {id nx : Int} {ok : ProcP → Bool} {f : ProcP → ProcP} (h : p.Small) (hf : partB p = true → ∀ y ∈ p.procs, SmallP y → SmallP (f y)) : ((turnedP p id ok f nx).getD zeroPart).Small := by
 rcases turned_cases (p := p) (id := id) (nx := nx) (ok := ok) (f := f) with e | ⟨hp, e⟩
 ·rw [e]; exact zero_small
 ·rw [e]
  refine ⟨by simpa [turnP] using h.nProc, h.nSem, h.nEvent, h.nBoard, h.nBuffer, h.nPort, fun x hx => ?_, h.sems, h.events, h.boards, h.buffers, h.ports⟩
  obtain ⟨y, hy, rfl⟩ := List.mem_map.1 hx
  split
  ·exact hf hp y hy (h.procs y hy)
  ·exact h.procs y hy
theorem turned_total {p : PartP} {id nx : Int} {ok : ProcP → Bool} {f : ProcP → ProcP} (hf : ∀ y, (f y).prog = y.prog) : ((turnedP p id ok f nx).getD zeroPart).total ≤ p.total := by
 rcases turned_cases (p := p) (id := id) (nx := nx) (ok := ok) (f := f) with e | ⟨_, e⟩
 ·rw [e]; simp [PartP.total, zeroPart, sumL]
 ·rw [e]
  have h1 : (turnP id f p.procs).map (fun x : ProcP => x.prog.length) = p.procs.map (fun x : ProcP => x.prog.length) := by
   unfold turnP
   rw [List.map_map]
   refine List.map_congr_left fun x _ => ?_
   simp only [Function.comp_def]
   split
   ·rw [hf]
   ·rfl
  have h2 : (turnP id f p.procs).length = p.procs.length := by simp [turnP]
  simp only [PartP.total, sumL, h1, h2]
  exact Nat.le_refl _

/-- Some cells of one process are stored anew. -/
theorem PartOwn.setProc {w : World} {base n j gs : Nat} {q : PartD} {x y : ProcD} {vs : List Value} (h : PartOwn w base q) (hx : q.procs[n]? = some x) (ha : q.procA = some ⟨gs, 0, none⟩) (hy : y.prog = x.prog ∧ y.progA = x.progA ∧ y.progC = x.progC)
  (hj : j + vs.length ≤ 12) (h1 : ∀ r, r < vs.length → (procK.vals y)[j + r]? = vs[r]?) (h2 : ∀ r, r < 12 → ¬ (j ≤ r ∧ r < j + vs.length) → (procK.vals y)[r]? = (procK.vals x)[r]?) :
  PartOwn (setAllW w gs (n * 12 + j) vs) base ({ q with procs := q.procs.set n y } : PartD) ∧ KeptBut w (setAllW w gs (n * 12 + j) vs) [gs] ∧ ({ q with procs := q.procs.set n y } : PartD).blocks = q.blocks := by
 have hn : n < q.procs.length := (List.getElem?_eq_some_iff.1 hx).1
 have hsp := split_at hx
 have hset : q.procs.set n y = q.procs.take n ++ y :: q.procs.drop (n + 1) := by rw [List.set_eq_take_append_cons_drop, if_pos hn]
 have hl : (q.procs.take n).length = n := by rw [List.length_take]; omega
 have hkb : KeptBut w (setAllW w gs (n * 12 + j) vs) [gs] := KeptBut.set _ (by simp)
 have ho := h.procs
 rw [ha] at ho
 obtain ⟨g, hg, hrow⟩ := RowAt.of_owns (K := procK) ho (by omega)
 cases hg
 rw [hsp] at hrow
 have h5 := RowAt.part (K := procK) (x := x) (y := y) (j := j) (vs := vs) hrow hj h1 h2
 rw [hl, show procK.n = 12 from rfl, ← hset] at h5
 have h6 := h5.owns
 have hki : (q.procs.set n y).filterMap procN.kid = q.procs.filterMap procN.kid := by
  rw [hset]
  conv => rhs; rw [hsp]
  have e : procN.kid y = procN.kid x := by show y.progA.map (·.block) = x.progA.map (·.block); rw [hy.2.1]
  simp only [List.filterMap_append, List.filterMap_cons, e]
 have hmx : procN.Mine w base y := by
  have h7 := h.mineP x (List.mem_of_getElem? hx)
  show w.ownsRow base _ 4 (.slice y.progA y.prog.length y.progC) y.prog.length (opK.flat y.prog)
  rw [hy.1, hy.2.1, hy.2.2]
  exact h7
 have hgk : ∀ z ∈ q.procs, ∀ b, procN.kid z = some b → b ≠ gs := fun z hz b hb e => by
  have h8 := h.nodup
  rw [PartD.blocks, ha] at h8
  have h9 := (List.nodup_append.1 h8).2.2 gs (by simp [blk]) b (List.mem_append_left _ (List.mem_filterMap.2 ⟨z, hz, hb⟩))
  exact h9 e.symm
 have hsame : ∀ b, b ≠ gs → (setAllW w gs (n * 12 + j) vs).heap[b]? = w.heap[b]? := fun b hb => setAllW_other _ hb
 have hm : ∀ z ∈ q.procs.set n y, procN.Mine (setAllW w gs (n * 12 + j) vs) base z := fun z hz => by
  rcases List.mem_or_eq_of_mem_set hz with hz | rfl
  ·exact (h.mineP z hz).same fun b hb => hsame b (hgk z hz b hb)
  ·refine hmx.same fun b hb => hsame b (hgk x (List.mem_of_getElem? hx) b ?_)
   rw [← hb]
   show x.progA.map (·.block) = z.progA.map (·.block)
   rw [hy.2.1]
 have ht := h.turnProc (w' := setAllW w gs (n * 12 + j) vs) (l := q.procs.set n y) (by rw [ha]; rw [List.length_set] at h6; exact h6) (by simp) hm hki (hkb.mono (by simp [ha, blk]))
 exact ⟨ht.1, hkb, ht.2⟩

end Go.Proofs.YtkbcplnlehdjfaaGreat

/- What telling the things of a shelf ends in. -/
namespace Go.Proofs.YtkbcplnlehdjfaaGreat
open Go.RowKit

/-- A list of its own, in a new block, or nothing. -/
def ToldEnds {α : Type} (K : Kind α) (T : TypeId) (w : World) (l : List α) (e : Ending) (w' : World) : Prop := ∃ a cap, e = .returned (.slice a l.length cap) ∧ w'.ownsRow w.heap.size T K.n (.slice a l.length cap) l.length (K.flat l) ∧ Below w.heap.size w w'

end Go.Proofs.YtkbcplnlehdjfaaGreat

/- The things of a shelf of the kind Proc, told as a list. (Made by mktold.py.) -/
namespace Go.Proofs.YtkbcplnlehdjfaaGreat
open Go.RowKit Go.Maps

set_option maxRecDepth 100000 in
set_option maxHeartbeats 4000000 in
theorem toldProc_any (most : Int) (base b : Nat) (l : List (ProcD × Nat)) (w : World) (h : Shelf procVs (fun x : ProcD => x.id) 43 w base b l) (hl : l.length ≤ 1048576) (hwf : ∀ p ∈ (keysOf (fun x : ProcD => x.id) l), (Lit.int .i64 p.1).wf = true) :
  Calls Tryz.prog 165 #[.agg #[.int .i64 most, .map (some b)]] w fun e w' => ToldEnds procK 43 w (l.map (·.1)) e w' := by
 obtain ⟨i0, hi, e0⟩ := Option.map_eq_some_iff.1 rinfProc
 simp only [Prod.mk.injEq] at e0
 have HI : Hid (Tryz.prog.info? 43 = some i0 ∧ i0.zero = some _ ∧ i0.size = 12 ∧ i0.bytes = 128) := ⟨hi, e0⟩
 have H : Hid (Shelf procVs (fun x : ProcD => x.id) 43 (w.alloc (.cells #[.int .i64 most, .map (some b)] 110)) base b l ∧ (∀ p ∈ (keysOf (fun x : ProcD => x.id) l), (Lit.int .i64 p.1).wf = true) ∧ Below w.heap.size w (w.alloc (.cells #[.int .i64 most, .map (some b)] 110))) := ⟨h.below ((Below.refl _ _).alloc (Nat.le_refl _) _), hwf, (Below.refl _ _).alloc (Nat.le_refl _) _⟩
 have HK : Hid ((keysOf (fun x : ProcD => x.id) l).length = l.length) := keysOf_length l
 clear h hwf hi e0
 go_enter Tryz.func165, Tryz.ntmps165
 go_wp2_with fail
 generalize w.alloc (.cells #[.int .i64 most, .map (some b)] 110) = W at *
 refine (allProc_any most b (keysOf (fun x : ProcD => x.id) l) W H.out.1.map (by rw [HK.out]; exact hl) H.out.2.1).mono ?_
 rintro e w2 ⟨a, cap, rfl, hown, hb2⟩
 obtain ⟨a', cap', hv, hrow⟩ := own_form hown
 cases hv
 have HR : Hid (Row w2 a ((keysOf (fun x : ProcD => x.id) l).map fun p => ptrV p.2)) := hrow
 have HO : Hid (Shelf procVs (fun x : ProcD => x.id) 43 w2 base b l ∧ Below w.heap.size w w2) := ⟨H.out.1.below hb2, H.out.2.2.trans (hb2.mono H.out.2.2.size)⟩
 rw [HK.out]
 clear hown hrow hb2
 go_wp2_with fail
 go_loopw [3, 9] (fun t i wr => ∃ k : Nat, k ≤ l.length ∧ i = .int .i64 k ∧ ∃ a' cap', t = .slice a' k cap' ∧ Hid (wr.ownsRow w2.heap.size 43 12 (.slice a' k cap') k (procK.flat ((l.take k).map (·.1))) ∧ Below w2.heap.size w2 wr)) (fun _ i _ => l.length - (intOf i).toNat)
 case atStart => exact ⟨0, Nat.zero_le _, rfl, none, 0, rfl, ⟨World.ownsRow_nil _ _ _ _, Below.refl _ _⟩⟩
 case round =>
  obtain ⟨k, hk, rfl, a', cap', rfl, HA⟩ := hrel
  by_cases hlt : k < l.length
  ·have i0' : (0 : Int) ≤ (k : Int) := by omega
   have i1 : (k : Int) < (l.length : Int) := by omega
   obtain ⟨p, hp⟩ : ∃ p, l[k]? = some p := ⟨_, List.getElem?_eq_getElem hlt⟩
   obtain ⟨g, ha, hc⟩ := (HR.out.below HA.out.2) k (ptrV p.2) (by simp [keysOf, hp])
   subst ha
   unfold ptrV at hc
   have HP : Hid (l[k]? = some p) := hp
   obtain ⟨s0, s1, s2, s3, s4, s5, s6, s7, s8, s9, s10, s11⟩ := proc_cells ((HO.out.1.below HA.out.2).box p (List.mem_of_getElem? hp))
   have hsz3 := HA.out.2.size
   clear hp
   go_wp2_with (at_builtin; refine wpList_append_own_at _ rfl _ _ 25 rfl w2.heap.size 43 i0 _ 12 128 Tryz.underlying25 HI.out.1 HI.out.2.1 HI.out.2.2.1 HI.out.2.2.2 rfl (by decide) (.slice a' k cap') k (procK.flat ((l.take k).map (·.1))) rfl (HA.out.1.alloc _) ⟨wr.heap.size, 0, none⟩ 1 1 (procK.vals p.1) (by rfl) rfl (World.news_of_block (cs := #[.int .i64 p.1.id, .int .i64 p.1.prio, .slice p.1.progA p.1.prog.length p.1.progC, .int .i64 p.1.state, .int .i64 p.1.pc, .int .i64 p.1.left, .int .i64 p.1.wake, .int .i64 p.1.on, .string p.1.held, .string p.1.got, .int .i64 p.1.code, .int .i64 p.1.since]) (t := 43) (fr := (0, 0)) (heap_alloc_new wr _)) (by simp [procK, procVals, Value.oneCell']) (by unfold maxLen; omega) (by omega) (by simp; omega) ?_; intro v' w5 hown' hgrow hnil hloc; obtain ⟨a5, cap5, rfl, -⟩ := own_form hown'; have HN : Hid (w5.ownsRow w2.heap.size 43 12 (.slice a5 (k + 1) cap5) (k + 1) (procK.flat ((l.take (k + 1)).map (·.1))) ∧ Below w2.heap.size w2 w5) := ⟨by rw [take_up HP.out, List.map_append, procK.flat_append]; exact hown', (HA.out.2.alloc hsz3 _).grown hgrow (by simp; omega) (fun q hq => (HA.out.1.lt q hq).1)⟩; clear hown' hgrow hnil hloc)
   go_roundw
   case rel => exact ⟨k + 1, by omega, by go_num, a5, cap5, rfl, HN⟩
   case measure => simp [intOf]; omega
  ·have i1 : ¬ (k : Int) < (l.length : Int) := by omega
   have ek : k = l.length := by omega
   subst ek
   go_wp2
   go_ret
   refine ⟨a', cap', by rw [List.length_map]; rfl, ?_, HO.out.2.trans (HA.out.2.mono HO.out.2.size)⟩
   have h5 := own_low HA.out.1 HO.out.2.size
   rw [List.take_length] at h5
   rw [List.length_map]
   exact h5

end Go.Proofs.YtkbcplnlehdjfaaGreat

/- The things of a shelf of the kind Sem, in order. (Made by mkall.py.) -/
namespace Go.Proofs.YtkbcplnlehdjfaaGreat
open Go.RowKit Go.Maps Go.Sort Go.Shelf

theorem keysSem_call (mb : Option Nat) (W : World) : Calls Tryz.prog 223 #[.map mb] W fun e w' => e = .returned (.func (.func 239) #[] #[.pointer (some ⟨W.heap.size, 0, none⟩)]) ∧ w' = W.alloc (.cells #[.map mb] 111) :=
 (callsIn_wide (n := 5)).1 (AnyZI.keys_in Tryz.keysSem Fence.wide 5 trivial rfl mb W)

theorem sortedKeysSem_any (Bm b : Nat) (m : MapL) (W : World) (hBm : Bm < W.heap.size) (hc : W.cell? ⟨Bm, 0, none⟩ = some (.map (some b))) (h : MapIs W b m) (hm : m.length ≤ 1048576) :
  Calls Tryz.prog 220 #[.func (.func 239) #[] #[.pointer (some ⟨Bm, 0, none⟩)]] W fun e w' => ∃ v : Value, e = .returned v ∧ w'.ownsRow W.heap.size 2 1 v m.length (m.map fun p => .int .i64 p.1) ∧ Below W.heap.size W w' := by
 have hsz : Maps.size (mapD m) = m.length := size_map m
 have hseq : SeqGives Fence.wide 2 Tryz.prog 239 #[.pointer (some ⟨Bm, 0, none⟩)] encZ (fun ss => ss.Perm (intKeys (mapD m))) (Maps.size (mapD m)) W :=
  AnyZI.keys_gives (ρ := Tryz.keysSem_ren) { Tryz.keysSem with } Fence.wide _ trivial rfl (by omega) Bm b m.length (mapD m) W hBm hc h.1
 have cS := AnyZI.sorted_in Tryz.sortedA Fence.wide 5 trivial trivial trivial trivial rfl (by omega) (Tryz.sortsA _) (enters_of Tryz.func231 (by kernel_rfl) rfl) 239 #[.pointer (some ⟨Bm, 0, none⟩)] trivial (enters_of Tryz.func239 (by kernel_rfl) rfl) _ _ (by rw [hsz]; unfold maxLen; omega) (by rw [hsz]; omega) _ hseq
 change CallsIn _ _ Tryz.prog 220 _ _ _ at cS
 refine (callsIn_wide.1 cS).mono ?_
 rintro e w' ⟨v, ss, rfl, hS, hrow, hnil, hbel⟩
 refine ⟨v, rfl, ?_, hbel⟩
 rw [keys_sorted h.2 hS] at hrow
 have hl : ss.length = m.length := by
  rw [hS.length_eq, keys_int, List.length_map]
 rw [hl, List.map_map] at hrow
 exact hrow

theorem ptrInfoSem : (Tryz.prog.info? 221).map (fun i => (i.zero, i.size, i.bytes)) = some (some (.pointer none), 1, 8) := by kernel_rfl

set_option maxRecDepth 100000 in
set_option maxHeartbeats 2000000 in
theorem allSem_any (most : Int) (b : Nat) (m : MapL) (w : World) (h : MapIs w b m) (hm : m.length ≤ 1048576) (hwf : ∀ p ∈ m, (Lit.int .i64 p.1).wf = true) :
  Calls Tryz.prog 207 #[.agg #[.int .i64 most, .map (some b)]] w fun e w' => ∃ a cap, e = .returned (.slice a m.length cap) ∧ w'.ownsRow w.heap.size 221 1 (.slice a m.length cap) m.length (m.map fun p => ptrV p.2) ∧ Below w.heap.size w w' := by
 obtain ⟨i0, hi, e0⟩ := Option.map_eq_some_iff.1 ptrInfoSem
 simp only [Prod.mk.injEq] at e0
 have HI : Hid (Tryz.prog.info? 221 = some i0 ∧ i0.zero = some (.pointer none) ∧ i0.size = 1 ∧ i0.bytes = 8) := ⟨hi, e0⟩
 have HM : Hid (MapIs w b m ∧ ∀ p ∈ m, (Lit.int .i64 p.1).wf = true) := ⟨h, hwf⟩
 have hbl : b < w.heap.size := h.lt
 clear hi e0 h hwf
 go_enter Tryz.func207, Tryz.ntmps207
 go_wp2_with (go_at_call 223; refine (keysSem_call _ _).mono ?_; rintro e w' ⟨rfl, rfl⟩)
 refine (sortedKeysSem_any (w.heap.size + 1) b m _ (by simp) (by simp) (HM.out.1.below (((Below.refl _ w).alloc (Nat.le_refl _) _).alloc (by simp) _)) hm).mono ?_
 rintro e w2 ⟨v, rfl, hown, hb2⟩
 have HB2 : Hid (Below w.heap.size w w2) := (((Below.refl _ w).alloc (Nat.le_refl _) _).alloc (by simp) _).trans (hb2.mono (by simp; omega))
 have HS : Hid (w2.heap[w.heap.size]? = some (.cells #[.int .i64 most, .map (some b)] 113 (0, 0))) := (hb2.block _ (by simp; omega)).trans ((heap_alloc_old _ _ (by simp)).trans (heap_alloc_new _ _))
 obtain ⟨a, cap, hv, hrow⟩ := own_form hown
 have HR : Hid (Row w2 a (m.map fun p => .int .i64 p.1)) := hrow
 rw [hv]
 clear hv hown hrow hb2 v
 go_wp2_with fail
 go_loopw [3, 11] (fun l i wr => ∃ k : Nat, k ≤ m.length ∧ i = .int .i64 k ∧ ∃ a' cap', l = .slice a' k cap' ∧ Hid (wr.ownsRow w2.heap.size 221 1 (.slice a' k cap') k ((m.take k).map fun p => ptrV p.2) ∧ Below w2.heap.size w2 wr)) (fun _ i _ => m.length - (intOf i).toNat)
 case atStart => exact ⟨0, Nat.zero_le _, rfl, none, 0, rfl, ⟨World.ownsRow_nil _ _ _ _, Below.refl _ _⟩⟩
 case round =>
  obtain ⟨k, hk, rfl, a', cap', rfl, HO⟩ := hrel
  by_cases hlt : k < m.length
  ·have i0' : (0 : Int) ≤ (k : Int) := by omega
   have i1 : (k : Int) < (m.length : Int) := by omega
   obtain ⟨p, hp⟩ : ∃ p, m[k]? = some p := ⟨_, List.getElem?_eq_getElem hlt⟩
   have hpm := List.mem_of_getElem? hp
   obtain ⟨g, ha, hc⟩ := (HR.out.below HO.out.2) k (.int .i64 p.1) (by simp [hp])
   subst ha
   have hsz2 := HB2.out.size
   have hsz3 := HO.out.2.size
   have hmw : MapIs wr b m := HM.out.1.below (HB2.out.trans (HO.out.2.mono hsz2))
   have hlk := hmw.look Tryz.underlying111 (zeroPtrSem wr) (HM.out.2 p hpm) false
   rw [lookM_mem hmw.2 hpm] at hlk
   have hsw : wr.heap[w.heap.size]? = some (.cells #[.int .i64 most, .map (some b)] 113 (0, 0)) := (HO.out.2.block _ (Array.getElem?_eq_some_iff.1 HS.out).1).trans HS.out
   have s1 : wr.cell? ⟨w.heap.size, 1, none⟩ = some (.map (some b)) := by simp [World.cell?, hsw]
   have HP : Hid (m[k]? = some p) := hp
   simp only [ptrO, ptrV, Bool.false_eq_true, if_false] at hlk
   clear hp hpm hmw hsw
   go_wp2_with (at_builtin; refine wpList_append_own_at _ rfl _ _ 255 rfl w2.heap.size 221 i0 (.pointer none) 1 8 Tryz.underlying255 HI.out.1 HI.out.2.1 HI.out.2.2.1 HI.out.2.2.2 rfl (by decide) (.slice a' k cap') k ((m.take k).map fun p => ptrV p.2) rfl (HO.out.1.alloc _) ⟨wr.heap.size, 0, none⟩ 1 1 [.pointer (some ⟨p.2, 0, none⟩)] (by rfl) rfl (World.news_of_block (cs := #[.pointer (some ⟨p.2, 0, none⟩)]) (t := 221) (fr := (0, 0)) (heap_alloc_new wr _)) (by simp [Value.oneCell']) (by unfold maxLen; omega) (by omega) (by simp; omega) ?_; intro v' w5 hown' hgrow hnil hloc; obtain ⟨a5, cap5, rfl, -⟩ := own_form hown'; have HN : Hid (w5.ownsRow w2.heap.size 221 1 (.slice a5 (k + 1) cap5) (k + 1) ((m.take (k + 1)).map fun p => ptrV p.2) ∧ Below w2.heap.size w2 w5) := ⟨by rw [take_up HP.out, List.map_append]; exact hown', (HO.out.2.alloc hsz3 _).grown hgrow (by simp; omega) (fun q hq => (HO.out.1.lt q hq).1)⟩; clear hown' hgrow hnil hloc)
   go_roundw
   case rel => exact ⟨k + 1, by omega, by go_num, a5, cap5, rfl, HN⟩
   case measure => simp [intOf]; omega
  ·have i1 : ¬ (k : Int) < (m.length : Int) := by omega
   have e : k = m.length := by omega
   subst e
   go_wp2
   go_ret
   refine ⟨a', cap', rfl, ?_, HB2.out.trans (HO.out.2.mono HB2.out.size)⟩
   have := own_low HO.out.1 HB2.out.size
   rwa [List.take_length] at this

end Go.Proofs.YtkbcplnlehdjfaaGreat

/- The things of a shelf of the kind Sem, told as a list. (Made by mktold.py.) -/
namespace Go.Proofs.YtkbcplnlehdjfaaGreat
open Go.RowKit Go.Maps

set_option maxRecDepth 100000 in
set_option maxHeartbeats 4000000 in
theorem toldSem_any (most : Int) (base b : Nat) (l : List (SemD × Nat)) (w : World) (h : Shelf semVs (fun x : SemD => x.id) 49 w base b l) (hl : l.length ≤ 1048576) (hwf : ∀ p ∈ (keysOf (fun x : SemD => x.id) l), (Lit.int .i64 p.1).wf = true) :
  Calls Tryz.prog 166 #[.agg #[.int .i64 most, .map (some b)]] w fun e w' => ToldEnds semK 49 w (l.map (·.1)) e w' := by
 obtain ⟨i0, hi, e0⟩ := Option.map_eq_some_iff.1 rinfSem
 simp only [Prod.mk.injEq] at e0
 have HI : Hid (Tryz.prog.info? 49 = some i0 ∧ i0.zero = some _ ∧ i0.size = 3 ∧ i0.bytes = 24) := ⟨hi, e0⟩
 have H : Hid (Shelf semVs (fun x : SemD => x.id) 49 (w.alloc (.cells #[.int .i64 most, .map (some b)] 113)) base b l ∧ (∀ p ∈ (keysOf (fun x : SemD => x.id) l), (Lit.int .i64 p.1).wf = true) ∧ Below w.heap.size w (w.alloc (.cells #[.int .i64 most, .map (some b)] 113))) := ⟨h.below ((Below.refl _ _).alloc (Nat.le_refl _) _), hwf, (Below.refl _ _).alloc (Nat.le_refl _) _⟩
 have HK : Hid ((keysOf (fun x : SemD => x.id) l).length = l.length) := keysOf_length l
 clear h hwf hi e0
 go_enter Tryz.func166, Tryz.ntmps166
 go_wp2_with fail
 generalize w.alloc (.cells #[.int .i64 most, .map (some b)] 113) = W at *
 refine (allSem_any most b (keysOf (fun x : SemD => x.id) l) W H.out.1.map (by rw [HK.out]; exact hl) H.out.2.1).mono ?_
 rintro e w2 ⟨a, cap, rfl, hown, hb2⟩
 obtain ⟨a', cap', hv, hrow⟩ := own_form hown
 cases hv
 have HR : Hid (Row w2 a ((keysOf (fun x : SemD => x.id) l).map fun p => ptrV p.2)) := hrow
 have HO : Hid (Shelf semVs (fun x : SemD => x.id) 49 w2 base b l ∧ Below w.heap.size w w2) := ⟨H.out.1.below hb2, H.out.2.2.trans (hb2.mono H.out.2.2.size)⟩
 rw [HK.out]
 clear hown hrow hb2
 go_wp2_with fail
 go_loopw [3, 9] (fun t i wr => ∃ k : Nat, k ≤ l.length ∧ i = .int .i64 k ∧ ∃ a' cap', t = .slice a' k cap' ∧ Hid (wr.ownsRow w2.heap.size 49 3 (.slice a' k cap') k (semK.flat ((l.take k).map (·.1))) ∧ Below w2.heap.size w2 wr)) (fun _ i _ => l.length - (intOf i).toNat)
 case atStart => exact ⟨0, Nat.zero_le _, rfl, none, 0, rfl, ⟨World.ownsRow_nil _ _ _ _, Below.refl _ _⟩⟩
 case round =>
  obtain ⟨k, hk, rfl, a', cap', rfl, HA⟩ := hrel
  by_cases hlt : k < l.length
  ·have i0' : (0 : Int) ≤ (k : Int) := by omega
   have i1 : (k : Int) < (l.length : Int) := by omega
   obtain ⟨p, hp⟩ : ∃ p, l[k]? = some p := ⟨_, List.getElem?_eq_getElem hlt⟩
   obtain ⟨g, ha, hc⟩ := (HR.out.below HA.out.2) k (ptrV p.2) (by simp [keysOf, hp])
   subst ha
   unfold ptrV at hc
   have HP : Hid (l[k]? = some p) := hp
   obtain ⟨s0, s1, s2⟩ := sem_cells ((HO.out.1.below HA.out.2).box p (List.mem_of_getElem? hp))
   have hsz3 := HA.out.2.size
   clear hp
   go_wp2_with (at_builtin; refine wpList_append_own_at _ rfl _ _ 26 rfl w2.heap.size 49 i0 _ 3 24 Tryz.underlying26 HI.out.1 HI.out.2.1 HI.out.2.2.1 HI.out.2.2.2 rfl (by decide) (.slice a' k cap') k (semK.flat ((l.take k).map (·.1))) rfl (HA.out.1.alloc _) ⟨wr.heap.size, 0, none⟩ 1 1 (semK.vals p.1) (by rfl) rfl (World.news_of_block (cs := #[.int .i64 p.1.id, .int .i64 p.1.n, .int .i64 p.1.max]) (t := 49) (fr := (0, 0)) (heap_alloc_new wr _)) (by simp [semK, semVals, Value.oneCell']) (by unfold maxLen; omega) (by omega) (by simp; omega) ?_; intro v' w5 hown' hgrow hnil hloc; obtain ⟨a5, cap5, rfl, -⟩ := own_form hown'; have HN : Hid (w5.ownsRow w2.heap.size 49 3 (.slice a5 (k + 1) cap5) (k + 1) (semK.flat ((l.take (k + 1)).map (·.1))) ∧ Below w2.heap.size w2 w5) := ⟨by rw [take_up HP.out, List.map_append, semK.flat_append]; exact hown', (HA.out.2.alloc hsz3 _).grown hgrow (by simp; omega) (fun q hq => (HA.out.1.lt q hq).1)⟩; clear hown' hgrow hnil hloc)
   go_roundw
   case rel => exact ⟨k + 1, by omega, by go_num, a5, cap5, rfl, HN⟩
   case measure => simp [intOf]; omega
  ·have i1 : ¬ (k : Int) < (l.length : Int) := by omega
   have ek : k = l.length := by omega
   subst ek
   go_wp2
   go_ret
   refine ⟨a', cap', by rw [List.length_map]; rfl, ?_, HO.out.2.trans (HA.out.2.mono HO.out.2.size)⟩
   have h5 := own_low HA.out.1 HO.out.2.size
   rw [List.take_length] at h5
   rw [List.length_map]
   exact h5

end Go.Proofs.YtkbcplnlehdjfaaGreat

/- The things of a shelf of the kind Event, in order. (Made by mkall.py.) -/
namespace Go.Proofs.YtkbcplnlehdjfaaGreat
open Go.RowKit Go.Maps Go.Sort Go.Shelf

theorem keysEvent_call (mb : Option Nat) (W : World) : Calls Tryz.prog 224 #[.map mb] W fun e w' => e = .returned (.func (.func 240) #[] #[.pointer (some ⟨W.heap.size, 0, none⟩)]) ∧ w' = W.alloc (.cells #[.map mb] 114) :=
 (callsIn_wide (n := 5)).1 (AnyZI.keys_in Tryz.keysEvent Fence.wide 5 trivial rfl mb W)

theorem sortedKeysEvent_any (Bm b : Nat) (m : MapL) (W : World) (hBm : Bm < W.heap.size) (hc : W.cell? ⟨Bm, 0, none⟩ = some (.map (some b))) (h : MapIs W b m) (hm : m.length ≤ 1048576) :
  Calls Tryz.prog 220 #[.func (.func 240) #[] #[.pointer (some ⟨Bm, 0, none⟩)]] W fun e w' => ∃ v : Value, e = .returned v ∧ w'.ownsRow W.heap.size 2 1 v m.length (m.map fun p => .int .i64 p.1) ∧ Below W.heap.size W w' := by
 have hsz : Maps.size (mapD m) = m.length := size_map m
 have hseq : SeqGives Fence.wide 2 Tryz.prog 240 #[.pointer (some ⟨Bm, 0, none⟩)] encZ (fun ss => ss.Perm (intKeys (mapD m))) (Maps.size (mapD m)) W :=
  AnyZI.keys_gives (ρ := Tryz.keysEvent_ren) { Tryz.keysEvent with } Fence.wide _ trivial rfl (by omega) Bm b m.length (mapD m) W hBm hc h.1
 have cS := AnyZI.sorted_in Tryz.sortedA Fence.wide 5 trivial trivial trivial trivial rfl (by omega) (Tryz.sortsA _) (enters_of Tryz.func231 (by kernel_rfl) rfl) 240 #[.pointer (some ⟨Bm, 0, none⟩)] trivial (enters_of Tryz.func240 (by kernel_rfl) rfl) _ _ (by rw [hsz]; unfold maxLen; omega) (by rw [hsz]; omega) _ hseq
 change CallsIn _ _ Tryz.prog 220 _ _ _ at cS
 refine (callsIn_wide.1 cS).mono ?_
 rintro e w' ⟨v, ss, rfl, hS, hrow, hnil, hbel⟩
 refine ⟨v, rfl, ?_, hbel⟩
 rw [keys_sorted h.2 hS] at hrow
 have hl : ss.length = m.length := by
  rw [hS.length_eq, keys_int, List.length_map]
 rw [hl, List.map_map] at hrow
 exact hrow

theorem ptrInfoEvent : (Tryz.prog.info? 222).map (fun i => (i.zero, i.size, i.bytes)) = some (some (.pointer none), 1, 8) := by kernel_rfl

set_option maxRecDepth 100000 in
set_option maxHeartbeats 2000000 in
theorem allEvent_any (most : Int) (b : Nat) (m : MapL) (w : World) (h : MapIs w b m) (hm : m.length ≤ 1048576) (hwf : ∀ p ∈ m, (Lit.int .i64 p.1).wf = true) :
  Calls Tryz.prog 208 #[.agg #[.int .i64 most, .map (some b)]] w fun e w' => ∃ a cap, e = .returned (.slice a m.length cap) ∧ w'.ownsRow w.heap.size 222 1 (.slice a m.length cap) m.length (m.map fun p => ptrV p.2) ∧ Below w.heap.size w w' := by
 obtain ⟨i0, hi, e0⟩ := Option.map_eq_some_iff.1 ptrInfoEvent
 simp only [Prod.mk.injEq] at e0
 have HI : Hid (Tryz.prog.info? 222 = some i0 ∧ i0.zero = some (.pointer none) ∧ i0.size = 1 ∧ i0.bytes = 8) := ⟨hi, e0⟩
 have HM : Hid (MapIs w b m ∧ ∀ p ∈ m, (Lit.int .i64 p.1).wf = true) := ⟨h, hwf⟩
 have hbl : b < w.heap.size := h.lt
 clear hi e0 h hwf
 go_enter Tryz.func208, Tryz.ntmps208
 go_wp2_with (go_at_call 224; refine (keysEvent_call _ _).mono ?_; rintro e w' ⟨rfl, rfl⟩)
 refine (sortedKeysEvent_any (w.heap.size + 1) b m _ (by simp) (by simp) (HM.out.1.below (((Below.refl _ w).alloc (Nat.le_refl _) _).alloc (by simp) _)) hm).mono ?_
 rintro e w2 ⟨v, rfl, hown, hb2⟩
 have HB2 : Hid (Below w.heap.size w w2) := (((Below.refl _ w).alloc (Nat.le_refl _) _).alloc (by simp) _).trans (hb2.mono (by simp; omega))
 have HS : Hid (w2.heap[w.heap.size]? = some (.cells #[.int .i64 most, .map (some b)] 116 (0, 0))) := (hb2.block _ (by simp; omega)).trans ((heap_alloc_old _ _ (by simp)).trans (heap_alloc_new _ _))
 obtain ⟨a, cap, hv, hrow⟩ := own_form hown
 have HR : Hid (Row w2 a (m.map fun p => .int .i64 p.1)) := hrow
 rw [hv]
 clear hv hown hrow hb2 v
 go_wp2_with fail
 go_loopw [3, 11] (fun l i wr => ∃ k : Nat, k ≤ m.length ∧ i = .int .i64 k ∧ ∃ a' cap', l = .slice a' k cap' ∧ Hid (wr.ownsRow w2.heap.size 222 1 (.slice a' k cap') k ((m.take k).map fun p => ptrV p.2) ∧ Below w2.heap.size w2 wr)) (fun _ i _ => m.length - (intOf i).toNat)
 case atStart => exact ⟨0, Nat.zero_le _, rfl, none, 0, rfl, ⟨World.ownsRow_nil _ _ _ _, Below.refl _ _⟩⟩
 case round =>
  obtain ⟨k, hk, rfl, a', cap', rfl, HO⟩ := hrel
  by_cases hlt : k < m.length
  ·have i0' : (0 : Int) ≤ (k : Int) := by omega
   have i1 : (k : Int) < (m.length : Int) := by omega
   obtain ⟨p, hp⟩ : ∃ p, m[k]? = some p := ⟨_, List.getElem?_eq_getElem hlt⟩
   have hpm := List.mem_of_getElem? hp
   obtain ⟨g, ha, hc⟩ := (HR.out.below HO.out.2) k (.int .i64 p.1) (by simp [hp])
   subst ha
   have hsz2 := HB2.out.size
   have hsz3 := HO.out.2.size
   have hmw : MapIs wr b m := HM.out.1.below (HB2.out.trans (HO.out.2.mono hsz2))
   have hlk := hmw.look Tryz.underlying114 (zeroPtrEvent wr) (HM.out.2 p hpm) false
   rw [lookM_mem hmw.2 hpm] at hlk
   have hsw : wr.heap[w.heap.size]? = some (.cells #[.int .i64 most, .map (some b)] 116 (0, 0)) := (HO.out.2.block _ (Array.getElem?_eq_some_iff.1 HS.out).1).trans HS.out
   have s1 : wr.cell? ⟨w.heap.size, 1, none⟩ = some (.map (some b)) := by simp [World.cell?, hsw]
   have HP : Hid (m[k]? = some p) := hp
   simp only [ptrO, ptrV, Bool.false_eq_true, if_false] at hlk
   clear hp hpm hmw hsw
   go_wp2_with (at_builtin; refine wpList_append_own_at _ rfl _ _ 257 rfl w2.heap.size 222 i0 (.pointer none) 1 8 Tryz.underlying257 HI.out.1 HI.out.2.1 HI.out.2.2.1 HI.out.2.2.2 rfl (by decide) (.slice a' k cap') k ((m.take k).map fun p => ptrV p.2) rfl (HO.out.1.alloc _) ⟨wr.heap.size, 0, none⟩ 1 1 [.pointer (some ⟨p.2, 0, none⟩)] (by rfl) rfl (World.news_of_block (cs := #[.pointer (some ⟨p.2, 0, none⟩)]) (t := 222) (fr := (0, 0)) (heap_alloc_new wr _)) (by simp [Value.oneCell']) (by unfold maxLen; omega) (by omega) (by simp; omega) ?_; intro v' w5 hown' hgrow hnil hloc; obtain ⟨a5, cap5, rfl, -⟩ := own_form hown'; have HN : Hid (w5.ownsRow w2.heap.size 222 1 (.slice a5 (k + 1) cap5) (k + 1) ((m.take (k + 1)).map fun p => ptrV p.2) ∧ Below w2.heap.size w2 w5) := ⟨by rw [take_up HP.out, List.map_append]; exact hown', (HO.out.2.alloc hsz3 _).grown hgrow (by simp; omega) (fun q hq => (HO.out.1.lt q hq).1)⟩; clear hown' hgrow hnil hloc)
   go_roundw
   case rel => exact ⟨k + 1, by omega, by go_num, a5, cap5, rfl, HN⟩
   case measure => simp [intOf]; omega
  ·have i1 : ¬ (k : Int) < (m.length : Int) := by omega
   have e : k = m.length := by omega
   subst e
   go_wp2
   go_ret
   refine ⟨a', cap', rfl, ?_, HB2.out.trans (HO.out.2.mono HB2.out.size)⟩
   have := own_low HO.out.1 HB2.out.size
   rwa [List.take_length] at this

end Go.Proofs.YtkbcplnlehdjfaaGreat

/- The things of a shelf of the kind Event, told as a list. (Made by mktold.py.) -/
namespace Go.Proofs.YtkbcplnlehdjfaaGreat
open Go.RowKit Go.Maps

set_option maxRecDepth 100000 in
set_option maxHeartbeats 4000000 in
theorem toldEvent_any (most : Int) (base b : Nat) (l : List (EventD × Nat)) (w : World) (h : Shelf eventVs (fun x : EventD => x.id) 138 w base b l) (hl : l.length ≤ 1048576) (hwf : ∀ p ∈ (keysOf (fun x : EventD => x.id) l), (Lit.int .i64 p.1).wf = true) :
  Calls Tryz.prog 167 #[.agg #[.int .i64 most, .map (some b)]] w fun e w' => ToldEnds eventK 138 w (l.map (·.1)) e w' := by
 obtain ⟨i0, hi, e0⟩ := Option.map_eq_some_iff.1 rinfEvent
 simp only [Prod.mk.injEq] at e0
 have HI : Hid (Tryz.prog.info? 138 = some i0 ∧ i0.zero = some _ ∧ i0.size = 2 ∧ i0.bytes = 16) := ⟨hi, e0⟩
 have H : Hid (Shelf eventVs (fun x : EventD => x.id) 138 (w.alloc (.cells #[.int .i64 most, .map (some b)] 116)) base b l ∧ (∀ p ∈ (keysOf (fun x : EventD => x.id) l), (Lit.int .i64 p.1).wf = true) ∧ Below w.heap.size w (w.alloc (.cells #[.int .i64 most, .map (some b)] 116))) := ⟨h.below ((Below.refl _ _).alloc (Nat.le_refl _) _), hwf, (Below.refl _ _).alloc (Nat.le_refl _) _⟩
 have HK : Hid ((keysOf (fun x : EventD => x.id) l).length = l.length) := keysOf_length l
 clear h hwf hi e0
 go_enter Tryz.func167, Tryz.ntmps167
 go_wp2_with fail
 generalize w.alloc (.cells #[.int .i64 most, .map (some b)] 116) = W at *
 refine (allEvent_any most b (keysOf (fun x : EventD => x.id) l) W H.out.1.map (by rw [HK.out]; exact hl) H.out.2.1).mono ?_
 rintro e w2 ⟨a, cap, rfl, hown, hb2⟩
 obtain ⟨a', cap', hv, hrow⟩ := own_form hown
 cases hv
 have HR : Hid (Row w2 a ((keysOf (fun x : EventD => x.id) l).map fun p => ptrV p.2)) := hrow
 have HO : Hid (Shelf eventVs (fun x : EventD => x.id) 138 w2 base b l ∧ Below w.heap.size w w2) := ⟨H.out.1.below hb2, H.out.2.2.trans (hb2.mono H.out.2.2.size)⟩
 rw [HK.out]
 clear hown hrow hb2
 go_wp2_with fail
 go_loopw [3, 9] (fun t i wr => ∃ k : Nat, k ≤ l.length ∧ i = .int .i64 k ∧ ∃ a' cap', t = .slice a' k cap' ∧ Hid (wr.ownsRow w2.heap.size 138 2 (.slice a' k cap') k (eventK.flat ((l.take k).map (·.1))) ∧ Below w2.heap.size w2 wr)) (fun _ i _ => l.length - (intOf i).toNat)
 case atStart => exact ⟨0, Nat.zero_le _, rfl, none, 0, rfl, ⟨World.ownsRow_nil _ _ _ _, Below.refl _ _⟩⟩
 case round =>
  obtain ⟨k, hk, rfl, a', cap', rfl, HA⟩ := hrel
  by_cases hlt : k < l.length
  ·have i0' : (0 : Int) ≤ (k : Int) := by omega
   have i1 : (k : Int) < (l.length : Int) := by omega
   obtain ⟨p, hp⟩ : ∃ p, l[k]? = some p := ⟨_, List.getElem?_eq_getElem hlt⟩
   obtain ⟨g, ha, hc⟩ := (HR.out.below HA.out.2) k (ptrV p.2) (by simp [keysOf, hp])
   subst ha
   unfold ptrV at hc
   have HP : Hid (l[k]? = some p) := hp
   obtain ⟨s0, s1⟩ := event_cells ((HO.out.1.below HA.out.2).box p (List.mem_of_getElem? hp))
   have hsz3 := HA.out.2.size
   clear hp
   go_wp2_with (at_builtin; refine wpList_append_own_at _ rfl _ _ 27 rfl w2.heap.size 138 i0 _ 2 16 Tryz.underlying27 HI.out.1 HI.out.2.1 HI.out.2.2.1 HI.out.2.2.2 rfl (by decide) (.slice a' k cap') k (eventK.flat ((l.take k).map (·.1))) rfl (HA.out.1.alloc _) ⟨wr.heap.size, 0, none⟩ 1 1 (eventK.vals p.1) (by rfl) rfl (World.news_of_block (cs := #[.int .i64 p.1.id, .bool p.1.up]) (t := 138) (fr := (0, 0)) (heap_alloc_new wr _)) (by simp [eventK, eventVals, Value.oneCell']) (by unfold maxLen; omega) (by omega) (by simp; omega) ?_; intro v' w5 hown' hgrow hnil hloc; obtain ⟨a5, cap5, rfl, -⟩ := own_form hown'; have HN : Hid (w5.ownsRow w2.heap.size 138 2 (.slice a5 (k + 1) cap5) (k + 1) (eventK.flat ((l.take (k + 1)).map (·.1))) ∧ Below w2.heap.size w2 w5) := ⟨by rw [take_up HP.out, List.map_append, eventK.flat_append]; exact hown', (HA.out.2.alloc hsz3 _).grown hgrow (by simp; omega) (fun q hq => (HA.out.1.lt q hq).1)⟩; clear hown' hgrow hnil hloc)
   go_roundw
   case rel => exact ⟨k + 1, by omega, by go_num, a5, cap5, rfl, HN⟩
   case measure => simp [intOf]; omega
  ·have i1 : ¬ (k : Int) < (l.length : Int) := by omega
   have ek : k = l.length := by omega
   subst ek
   go_wp2
   go_ret
   refine ⟨a', cap', by rw [List.length_map]; rfl, ?_, HO.out.2.trans (HA.out.2.mono HO.out.2.size)⟩
   have h5 := own_low HA.out.1 HO.out.2.size
   rw [List.take_length] at h5
   rw [List.length_map]
   exact h5

end Go.Proofs.YtkbcplnlehdjfaaGreat

/- The things of a shelf of the kind Board, in order. (Made by mkall.py.) -/
namespace Go.Proofs.YtkbcplnlehdjfaaGreat
open Go.RowKit Go.Maps Go.Sort Go.Shelf

theorem keysBoard_call (mb : Option Nat) (W : World) : Calls Tryz.prog 225 #[.map mb] W fun e w' => e = .returned (.func (.func 241) #[] #[.pointer (some ⟨W.heap.size, 0, none⟩)]) ∧ w' = W.alloc (.cells #[.map mb] 117) :=
 (callsIn_wide (n := 5)).1 (AnyZI.keys_in Tryz.keysBoard Fence.wide 5 trivial rfl mb W)

theorem sortedKeysBoard_any (Bm b : Nat) (m : MapL) (W : World) (hBm : Bm < W.heap.size) (hc : W.cell? ⟨Bm, 0, none⟩ = some (.map (some b))) (h : MapIs W b m) (hm : m.length ≤ 1048576) :
  Calls Tryz.prog 220 #[.func (.func 241) #[] #[.pointer (some ⟨Bm, 0, none⟩)]] W fun e w' => ∃ v : Value, e = .returned v ∧ w'.ownsRow W.heap.size 2 1 v m.length (m.map fun p => .int .i64 p.1) ∧ Below W.heap.size W w' := by
 have hsz : Maps.size (mapD m) = m.length := size_map m
 have hseq : SeqGives Fence.wide 2 Tryz.prog 241 #[.pointer (some ⟨Bm, 0, none⟩)] encZ (fun ss => ss.Perm (intKeys (mapD m))) (Maps.size (mapD m)) W :=
  AnyZI.keys_gives (ρ := Tryz.keysBoard_ren) { Tryz.keysBoard with } Fence.wide _ trivial rfl (by omega) Bm b m.length (mapD m) W hBm hc h.1
 have cS := AnyZI.sorted_in Tryz.sortedA Fence.wide 5 trivial trivial trivial trivial rfl (by omega) (Tryz.sortsA _) (enters_of Tryz.func231 (by kernel_rfl) rfl) 241 #[.pointer (some ⟨Bm, 0, none⟩)] trivial (enters_of Tryz.func241 (by kernel_rfl) rfl) _ _ (by rw [hsz]; unfold maxLen; omega) (by rw [hsz]; omega) _ hseq
 change CallsIn _ _ Tryz.prog 220 _ _ _ at cS
 refine (callsIn_wide.1 cS).mono ?_
 rintro e w' ⟨v, ss, rfl, hS, hrow, hnil, hbel⟩
 refine ⟨v, rfl, ?_, hbel⟩
 rw [keys_sorted h.2 hS] at hrow
 have hl : ss.length = m.length := by
  rw [hS.length_eq, keys_int, List.length_map]
 rw [hl, List.map_map] at hrow
 exact hrow

theorem ptrInfoBoard : (Tryz.prog.info? 223).map (fun i => (i.zero, i.size, i.bytes)) = some (some (.pointer none), 1, 8) := by kernel_rfl

set_option maxRecDepth 100000 in
set_option maxHeartbeats 2000000 in
theorem allBoard_any (most : Int) (b : Nat) (m : MapL) (w : World) (h : MapIs w b m) (hm : m.length ≤ 1048576) (hwf : ∀ p ∈ m, (Lit.int .i64 p.1).wf = true) :
  Calls Tryz.prog 209 #[.agg #[.int .i64 most, .map (some b)]] w fun e w' => ∃ a cap, e = .returned (.slice a m.length cap) ∧ w'.ownsRow w.heap.size 223 1 (.slice a m.length cap) m.length (m.map fun p => ptrV p.2) ∧ Below w.heap.size w w' := by
 obtain ⟨i0, hi, e0⟩ := Option.map_eq_some_iff.1 ptrInfoBoard
 simp only [Prod.mk.injEq] at e0
 have HI : Hid (Tryz.prog.info? 223 = some i0 ∧ i0.zero = some (.pointer none) ∧ i0.size = 1 ∧ i0.bytes = 8) := ⟨hi, e0⟩
 have HM : Hid (MapIs w b m ∧ ∀ p ∈ m, (Lit.int .i64 p.1).wf = true) := ⟨h, hwf⟩
 have hbl : b < w.heap.size := h.lt
 clear hi e0 h hwf
 go_enter Tryz.func209, Tryz.ntmps209
 go_wp2_with (go_at_call 225; refine (keysBoard_call _ _).mono ?_; rintro e w' ⟨rfl, rfl⟩)
 refine (sortedKeysBoard_any (w.heap.size + 1) b m _ (by simp) (by simp) (HM.out.1.below (((Below.refl _ w).alloc (Nat.le_refl _) _).alloc (by simp) _)) hm).mono ?_
 rintro e w2 ⟨v, rfl, hown, hb2⟩
 have HB2 : Hid (Below w.heap.size w w2) := (((Below.refl _ w).alloc (Nat.le_refl _) _).alloc (by simp) _).trans (hb2.mono (by simp; omega))
 have HS : Hid (w2.heap[w.heap.size]? = some (.cells #[.int .i64 most, .map (some b)] 119 (0, 0))) := (hb2.block _ (by simp; omega)).trans ((heap_alloc_old _ _ (by simp)).trans (heap_alloc_new _ _))
 obtain ⟨a, cap, hv, hrow⟩ := own_form hown
 have HR : Hid (Row w2 a (m.map fun p => .int .i64 p.1)) := hrow
 rw [hv]
 clear hv hown hrow hb2 v
 go_wp2_with fail
 go_loopw [3, 11] (fun l i wr => ∃ k : Nat, k ≤ m.length ∧ i = .int .i64 k ∧ ∃ a' cap', l = .slice a' k cap' ∧ Hid (wr.ownsRow w2.heap.size 223 1 (.slice a' k cap') k ((m.take k).map fun p => ptrV p.2) ∧ Below w2.heap.size w2 wr)) (fun _ i _ => m.length - (intOf i).toNat)
 case atStart => exact ⟨0, Nat.zero_le _, rfl, none, 0, rfl, ⟨World.ownsRow_nil _ _ _ _, Below.refl _ _⟩⟩
 case round =>
  obtain ⟨k, hk, rfl, a', cap', rfl, HO⟩ := hrel
  by_cases hlt : k < m.length
  ·have i0' : (0 : Int) ≤ (k : Int) := by omega
   have i1 : (k : Int) < (m.length : Int) := by omega
   obtain ⟨p, hp⟩ : ∃ p, m[k]? = some p := ⟨_, List.getElem?_eq_getElem hlt⟩
   have hpm := List.mem_of_getElem? hp
   obtain ⟨g, ha, hc⟩ := (HR.out.below HO.out.2) k (.int .i64 p.1) (by simp [hp])
   subst ha
   have hsz2 := HB2.out.size
   have hsz3 := HO.out.2.size
   have hmw : MapIs wr b m := HM.out.1.below (HB2.out.trans (HO.out.2.mono hsz2))
   have hlk := hmw.look Tryz.underlying117 (zeroPtrBoard wr) (HM.out.2 p hpm) false
   rw [lookM_mem hmw.2 hpm] at hlk
   have hsw : wr.heap[w.heap.size]? = some (.cells #[.int .i64 most, .map (some b)] 119 (0, 0)) := (HO.out.2.block _ (Array.getElem?_eq_some_iff.1 HS.out).1).trans HS.out
   have s1 : wr.cell? ⟨w.heap.size, 1, none⟩ = some (.map (some b)) := by simp [World.cell?, hsw]
   have HP : Hid (m[k]? = some p) := hp
   simp only [ptrO, ptrV, Bool.false_eq_true, if_false] at hlk
   clear hp hpm hmw hsw
   go_wp2_with (at_builtin; refine wpList_append_own_at _ rfl _ _ 259 rfl w2.heap.size 223 i0 (.pointer none) 1 8 Tryz.underlying259 HI.out.1 HI.out.2.1 HI.out.2.2.1 HI.out.2.2.2 rfl (by decide) (.slice a' k cap') k ((m.take k).map fun p => ptrV p.2) rfl (HO.out.1.alloc _) ⟨wr.heap.size, 0, none⟩ 1 1 [.pointer (some ⟨p.2, 0, none⟩)] (by rfl) rfl (World.news_of_block (cs := #[.pointer (some ⟨p.2, 0, none⟩)]) (t := 223) (fr := (0, 0)) (heap_alloc_new wr _)) (by simp [Value.oneCell']) (by unfold maxLen; omega) (by omega) (by simp; omega) ?_; intro v' w5 hown' hgrow hnil hloc; obtain ⟨a5, cap5, rfl, -⟩ := own_form hown'; have HN : Hid (w5.ownsRow w2.heap.size 223 1 (.slice a5 (k + 1) cap5) (k + 1) ((m.take (k + 1)).map fun p => ptrV p.2) ∧ Below w2.heap.size w2 w5) := ⟨by rw [take_up HP.out, List.map_append]; exact hown', (HO.out.2.alloc hsz3 _).grown hgrow (by simp; omega) (fun q hq => (HO.out.1.lt q hq).1)⟩; clear hown' hgrow hnil hloc)
   go_roundw
   case rel => exact ⟨k + 1, by omega, by go_num, a5, cap5, rfl, HN⟩
   case measure => simp [intOf]; omega
  ·have i1 : ¬ (k : Int) < (m.length : Int) := by omega
   have e : k = m.length := by omega
   subst e
   go_wp2
   go_ret
   refine ⟨a', cap', rfl, ?_, HB2.out.trans (HO.out.2.mono HB2.out.size)⟩
   have := own_low HO.out.1 HB2.out.size
   rwa [List.take_length] at this

end Go.Proofs.YtkbcplnlehdjfaaGreat

/- The things of a shelf of the kind Board, told as a list. (Made by mktold.py.) -/
namespace Go.Proofs.YtkbcplnlehdjfaaGreat
open Go.RowKit Go.Maps

set_option maxRecDepth 100000 in
set_option maxHeartbeats 4000000 in
theorem toldBoard_any (most : Int) (base b : Nat) (l : List (BoardD × Nat)) (w : World) (h : Shelf boardVs (fun x : BoardD => x.id) 141 w base b l) (hl : l.length ≤ 1048576) (hwf : ∀ p ∈ (keysOf (fun x : BoardD => x.id) l), (Lit.int .i64 p.1).wf = true) :
  Calls Tryz.prog 168 #[.agg #[.int .i64 most, .map (some b)]] w fun e w' => ToldEnds boardK 141 w (l.map (·.1)) e w' := by
 obtain ⟨i0, hi, e0⟩ := Option.map_eq_some_iff.1 rinfBoard
 simp only [Prod.mk.injEq] at e0
 have HI : Hid (Tryz.prog.info? 141 = some i0 ∧ i0.zero = some _ ∧ i0.size = 3 ∧ i0.bytes = 32) := ⟨hi, e0⟩
 have H : Hid (Shelf boardVs (fun x : BoardD => x.id) 141 (w.alloc (.cells #[.int .i64 most, .map (some b)] 119)) base b l ∧ (∀ p ∈ (keysOf (fun x : BoardD => x.id) l), (Lit.int .i64 p.1).wf = true) ∧ Below w.heap.size w (w.alloc (.cells #[.int .i64 most, .map (some b)] 119))) := ⟨h.below ((Below.refl _ _).alloc (Nat.le_refl _) _), hwf, (Below.refl _ _).alloc (Nat.le_refl _) _⟩
 have HK : Hid ((keysOf (fun x : BoardD => x.id) l).length = l.length) := keysOf_length l
 clear h hwf hi e0
 go_enter Tryz.func168, Tryz.ntmps168
 go_wp2_with fail
 generalize w.alloc (.cells #[.int .i64 most, .map (some b)] 119) = W at *
 refine (allBoard_any most b (keysOf (fun x : BoardD => x.id) l) W H.out.1.map (by rw [HK.out]; exact hl) H.out.2.1).mono ?_
 rintro e w2 ⟨a, cap, rfl, hown, hb2⟩
 obtain ⟨a', cap', hv, hrow⟩ := own_form hown
 cases hv
 have HR : Hid (Row w2 a ((keysOf (fun x : BoardD => x.id) l).map fun p => ptrV p.2)) := hrow
 have HO : Hid (Shelf boardVs (fun x : BoardD => x.id) 141 w2 base b l ∧ Below w.heap.size w w2) := ⟨H.out.1.below hb2, H.out.2.2.trans (hb2.mono H.out.2.2.size)⟩
 rw [HK.out]
 clear hown hrow hb2
 go_wp2_with fail
 go_loopw [3, 9] (fun t i wr => ∃ k : Nat, k ≤ l.length ∧ i = .int .i64 k ∧ ∃ a' cap', t = .slice a' k cap' ∧ Hid (wr.ownsRow w2.heap.size 141 3 (.slice a' k cap') k (boardK.flat ((l.take k).map (·.1))) ∧ Below w2.heap.size w2 wr)) (fun _ i _ => l.length - (intOf i).toNat)
 case atStart => exact ⟨0, Nat.zero_le _, rfl, none, 0, rfl, ⟨World.ownsRow_nil _ _ _ _, Below.refl _ _⟩⟩
 case round =>
  obtain ⟨k, hk, rfl, a', cap', rfl, HA⟩ := hrel
  by_cases hlt : k < l.length
  ·have i0' : (0 : Int) ≤ (k : Int) := by omega
   have i1 : (k : Int) < (l.length : Int) := by omega
   obtain ⟨p, hp⟩ : ∃ p, l[k]? = some p := ⟨_, List.getElem?_eq_getElem hlt⟩
   obtain ⟨g, ha, hc⟩ := (HR.out.below HA.out.2) k (ptrV p.2) (by simp [keysOf, hp])
   subst ha
   unfold ptrV at hc
   have HP : Hid (l[k]? = some p) := hp
   obtain ⟨s0, s1, s2⟩ := board_cells ((HO.out.1.below HA.out.2).box p (List.mem_of_getElem? hp))
   have hsz3 := HA.out.2.size
   clear hp
   go_wp2_with (at_builtin; refine wpList_append_own_at _ rfl _ _ 28 rfl w2.heap.size 141 i0 _ 3 32 Tryz.underlying28 HI.out.1 HI.out.2.1 HI.out.2.2.1 HI.out.2.2.2 rfl (by decide) (.slice a' k cap') k (boardK.flat ((l.take k).map (·.1))) rfl (HA.out.1.alloc _) ⟨wr.heap.size, 0, none⟩ 1 1 (boardK.vals p.1) (by rfl) rfl (World.news_of_block (cs := #[.int .i64 p.1.id, .bool p.1.shown, .string p.1.text]) (t := 141) (fr := (0, 0)) (heap_alloc_new wr _)) (by simp [boardK, boardVals, Value.oneCell']) (by unfold maxLen; omega) (by omega) (by simp; omega) ?_; intro v' w5 hown' hgrow hnil hloc; obtain ⟨a5, cap5, rfl, -⟩ := own_form hown'; have HN : Hid (w5.ownsRow w2.heap.size 141 3 (.slice a5 (k + 1) cap5) (k + 1) (boardK.flat ((l.take (k + 1)).map (·.1))) ∧ Below w2.heap.size w2 w5) := ⟨by rw [take_up HP.out, List.map_append, boardK.flat_append]; exact hown', (HA.out.2.alloc hsz3 _).grown hgrow (by simp; omega) (fun q hq => (HA.out.1.lt q hq).1)⟩; clear hown' hgrow hnil hloc)
   go_roundw
   case rel => exact ⟨k + 1, by omega, by go_num, a5, cap5, rfl, HN⟩
   case measure => simp [intOf]; omega
  ·have i1 : ¬ (k : Int) < (l.length : Int) := by omega
   have ek : k = l.length := by omega
   subst ek
   go_wp2
   go_ret
   refine ⟨a', cap', by rw [List.length_map]; rfl, ?_, HO.out.2.trans (HA.out.2.mono HO.out.2.size)⟩
   have h5 := own_low HA.out.1 HO.out.2.size
   rw [List.take_length] at h5
   rw [List.length_map]
   exact h5

end Go.Proofs.YtkbcplnlehdjfaaGreat

/- The things of a shelf of the kind Buffer, in order. (Made by mkall.py.) -/
namespace Go.Proofs.YtkbcplnlehdjfaaGreat
open Go.RowKit Go.Maps Go.Sort Go.Shelf

theorem keysBuffer_call (mb : Option Nat) (W : World) : Calls Tryz.prog 226 #[.map mb] W fun e w' => e = .returned (.func (.func 242) #[] #[.pointer (some ⟨W.heap.size, 0, none⟩)]) ∧ w' = W.alloc (.cells #[.map mb] 120) :=
 (callsIn_wide (n := 5)).1 (AnyZI.keys_in Tryz.keysBuffer Fence.wide 5 trivial rfl mb W)

theorem sortedKeysBuffer_any (Bm b : Nat) (m : MapL) (W : World) (hBm : Bm < W.heap.size) (hc : W.cell? ⟨Bm, 0, none⟩ = some (.map (some b))) (h : MapIs W b m) (hm : m.length ≤ 1048576) :
  Calls Tryz.prog 220 #[.func (.func 242) #[] #[.pointer (some ⟨Bm, 0, none⟩)]] W fun e w' => ∃ v : Value, e = .returned v ∧ w'.ownsRow W.heap.size 2 1 v m.length (m.map fun p => .int .i64 p.1) ∧ Below W.heap.size W w' := by
 have hsz : Maps.size (mapD m) = m.length := size_map m
 have hseq : SeqGives Fence.wide 2 Tryz.prog 242 #[.pointer (some ⟨Bm, 0, none⟩)] encZ (fun ss => ss.Perm (intKeys (mapD m))) (Maps.size (mapD m)) W :=
  AnyZI.keys_gives (ρ := Tryz.keysBuffer_ren) { Tryz.keysBuffer with } Fence.wide _ trivial rfl (by omega) Bm b m.length (mapD m) W hBm hc h.1
 have cS := AnyZI.sorted_in Tryz.sortedA Fence.wide 5 trivial trivial trivial trivial rfl (by omega) (Tryz.sortsA _) (enters_of Tryz.func231 (by kernel_rfl) rfl) 242 #[.pointer (some ⟨Bm, 0, none⟩)] trivial (enters_of Tryz.func242 (by kernel_rfl) rfl) _ _ (by rw [hsz]; unfold maxLen; omega) (by rw [hsz]; omega) _ hseq
 change CallsIn _ _ Tryz.prog 220 _ _ _ at cS
 refine (callsIn_wide.1 cS).mono ?_
 rintro e w' ⟨v, ss, rfl, hS, hrow, hnil, hbel⟩
 refine ⟨v, rfl, ?_, hbel⟩
 rw [keys_sorted h.2 hS] at hrow
 have hl : ss.length = m.length := by
  rw [hS.length_eq, keys_int, List.length_map]
 rw [hl, List.map_map] at hrow
 exact hrow

theorem ptrInfoBuffer : (Tryz.prog.info? 224).map (fun i => (i.zero, i.size, i.bytes)) = some (some (.pointer none), 1, 8) := by kernel_rfl

set_option maxRecDepth 100000 in
set_option maxHeartbeats 2000000 in
theorem allBuffer_any (most : Int) (b : Nat) (m : MapL) (w : World) (h : MapIs w b m) (hm : m.length ≤ 1048576) (hwf : ∀ p ∈ m, (Lit.int .i64 p.1).wf = true) :
  Calls Tryz.prog 210 #[.agg #[.int .i64 most, .map (some b)]] w fun e w' => ∃ a cap, e = .returned (.slice a m.length cap) ∧ w'.ownsRow w.heap.size 224 1 (.slice a m.length cap) m.length (m.map fun p => ptrV p.2) ∧ Below w.heap.size w w' := by
 obtain ⟨i0, hi, e0⟩ := Option.map_eq_some_iff.1 ptrInfoBuffer
 simp only [Prod.mk.injEq] at e0
 have HI : Hid (Tryz.prog.info? 224 = some i0 ∧ i0.zero = some (.pointer none) ∧ i0.size = 1 ∧ i0.bytes = 8) := ⟨hi, e0⟩
 have HM : Hid (MapIs w b m ∧ ∀ p ∈ m, (Lit.int .i64 p.1).wf = true) := ⟨h, hwf⟩
 have hbl : b < w.heap.size := h.lt
 clear hi e0 h hwf
 go_enter Tryz.func210, Tryz.ntmps210
 go_wp2_with (go_at_call 226; refine (keysBuffer_call _ _).mono ?_; rintro e w' ⟨rfl, rfl⟩)
 refine (sortedKeysBuffer_any (w.heap.size + 1) b m _ (by simp) (by simp) (HM.out.1.below (((Below.refl _ w).alloc (Nat.le_refl _) _).alloc (by simp) _)) hm).mono ?_
 rintro e w2 ⟨v, rfl, hown, hb2⟩
 have HB2 : Hid (Below w.heap.size w w2) := (((Below.refl _ w).alloc (Nat.le_refl _) _).alloc (by simp) _).trans (hb2.mono (by simp; omega))
 have HS : Hid (w2.heap[w.heap.size]? = some (.cells #[.int .i64 most, .map (some b)] 122 (0, 0))) := (hb2.block _ (by simp; omega)).trans ((heap_alloc_old _ _ (by simp)).trans (heap_alloc_new _ _))
 obtain ⟨a, cap, hv, hrow⟩ := own_form hown
 have HR : Hid (Row w2 a (m.map fun p => .int .i64 p.1)) := hrow
 rw [hv]
 clear hv hown hrow hb2 v
 go_wp2_with fail
 go_loopw [3, 11] (fun l i wr => ∃ k : Nat, k ≤ m.length ∧ i = .int .i64 k ∧ ∃ a' cap', l = .slice a' k cap' ∧ Hid (wr.ownsRow w2.heap.size 224 1 (.slice a' k cap') k ((m.take k).map fun p => ptrV p.2) ∧ Below w2.heap.size w2 wr)) (fun _ i _ => m.length - (intOf i).toNat)
 case atStart => exact ⟨0, Nat.zero_le _, rfl, none, 0, rfl, ⟨World.ownsRow_nil _ _ _ _, Below.refl _ _⟩⟩
 case round =>
  obtain ⟨k, hk, rfl, a', cap', rfl, HO⟩ := hrel
  by_cases hlt : k < m.length
  ·have i0' : (0 : Int) ≤ (k : Int) := by omega
   have i1 : (k : Int) < (m.length : Int) := by omega
   obtain ⟨p, hp⟩ : ∃ p, m[k]? = some p := ⟨_, List.getElem?_eq_getElem hlt⟩
   have hpm := List.mem_of_getElem? hp
   obtain ⟨g, ha, hc⟩ := (HR.out.below HO.out.2) k (.int .i64 p.1) (by simp [hp])
   subst ha
   have hsz2 := HB2.out.size
   have hsz3 := HO.out.2.size
   have hmw : MapIs wr b m := HM.out.1.below (HB2.out.trans (HO.out.2.mono hsz2))
   have hlk := hmw.look Tryz.underlying120 (zeroPtrBuffer wr) (HM.out.2 p hpm) false
   rw [lookM_mem hmw.2 hpm] at hlk
   have hsw : wr.heap[w.heap.size]? = some (.cells #[.int .i64 most, .map (some b)] 122 (0, 0)) := (HO.out.2.block _ (Array.getElem?_eq_some_iff.1 HS.out).1).trans HS.out
   have s1 : wr.cell? ⟨w.heap.size, 1, none⟩ = some (.map (some b)) := by simp [World.cell?, hsw]
   have HP : Hid (m[k]? = some p) := hp
   simp only [ptrO, ptrV, Bool.false_eq_true, if_false] at hlk
   clear hp hpm hmw hsw
   go_wp2_with (at_builtin; refine wpList_append_own_at _ rfl _ _ 261 rfl w2.heap.size 224 i0 (.pointer none) 1 8 Tryz.underlying261 HI.out.1 HI.out.2.1 HI.out.2.2.1 HI.out.2.2.2 rfl (by decide) (.slice a' k cap') k ((m.take k).map fun p => ptrV p.2) rfl (HO.out.1.alloc _) ⟨wr.heap.size, 0, none⟩ 1 1 [.pointer (some ⟨p.2, 0, none⟩)] (by rfl) rfl (World.news_of_block (cs := #[.pointer (some ⟨p.2, 0, none⟩)]) (t := 224) (fr := (0, 0)) (heap_alloc_new wr _)) (by simp [Value.oneCell']) (by unfold maxLen; omega) (by omega) (by simp; omega) ?_; intro v' w5 hown' hgrow hnil hloc; obtain ⟨a5, cap5, rfl, -⟩ := own_form hown'; have HN : Hid (w5.ownsRow w2.heap.size 224 1 (.slice a5 (k + 1) cap5) (k + 1) ((m.take (k + 1)).map fun p => ptrV p.2) ∧ Below w2.heap.size w2 w5) := ⟨by rw [take_up HP.out, List.map_append]; exact hown', (HO.out.2.alloc hsz3 _).grown hgrow (by simp; omega) (fun q hq => (HO.out.1.lt q hq).1)⟩; clear hown' hgrow hnil hloc)
   go_roundw
   case rel => exact ⟨k + 1, by omega, by go_num, a5, cap5, rfl, HN⟩
   case measure => simp [intOf]; omega
  ·have i1 : ¬ (k : Int) < (m.length : Int) := by omega
   have e : k = m.length := by omega
   subst e
   go_wp2
   go_ret
   refine ⟨a', cap', rfl, ?_, HB2.out.trans (HO.out.2.mono HB2.out.size)⟩
   have := own_low HO.out.1 HB2.out.size
   rwa [List.take_length] at this

end Go.Proofs.YtkbcplnlehdjfaaGreat

/- The things of a shelf of the kind Buffer, told as a list. (Made by mktold.py.) -/
namespace Go.Proofs.YtkbcplnlehdjfaaGreat
open Go.RowKit Go.Maps

set_option maxRecDepth 100000 in
set_option maxHeartbeats 4000000 in
theorem toldBuffer_any (most : Int) (base b : Nat) (l : List (BufferD × Nat)) (w : World) (h : Shelf bufferVs (fun x : BufferD => x.id) 144 w base b l) (hl : l.length ≤ 1048576) (hwf : ∀ p ∈ (keysOf (fun x : BufferD => x.id) l), (Lit.int .i64 p.1).wf = true) :
  Calls Tryz.prog 169 #[.agg #[.int .i64 most, .map (some b)]] w fun e w' => ToldEnds bufferK 144 w (l.map (·.1)) e w' := by
 obtain ⟨i0, hi, e0⟩ := Option.map_eq_some_iff.1 rinfBuffer
 simp only [Prod.mk.injEq] at e0
 have HI : Hid (Tryz.prog.info? 144 = some i0 ∧ i0.zero = some _ ∧ i0.size = 3 ∧ i0.bytes = 40) := ⟨hi, e0⟩
 have H : Hid (Shelf bufferVs (fun x : BufferD => x.id) 144 (w.alloc (.cells #[.int .i64 most, .map (some b)] 122)) base b l ∧ (∀ p ∈ (keysOf (fun x : BufferD => x.id) l), (Lit.int .i64 p.1).wf = true) ∧ Below w.heap.size w (w.alloc (.cells #[.int .i64 most, .map (some b)] 122))) := ⟨h.below ((Below.refl _ _).alloc (Nat.le_refl _) _), hwf, (Below.refl _ _).alloc (Nat.le_refl _) _⟩
 have HK : Hid ((keysOf (fun x : BufferD => x.id) l).length = l.length) := keysOf_length l
 clear h hwf hi e0
 go_enter Tryz.func169, Tryz.ntmps169
 go_wp2_with fail
 generalize w.alloc (.cells #[.int .i64 most, .map (some b)] 122) = W at *
 refine (allBuffer_any most b (keysOf (fun x : BufferD => x.id) l) W H.out.1.map (by rw [HK.out]; exact hl) H.out.2.1).mono ?_
 rintro e w2 ⟨a, cap, rfl, hown, hb2⟩
 obtain ⟨a', cap', hv, hrow⟩ := own_form hown
 cases hv
 have HR : Hid (Row w2 a ((keysOf (fun x : BufferD => x.id) l).map fun p => ptrV p.2)) := hrow
 have HO : Hid (Shelf bufferVs (fun x : BufferD => x.id) 144 w2 base b l ∧ Below w.heap.size w w2) := ⟨H.out.1.below hb2, H.out.2.2.trans (hb2.mono H.out.2.2.size)⟩
 rw [HK.out]
 clear hown hrow hb2
 go_wp2_with fail
 go_loopw [3, 9] (fun t i wr => ∃ k : Nat, k ≤ l.length ∧ i = .int .i64 k ∧ ∃ a' cap', t = .slice a' k cap' ∧ Hid (wr.ownsRow w2.heap.size 144 3 (.slice a' k cap') k (bufferK.flat ((l.take k).map (·.1))) ∧ Below w2.heap.size w2 wr)) (fun _ i _ => l.length - (intOf i).toNat)
 case atStart => exact ⟨0, Nat.zero_le _, rfl, none, 0, rfl, ⟨World.ownsRow_nil _ _ _ _, Below.refl _ _⟩⟩
 case round =>
  obtain ⟨k, hk, rfl, a', cap', rfl, HA⟩ := hrel
  by_cases hlt : k < l.length
  ·have i0' : (0 : Int) ≤ (k : Int) := by omega
   have i1 : (k : Int) < (l.length : Int) := by omega
   obtain ⟨p, hp⟩ : ∃ p, l[k]? = some p := ⟨_, List.getElem?_eq_getElem hlt⟩
   obtain ⟨g, ha, hc⟩ := (HR.out.below HA.out.2) k (ptrV p.2) (by simp [keysOf, hp])
   subst ha
   unfold ptrV at hc
   have HP : Hid (l[k]? = some p) := hp
   obtain ⟨s0, s1, s2⟩ := buffer_cells ((HO.out.1.below HA.out.2).box p (List.mem_of_getElem? hp))
   have hsz3 := HA.out.2.size
   clear hp
   go_wp2_with (at_builtin; refine wpList_append_own_at _ rfl _ _ 29 rfl w2.heap.size 144 i0 _ 3 40 Tryz.underlying29 HI.out.1 HI.out.2.1 HI.out.2.2.1 HI.out.2.2.2 rfl (by decide) (.slice a' k cap') k (bufferK.flat ((l.take k).map (·.1))) rfl (HA.out.1.alloc _) ⟨wr.heap.size, 0, none⟩ 1 1 (bufferK.vals p.1) (by rfl) rfl (World.news_of_block (cs := #[.int .i64 p.1.id, .int .i64 p.1.max, .slice p.1.itemsA p.1.items.length p.1.itemsC]) (t := 144) (fr := (0, 0)) (heap_alloc_new wr _)) (by simp [bufferK, bufferVals, Value.oneCell']) (by unfold maxLen; omega) (by omega) (by simp; omega) ?_; intro v' w5 hown' hgrow hnil hloc; obtain ⟨a5, cap5, rfl, -⟩ := own_form hown'; have HN : Hid (w5.ownsRow w2.heap.size 144 3 (.slice a5 (k + 1) cap5) (k + 1) (bufferK.flat ((l.take (k + 1)).map (·.1))) ∧ Below w2.heap.size w2 w5) := ⟨by rw [take_up HP.out, List.map_append, bufferK.flat_append]; exact hown', (HA.out.2.alloc hsz3 _).grown hgrow (by simp; omega) (fun q hq => (HA.out.1.lt q hq).1)⟩; clear hown' hgrow hnil hloc)
   go_roundw
   case rel => exact ⟨k + 1, by omega, by go_num, a5, cap5, rfl, HN⟩
   case measure => simp [intOf]; omega
  ·have i1 : ¬ (k : Int) < (l.length : Int) := by omega
   have ek : k = l.length := by omega
   subst ek
   go_wp2
   go_ret
   refine ⟨a', cap', by rw [List.length_map]; rfl, ?_, HO.out.2.trans (HA.out.2.mono HO.out.2.size)⟩
   have h5 := own_low HA.out.1 HO.out.2.size
   rw [List.take_length] at h5
   rw [List.length_map]
   exact h5

end Go.Proofs.YtkbcplnlehdjfaaGreat

/- The things of a shelf of the kind Port, in order. (Made by mkall.py.) -/
namespace Go.Proofs.YtkbcplnlehdjfaaGreat
open Go.RowKit Go.Maps Go.Sort Go.Shelf

theorem keysPort_call (mb : Option Nat) (W : World) : Calls Tryz.prog 227 #[.map mb] W fun e w' => e = .returned (.func (.func 243) #[] #[.pointer (some ⟨W.heap.size, 0, none⟩)]) ∧ w' = W.alloc (.cells #[.map mb] 123) :=
 (callsIn_wide (n := 5)).1 (AnyZI.keys_in Tryz.keysPort Fence.wide 5 trivial rfl mb W)

theorem sortedKeysPort_any (Bm b : Nat) (m : MapL) (W : World) (hBm : Bm < W.heap.size) (hc : W.cell? ⟨Bm, 0, none⟩ = some (.map (some b))) (h : MapIs W b m) (hm : m.length ≤ 1048576) :
  Calls Tryz.prog 220 #[.func (.func 243) #[] #[.pointer (some ⟨Bm, 0, none⟩)]] W fun e w' => ∃ v : Value, e = .returned v ∧ w'.ownsRow W.heap.size 2 1 v m.length (m.map fun p => .int .i64 p.1) ∧ Below W.heap.size W w' := by
 have hsz : Maps.size (mapD m) = m.length := size_map m
 have hseq : SeqGives Fence.wide 2 Tryz.prog 243 #[.pointer (some ⟨Bm, 0, none⟩)] encZ (fun ss => ss.Perm (intKeys (mapD m))) (Maps.size (mapD m)) W :=
  AnyZI.keys_gives (ρ := Tryz.keysPort_ren) { Tryz.keysPort with } Fence.wide _ trivial rfl (by omega) Bm b m.length (mapD m) W hBm hc h.1
 have cS := AnyZI.sorted_in Tryz.sortedA Fence.wide 5 trivial trivial trivial trivial rfl (by omega) (Tryz.sortsA _) (enters_of Tryz.func231 (by kernel_rfl) rfl) 243 #[.pointer (some ⟨Bm, 0, none⟩)] trivial (enters_of Tryz.func243 (by kernel_rfl) rfl) _ _ (by rw [hsz]; unfold maxLen; omega) (by rw [hsz]; omega) _ hseq
 change CallsIn _ _ Tryz.prog 220 _ _ _ at cS
 refine (callsIn_wide.1 cS).mono ?_
 rintro e w' ⟨v, ss, rfl, hS, hrow, hnil, hbel⟩
 refine ⟨v, rfl, ?_, hbel⟩
 rw [keys_sorted h.2 hS] at hrow
 have hl : ss.length = m.length := by
  rw [hS.length_eq, keys_int, List.length_map]
 rw [hl, List.map_map] at hrow
 exact hrow

theorem ptrInfoPort : (Tryz.prog.info? 225).map (fun i => (i.zero, i.size, i.bytes)) = some (some (.pointer none), 1, 8) := by kernel_rfl

set_option maxRecDepth 100000 in
set_option maxHeartbeats 2000000 in
theorem allPort_any (most : Int) (b : Nat) (m : MapL) (w : World) (h : MapIs w b m) (hm : m.length ≤ 1048576) (hwf : ∀ p ∈ m, (Lit.int .i64 p.1).wf = true) :
  Calls Tryz.prog 211 #[.agg #[.int .i64 most, .map (some b)]] w fun e w' => ∃ a cap, e = .returned (.slice a m.length cap) ∧ w'.ownsRow w.heap.size 225 1 (.slice a m.length cap) m.length (m.map fun p => ptrV p.2) ∧ Below w.heap.size w w' := by
 obtain ⟨i0, hi, e0⟩ := Option.map_eq_some_iff.1 ptrInfoPort
 simp only [Prod.mk.injEq] at e0
 have HI : Hid (Tryz.prog.info? 225 = some i0 ∧ i0.zero = some (.pointer none) ∧ i0.size = 1 ∧ i0.bytes = 8) := ⟨hi, e0⟩
 have HM : Hid (MapIs w b m ∧ ∀ p ∈ m, (Lit.int .i64 p.1).wf = true) := ⟨h, hwf⟩
 have hbl : b < w.heap.size := h.lt
 clear hi e0 h hwf
 go_enter Tryz.func211, Tryz.ntmps211
 go_wp2_with (go_at_call 227; refine (keysPort_call _ _).mono ?_; rintro e w' ⟨rfl, rfl⟩)
 refine (sortedKeysPort_any (w.heap.size + 1) b m _ (by simp) (by simp) (HM.out.1.below (((Below.refl _ w).alloc (Nat.le_refl _) _).alloc (by simp) _)) hm).mono ?_
 rintro e w2 ⟨v, rfl, hown, hb2⟩
 have HB2 : Hid (Below w.heap.size w w2) := (((Below.refl _ w).alloc (Nat.le_refl _) _).alloc (by simp) _).trans (hb2.mono (by simp; omega))
 have HS : Hid (w2.heap[w.heap.size]? = some (.cells #[.int .i64 most, .map (some b)] 125 (0, 0))) := (hb2.block _ (by simp; omega)).trans ((heap_alloc_old _ _ (by simp)).trans (heap_alloc_new _ _))
 obtain ⟨a, cap, hv, hrow⟩ := own_form hown
 have HR : Hid (Row w2 a (m.map fun p => .int .i64 p.1)) := hrow
 rw [hv]
 clear hv hown hrow hb2 v
 go_wp2_with fail
 go_loopw [3, 11] (fun l i wr => ∃ k : Nat, k ≤ m.length ∧ i = .int .i64 k ∧ ∃ a' cap', l = .slice a' k cap' ∧ Hid (wr.ownsRow w2.heap.size 225 1 (.slice a' k cap') k ((m.take k).map fun p => ptrV p.2) ∧ Below w2.heap.size w2 wr)) (fun _ i _ => m.length - (intOf i).toNat)
 case atStart => exact ⟨0, Nat.zero_le _, rfl, none, 0, rfl, ⟨World.ownsRow_nil _ _ _ _, Below.refl _ _⟩⟩
 case round =>
  obtain ⟨k, hk, rfl, a', cap', rfl, HO⟩ := hrel
  by_cases hlt : k < m.length
  ·have i0' : (0 : Int) ≤ (k : Int) := by omega
   have i1 : (k : Int) < (m.length : Int) := by omega
   obtain ⟨p, hp⟩ : ∃ p, m[k]? = some p := ⟨_, List.getElem?_eq_getElem hlt⟩
   have hpm := List.mem_of_getElem? hp
   obtain ⟨g, ha, hc⟩ := (HR.out.below HO.out.2) k (.int .i64 p.1) (by simp [hp])
   subst ha
   have hsz2 := HB2.out.size
   have hsz3 := HO.out.2.size
   have hmw : MapIs wr b m := HM.out.1.below (HB2.out.trans (HO.out.2.mono hsz2))
   have hlk := hmw.look Tryz.underlying123 (zeroPtrPort wr) (HM.out.2 p hpm) false
   rw [lookM_mem hmw.2 hpm] at hlk
   have hsw : wr.heap[w.heap.size]? = some (.cells #[.int .i64 most, .map (some b)] 125 (0, 0)) := (HO.out.2.block _ (Array.getElem?_eq_some_iff.1 HS.out).1).trans HS.out
   have s1 : wr.cell? ⟨w.heap.size, 1, none⟩ = some (.map (some b)) := by simp [World.cell?, hsw]
   have HP : Hid (m[k]? = some p) := hp
   simp only [ptrO, ptrV, Bool.false_eq_true, if_false] at hlk
   clear hp hpm hmw hsw
   go_wp2_with (at_builtin; refine wpList_append_own_at _ rfl _ _ 263 rfl w2.heap.size 225 i0 (.pointer none) 1 8 Tryz.underlying263 HI.out.1 HI.out.2.1 HI.out.2.2.1 HI.out.2.2.2 rfl (by decide) (.slice a' k cap') k ((m.take k).map fun p => ptrV p.2) rfl (HO.out.1.alloc _) ⟨wr.heap.size, 0, none⟩ 1 1 [.pointer (some ⟨p.2, 0, none⟩)] (by rfl) rfl (World.news_of_block (cs := #[.pointer (some ⟨p.2, 0, none⟩)]) (t := 225) (fr := (0, 0)) (heap_alloc_new wr _)) (by simp [Value.oneCell']) (by unfold maxLen; omega) (by omega) (by simp; omega) ?_; intro v' w5 hown' hgrow hnil hloc; obtain ⟨a5, cap5, rfl, -⟩ := own_form hown'; have HN : Hid (w5.ownsRow w2.heap.size 225 1 (.slice a5 (k + 1) cap5) (k + 1) ((m.take (k + 1)).map fun p => ptrV p.2) ∧ Below w2.heap.size w2 w5) := ⟨by rw [take_up HP.out, List.map_append]; exact hown', (HO.out.2.alloc hsz3 _).grown hgrow (by simp; omega) (fun q hq => (HO.out.1.lt q hq).1)⟩; clear hown' hgrow hnil hloc)
   go_roundw
   case rel => exact ⟨k + 1, by omega, by go_num, a5, cap5, rfl, HN⟩
   case measure => simp [intOf]; omega
  ·have i1 : ¬ (k : Int) < (m.length : Int) := by omega
   have e : k = m.length := by omega
   subst e
   go_wp2
   go_ret
   refine ⟨a', cap', rfl, ?_, HB2.out.trans (HO.out.2.mono HB2.out.size)⟩
   have := own_low HO.out.1 HB2.out.size
   rwa [List.take_length] at this

end Go.Proofs.YtkbcplnlehdjfaaGreat

/- The things of a shelf of the kind Port, told as a list. (Made by mktold.py.) -/
namespace Go.Proofs.YtkbcplnlehdjfaaGreat
open Go.RowKit Go.Maps

set_option maxRecDepth 100000 in
set_option maxHeartbeats 4000000 in
theorem toldPort_any (most : Int) (base b : Nat) (l : List (PortD × Nat)) (w : World) (h : Shelf portVs (fun x : PortD => x.id) 61 w base b l) (hl : l.length ≤ 1048576) (hwf : ∀ p ∈ (keysOf (fun x : PortD => x.id) l), (Lit.int .i64 p.1).wf = true) :
  Calls Tryz.prog 170 #[.agg #[.int .i64 most, .map (some b)]] w fun e w' => ToldEnds portK 61 w (l.map (·.1)) e w' := by
 obtain ⟨i0, hi, e0⟩ := Option.map_eq_some_iff.1 rinfPort
 simp only [Prod.mk.injEq] at e0
 have HI : Hid (Tryz.prog.info? 61 = some i0 ∧ i0.zero = some _ ∧ i0.size = 5 ∧ i0.bytes = 48) := ⟨hi, e0⟩
 have H : Hid (Shelf portVs (fun x : PortD => x.id) 61 (w.alloc (.cells #[.int .i64 most, .map (some b)] 125)) base b l ∧ (∀ p ∈ (keysOf (fun x : PortD => x.id) l), (Lit.int .i64 p.1).wf = true) ∧ Below w.heap.size w (w.alloc (.cells #[.int .i64 most, .map (some b)] 125))) := ⟨h.below ((Below.refl _ _).alloc (Nat.le_refl _) _), hwf, (Below.refl _ _).alloc (Nat.le_refl _) _⟩
 have HK : Hid ((keysOf (fun x : PortD => x.id) l).length = l.length) := keysOf_length l
 clear h hwf hi e0
 go_enter Tryz.func170, Tryz.ntmps170
 go_wp2_with fail
 generalize w.alloc (.cells #[.int .i64 most, .map (some b)] 125) = W at *
 refine (allPort_any most b (keysOf (fun x : PortD => x.id) l) W H.out.1.map (by rw [HK.out]; exact hl) H.out.2.1).mono ?_
 rintro e w2 ⟨a, cap, rfl, hown, hb2⟩
 obtain ⟨a', cap', hv, hrow⟩ := own_form hown
 cases hv
 have HR : Hid (Row w2 a ((keysOf (fun x : PortD => x.id) l).map fun p => ptrV p.2)) := hrow
 have HO : Hid (Shelf portVs (fun x : PortD => x.id) 61 w2 base b l ∧ Below w.heap.size w w2) := ⟨H.out.1.below hb2, H.out.2.2.trans (hb2.mono H.out.2.2.size)⟩
 rw [HK.out]
 clear hown hrow hb2
 go_wp2_with fail
 go_loopw [3, 9] (fun t i wr => ∃ k : Nat, k ≤ l.length ∧ i = .int .i64 k ∧ ∃ a' cap', t = .slice a' k cap' ∧ Hid (wr.ownsRow w2.heap.size 61 5 (.slice a' k cap') k (portK.flat ((l.take k).map (·.1))) ∧ Below w2.heap.size w2 wr)) (fun _ i _ => l.length - (intOf i).toNat)
 case atStart => exact ⟨0, Nat.zero_le _, rfl, none, 0, rfl, ⟨World.ownsRow_nil _ _ _ _, Below.refl _ _⟩⟩
 case round =>
  obtain ⟨k, hk, rfl, a', cap', rfl, HA⟩ := hrel
  by_cases hlt : k < l.length
  ·have i0' : (0 : Int) ≤ (k : Int) := by omega
   have i1 : (k : Int) < (l.length : Int) := by omega
   obtain ⟨p, hp⟩ : ∃ p, l[k]? = some p := ⟨_, List.getElem?_eq_getElem hlt⟩
   obtain ⟨g, ha, hc⟩ := (HR.out.below HA.out.2) k (ptrV p.2) (by simp [keysOf, hp])
   subst ha
   unfold ptrV at hc
   have HP : Hid (l[k]? = some p) := hp
   obtain ⟨s0, s1, s2, s3, s4⟩ := port_cells ((HO.out.1.below HA.out.2).box p (List.mem_of_getElem? hp))
   have hsz3 := HA.out.2.size
   clear hp
   go_wp2_with (at_builtin; refine wpList_append_own_at _ rfl _ _ 30 rfl w2.heap.size 61 i0 _ 5 48 Tryz.underlying30 HI.out.1 HI.out.2.1 HI.out.2.2.1 HI.out.2.2.2 rfl (by decide) (.slice a' k cap') k (portK.flat ((l.take k).map (·.1))) rfl (HA.out.1.alloc _) ⟨wr.heap.size, 0, none⟩ 1 1 (portK.vals p.1) (by rfl) rfl (World.news_of_block (cs := #[.int .i64 p.1.id, .bool p.1.out, .bool p.1.queue, .int .i64 p.1.max, .slice p.1.itemsA p.1.items.length p.1.itemsC]) (t := 61) (fr := (0, 0)) (heap_alloc_new wr _)) (by simp [portK, portVals, Value.oneCell']) (by unfold maxLen; omega) (by omega) (by simp; omega) ?_; intro v' w5 hown' hgrow hnil hloc; obtain ⟨a5, cap5, rfl, -⟩ := own_form hown'; have HN : Hid (w5.ownsRow w2.heap.size 61 5 (.slice a5 (k + 1) cap5) (k + 1) (portK.flat ((l.take (k + 1)).map (·.1))) ∧ Below w2.heap.size w2 w5) := ⟨by rw [take_up HP.out, List.map_append, portK.flat_append]; exact hown', (HA.out.2.alloc hsz3 _).grown hgrow (by simp; omega) (fun q hq => (HA.out.1.lt q hq).1)⟩; clear hown' hgrow hnil hloc)
   go_roundw
   case rel => exact ⟨k + 1, by omega, by go_num, a5, cap5, rfl, HN⟩
   case measure => simp [intOf]; omega
  ·have i1 : ¬ (k : Int) < (l.length : Int) := by omega
   have ek : k = l.length := by omega
   subst ek
   go_wp2
   go_ret
   refine ⟨a', cap', by rw [List.length_map]; rfl, ?_, HO.out.2.trans (HA.out.2.mono HO.out.2.size)⟩
   have h5 := own_low HA.out.1 HO.out.2.size
   rw [List.take_length] at h5
   rw [List.length_map]
   exact h5

end Go.Proofs.YtkbcplnlehdjfaaGreat

/- An open partition told. (Made by mktoldpart.py.) -/
namespace Go.Proofs.YtkbcplnlehdjfaaGreat
open Go.RowKit Go.Maps
attribute [local go_sem ↓] Go.wp_at_zero Go.wp_at_succ

theorem nodup_told {kp kf kq r1 r2 r3 r4 r5 r6 : List Nat} {N n1 n2 n3 n4 n5 n6 : Nat} (hk : (kp ++ (kf ++ kq)).Nodup) (hkl : ∀ g ∈ kp ++ (kf ++ kq), g < N) (h1 : Btw N n1 r1) (h2 : Btw n1 n2 r2) (h3 : Btw n2 n3 r3) (h4 : Btw n3 n4 r4) (h5 : Btw n4 n5 r5) (h6 : Btw n5 n6 r6)
  (e : N ≤ n1 ∧ n1 ≤ n2 ∧ n2 ≤ n3 ∧ n3 ≤ n4 ∧ n4 ≤ n5 ∧ n5 ≤ n6) : (r1 ++ (kp ++ (r2 ++ (r3 ++ (r4 ++ (r5 ++ (kf ++ (r6 ++ kq)))))))).Nodup := by
 have hp : (r1 ++ (kp ++ (r2 ++ (r3 ++ (r4 ++ (r5 ++ (kf ++ (r6 ++ kq)))))))).Perm ((kp ++ (kf ++ kq)) ++ (r1 ++ (r2 ++ (r3 ++ (r4 ++ (r5 ++ r6)))))) := by
  rw [List.perm_iff_count]
  intro x
  simp only [List.count_append]
  omega
 rw [hp.nodup_iff, List.nodup_append]
 have hr : Btw N n6 (r1 ++ (r2 ++ (r3 ++ (r4 ++ (r5 ++ r6))))) := h1.append (h2.append (h3.append (h4.append (h5.append h6 (by omega) (by omega) (by omega)) (by omega) (by omega) (by omega)) (by omega) (by omega) (by omega)) (by omega) (by omega) (by omega)) (by omega) (by omega) (by omega)
 refine ⟨hk, hr.1, fun a ha b hb e => ?_⟩
 have := hkl a ha
 have := (hr.2 b hb).1
 omega
theorem btw_row {w : World} {base n size cap : Nat} {e : TypeId} {a : Option Addr} {xs : List Value} (h : w.ownsRow base e size (.slice a n cap) n xs) : Btw base w.heap.size (blk a) := ⟨blk_nodup a, fun _ hg => own_lt h hg⟩

/-- The lists of an open partition are short, its numbers fit. -/
structure OpenD.Fits (S : OpenD) : Prop where
 nProc : S.lp.length ≤ 1048576
 wProc : ∀ p ∈ keysOf (fun x : ProcD => x.id) S.lp, (Lit.int .i64 p.1).wf = true
 nSem : S.ls.length ≤ 1048576
 wSem : ∀ p ∈ keysOf (fun x : SemD => x.id) S.ls, (Lit.int .i64 p.1).wf = true
 nEvent : S.le.length ≤ 1048576
 wEvent : ∀ p ∈ keysOf (fun x : EventD => x.id) S.le, (Lit.int .i64 p.1).wf = true
 nBoard : S.lb.length ≤ 1048576
 wBoard : ∀ p ∈ keysOf (fun x : BoardD => x.id) S.lb, (Lit.int .i64 p.1).wf = true
 nBuffer : S.lf.length ≤ 1048576
 wBuffer : ∀ p ∈ keysOf (fun x : BufferD => x.id) S.lf, (Lit.int .i64 p.1).wf = true
 nPort : S.lq.length ≤ 1048576
 wPort : ∀ p ∈ keysOf (fun x : PortD => x.id) S.lq, (Lit.int .i64 p.1).wf = true
def ToldS (o : Nat) (S : OpenD) (w' : World) : Prop := w'.cell? ⟨o, 0, none⟩ = some (.int .i64 S.q.id) ∧ w'.cell? ⟨o, 1, none⟩ = some (.int .i64 S.q.next) ∧ w'.cell? ⟨o, 2, none⟩ = some (.int .i64 6) ∧ w'.cell? ⟨o, 3, none⟩ = some (.map (some S.q.bp)) ∧ w'.cell? ⟨o, 4, none⟩ = some (.int .i64 5) ∧ w'.cell? ⟨o, 5, none⟩ = some (.map (some S.q.bs)) ∧ w'.cell? ⟨o, 6, none⟩ = some (.int .i64 5) ∧ w'.cell? ⟨o, 7, none⟩ = some (.map (some S.q.be)) ∧ w'.cell? ⟨o, 8, none⟩ = some (.int .i64 5) ∧ w'.cell? ⟨o, 9, none⟩ = some (.map (some S.q.bb)) ∧ w'.cell? ⟨o, 10, none⟩ = some (.int .i64 5) ∧ w'.cell? ⟨o, 11, none⟩ = some (.map (some S.q.bf)) ∧ w'.cell? ⟨o, 12, none⟩ = some (.int .i64 5) ∧ w'.cell? ⟨o, 13, none⟩ = some (.map (some S.q.bq))
theorem toldS_of {o : Nat} {S : OpenD} {w : World} (h : OpenBox w o S.q) : ToldS o S w := ⟨h.cell 0, h.cell 1, h.cell 2, h.cell 3, h.cell 4, h.cell 5, h.cell 6, h.cell 7, h.cell 8, h.cell 9, h.cell 10, h.cell 11, h.cell 12, h.cell 13⟩
/-- What telling an open partition ends in. -/
def PartEnds (w : World) (base : Nat) (v : PartP) (e : Ending) (w' : World) : Prop := ∃ r : PartD, e = .returned (.agg r.cells) ∧ PartOwn w' base r ∧ r.pure = v ∧ Below w.heap.size w w'
set_option maxRecDepth 100000 in
set_option maxHeartbeats 8000000 in
theorem toldPart_any (o base : Nat) (S : OpenD) (w : World) (h : OpenAt w base o S) (hf : S.Fits) : Calls Tryz.prog 85 #[.pointer (some ⟨o, 0, none⟩)] w fun e w' => PartEnds w base S.pure e w' := by
 have hb0 : Below w.heap.size w (w.alloc (.cells #[.int .i64 0, .int .i64 0, .slice none 0 0, .slice none 0 0, .slice none 0 0, .slice none 0 0, .slice none 0 0, .slice none 0 0] 32)) := (Below.refl _ _).alloc (Nat.le_refl _) _
 have HZ : Hid (OpenAt w base o S ∧ S.Fits ∧ Below w.heap.size w (w.alloc (.cells #[.int .i64 0, .int .i64 0, .slice none 0 0, .slice none 0 0, .slice none 0 0, .slice none 0 0, .slice none 0 0, .slice none 0 0] 32)).drew ∧ (w.alloc (.cells #[.int .i64 0, .int .i64 0, .slice none 0 0, .slice none 0 0, .slice none 0 0, .slice none 0 0, .slice none 0 0, .slice none 0 0] 32)).drew.heap[w.heap.size]? = some (.cells #[.int .i64 0, .int .i64 0, .slice none 0 0, .slice none 0 0, .slice none 0 0, .slice none 0 0, .slice none 0 0, .slice none 0 0] 32 (0, 0)) ∧ w.heap.size < (w.alloc (.cells #[.int .i64 0, .int .i64 0, .slice none 0 0, .slice none 0 0, .slice none 0 0, .slice none 0 0, .slice none 0 0, .slice none 0 0] 32)).drew.heap.size) := ⟨h, hf, hb0.drew, heap_alloc_new _ _, by simp⟩
 have HS : Hid (ToldS o S (w.alloc (.cells #[.int .i64 0, .int .i64 0, .slice none 0 0, .slice none 0 0, .slice none 0 0, .slice none 0 0, .slice none 0 0, .slice none 0 0] 32)).drew) := toldS_of (h.opn.below hb0.drew)
 clear h hf hb0
 go_enter Tryz.func85, Tryz.ntmps85
 go_wp2_with fail
 generalize w.alloc (.cells #[.int .i64 0, .int .i64 0, .slice none 0 0, .slice none 0 0, .slice none 0 0, .slice none 0 0, .slice none 0 0, .slice none 0 0] 32) = W at *
 refine wp_region_held_drew (S := ToldS o S) (by kernel_rfl) HS.out (fun hHeld => ?_)
 refine tk 0 (v := ?_) ?_ hHeld ?_; rotate_left; (intro w0 hS0; obtain ⟨q0, q1, q2, q3, q4, q5, q6, q7, q8, q9, q10, q11, q12, q13⟩ := hS0; go_simp; try with_reducible rfl); simp only [pt, sb, s0, s1]
 refine tk 1 (v := ?_) ?_ hHeld ?_; rotate_left; (intro w0 hS0; obtain ⟨q0, q1, q2, q3, q4, q5, q6, q7, q8, q9, q10, q11, q12, q13⟩ := hS0; go_simp; try with_reducible rfl); simp only [pt, sb, s0, s1]
 refine tk 2 (v := ?_) ?_ hHeld ?_; rotate_left; (intro w0 hS0; obtain ⟨q0, q1, q2, q3, q4, q5, q6, q7, q8, q9, q10, q11, q12, q13⟩ := hS0; go_simp; try with_reducible rfl); simp only [pt, sb, s0, s1]
 refine tk 3 (v := ?_) ?_ hHeld ?_; rotate_left; (intro w0 hS0; obtain ⟨q0, q1, q2, q3, q4, q5, q6, q7, q8, q9, q10, q11, q12, q13⟩ := hS0; go_simp; try with_reducible rfl); simp only [pt, sb, s0, s1]
 refine tk 4 (v := ?_) ?_ hHeld ?_; rotate_left; (intro w0 hS0; obtain ⟨q0, q1, q2, q3, q4, q5, q6, q7, q8, q9, q10, q11, q12, q13⟩ := hS0; go_simp; try with_reducible rfl); simp only [pt, sb, s0, s1]
 refine tk 5 (v := ?_) ?_ hHeld ?_; rotate_left; (intro w0 hS0; obtain ⟨q0, q1, q2, q3, q4, q5, q6, q7, q8, q9, q10, q11, q12, q13⟩ := hS0; go_simp; try with_reducible rfl); simp only [pt, sb, s0, s1]
 refine tk 6 (v := ?_) ?_ hHeld ?_; rotate_left; (intro w0 hS0; obtain ⟨q0, q1, q2, q3, q4, q5, q6, q7, q8, q9, q10, q11, q12, q13⟩ := hS0; go_simp; try with_reducible rfl); simp only [pt, sb, s0, s1]
 refine tk 7 (v := ?_) ?_ hHeld ?_; rotate_left; (intro w0 hS0; obtain ⟨q0, q1, q2, q3, q4, q5, q6, q7, q8, q9, q10, q11, q12, q13⟩ := hS0; go_simp; try with_reducible rfl); simp only [pt, sb, s0, s1]
 refine tk 8 (v := ?_) ?_ hHeld ?_; rotate_left; (intro w0 hS0; obtain ⟨q0, q1, q2, q3, q4, q5, q6, q7, q8, q9, q10, q11, q12, q13⟩ := hS0; go_simp; try with_reducible rfl); simp only [pt, sb, s0, s1]
 refine tk 9 (v := ?_) ?_ hHeld ?_; rotate_left; (intro w0 hS0; obtain ⟨q0, q1, q2, q3, q4, q5, q6, q7, q8, q9, q10, q11, q12, q13⟩ := hS0; go_simp; try with_reducible rfl); simp only [pt, sb, s0, s1]
 refine tk 10 (v := ?_) ?_ hHeld ?_; rotate_left; (intro w0 hS0; obtain ⟨q0, q1, q2, q3, q4, q5, q6, q7, q8, q9, q10, q11, q12, q13⟩ := hS0; go_simp; try with_reducible rfl); simp only [pt, sb, s0, s1]
 refine tk 11 (v := ?_) ?_ hHeld ?_; rotate_left; (intro w0 hS0; obtain ⟨q0, q1, q2, q3, q4, q5, q6, q7, q8, q9, q10, q11, q12, q13⟩ := hS0; go_simp; try with_reducible rfl); simp only [pt, sb, s0, s1]
 refine tk 13 (v := ?_) ?_ hHeld ?_; rotate_left; (intro w0 hS0; obtain ⟨q0, q1, q2, q3, q4, q5, q6, q7, q8, q9, q10, q11, q12, q13⟩ := hS0; go_simp; try with_reducible rfl); simp only [pt, sb, s0, s1]
 refine tk 14 (v := ?_) ?_ hHeld ?_; rotate_left; (intro w0 hS0; obtain ⟨q0, q1, q2, q3, q4, q5, q6, q7, q8, q9, q10, q11, q12, q13⟩ := hS0; go_simp; try with_reducible rfl); simp only [pt, sb, s0, s1]
 refine tk 15 (v := ?_) ?_ hHeld ?_; rotate_left; (intro w0 hS0; obtain ⟨q0, q1, q2, q3, q4, q5, q6, q7, q8, q9, q10, q11, q12, q13⟩ := hS0; go_simp; try with_reducible rfl); simp only [pt, sb, s0, s1]
 refine tk 16 (v := ?_) ?_ hHeld ?_; rotate_left; (intro w0 hS0; obtain ⟨q0, q1, q2, q3, q4, q5, q6, q7, q8, q9, q10, q11, q12, q13⟩ := hS0; go_simp; try with_reducible rfl); simp only [pt, sb, s0, s1]
 refine tk 18 (v := ?_) ?_ hHeld ?_; rotate_left; (intro w0 hS0; obtain ⟨q0, q1, q2, q3, q4, q5, q6, q7, q8, q9, q10, q11, q12, q13⟩ := hS0; go_simp; try with_reducible rfl); simp only [pt, sb, s0, s1]
 refine tk 19 (v := ?_) ?_ hHeld ?_; rotate_left; (intro w0 hS0; obtain ⟨q0, q1, q2, q3, q4, q5, q6, q7, q8, q9, q10, q11, q12, q13⟩ := hS0; go_simp; try with_reducible rfl); simp only [pt, sb, s0, s1]
 refine tk 20 (v := ?_) ?_ hHeld ?_; rotate_left; (intro w0 hS0; obtain ⟨q0, q1, q2, q3, q4, q5, q6, q7, q8, q9, q10, q11, q12, q13⟩ := hS0; go_simp; try with_reducible rfl); simp only [pt, sb, s0, s1]
 refine tk 21 (v := ?_) ?_ hHeld ?_; rotate_left; (intro w0 hS0; obtain ⟨q0, q1, q2, q3, q4, q5, q6, q7, q8, q9, q10, q11, q12, q13⟩ := hS0; go_simp; try with_reducible rfl); simp only [pt, sb, s0, s1]
 refine tk 23 (v := ?_) ?_ hHeld ?_; rotate_left; (intro w0 hS0; obtain ⟨q0, q1, q2, q3, q4, q5, q6, q7, q8, q9, q10, q11, q12, q13⟩ := hS0; go_simp; try with_reducible rfl); simp only [pt, sb, s0, s1]
 refine tk 24 (v := ?_) ?_ hHeld ?_; rotate_left; (intro w0 hS0; obtain ⟨q0, q1, q2, q3, q4, q5, q6, q7, q8, q9, q10, q11, q12, q13⟩ := hS0; go_simp; try with_reducible rfl); simp only [pt, sb, s0, s1]
 refine tk 25 (v := ?_) ?_ hHeld ?_; rotate_left; (intro w0 hS0; obtain ⟨q0, q1, q2, q3, q4, q5, q6, q7, q8, q9, q10, q11, q12, q13⟩ := hS0; go_simp; try with_reducible rfl); simp only [pt, sb, s0, s1]
 refine tk 26 (v := ?_) ?_ hHeld ?_; rotate_left; (intro w0 hS0; obtain ⟨q0, q1, q2, q3, q4, q5, q6, q7, q8, q9, q10, q11, q12, q13⟩ := hS0; go_simp; try with_reducible rfl); simp only [pt, sb, s0, s1]
 refine tk 28 (v := ?_) ?_ hHeld ?_; rotate_left; (intro w0 hS0; obtain ⟨q0, q1, q2, q3, q4, q5, q6, q7, q8, q9, q10, q11, q12, q13⟩ := hS0; go_simp; try with_reducible rfl); simp only [pt, sb, s0, s1]
 refine tk 29 (v := ?_) ?_ hHeld ?_; rotate_left; (intro w0 hS0; obtain ⟨q0, q1, q2, q3, q4, q5, q6, q7, q8, q9, q10, q11, q12, q13⟩ := hS0; go_simp; try with_reducible rfl); simp only [pt, sb, s0, s1]
 refine tk 30 (v := ?_) ?_ hHeld ?_; rotate_left; (intro w0 hS0; obtain ⟨q0, q1, q2, q3, q4, q5, q6, q7, q8, q9, q10, q11, q12, q13⟩ := hS0; go_simp; try with_reducible rfl); simp only [pt, sb, s0, s1]
 refine tk 31 (v := ?_) ?_ hHeld ?_; rotate_left; (intro w0 hS0; obtain ⟨q0, q1, q2, q3, q4, q5, q6, q7, q8, q9, q10, q11, q12, q13⟩ := hS0; go_simp; try with_reducible rfl); simp only [pt, sb, s0, s1]
 refine tk 33 (v := ?_) ?_ hHeld ?_; rotate_left; (intro w0 hS0; obtain ⟨q0, q1, q2, q3, q4, q5, q6, q7, q8, q9, q10, q11, q12, q13⟩ := hS0; go_simp; try with_reducible rfl); simp only [pt, sb, s0, s1]
 refine tk 34 (v := ?_) ?_ hHeld ?_; rotate_left; (intro w0 hS0; obtain ⟨q0, q1, q2, q3, q4, q5, q6, q7, q8, q9, q10, q11, q12, q13⟩ := hS0; go_simp; try with_reducible rfl); simp only [pt, sb, s0, s1]
 refine tk 35 (v := ?_) ?_ hHeld ?_; rotate_left; (intro w0 hS0; obtain ⟨q0, q1, q2, q3, q4, q5, q6, q7, q8, q9, q10, q11, q12, q13⟩ := hS0; go_simp; try with_reducible rfl); simp only [pt, sb, s0, s1]
 refine tk 36 (v := ?_) ?_ hHeld ?_; rotate_left; (intro w0 hS0; obtain ⟨q0, q1, q2, q3, q4, q5, q6, q7, q8, q9, q10, q11, q12, q13⟩ := hS0; go_simp; try with_reducible rfl); simp only [pt, sb, s0, s1]
 clear HS
 generalize hWd : W.drew = W0 at *
 clear hWd
 refine wpAnyH_ready (rs := [12]) (by kernel_rfl) (by simp) ?_
 refine AllReadyH.cons rfl (fun K hK => ?_) AllReadyH.nil
 simp only [List.getElem_toArray, List.getElem_cons_zero, List.getElem_cons_succ]
 rw [if_pos (by rfl)]
 go_wp2_with fail
 refine (toldProc_any 6 base S.q.bp S.lp W0 (HZ.out.1.procs.below HZ.out.2.2.1) HZ.out.2.1.nProc HZ.out.2.1.wProc).mono ?_
 rintro e W1 ⟨a1, c1, rfl, hown, hb⟩
 have HT1 : Hid (Btw W0.heap.size W1.heap.size (blk a1) ∧ W0.heap.size ≤ W1.heap.size) := ⟨btw_row hown, hb.size⟩
 have HY : Hid (W1.ownsRow W0.heap.size 43 12 (.slice a1 (S.lp.map (·.1)).length c1) (S.lp.map (·.1)).length (procK.flat (S.lp.map (·.1))) ∧ W0.heap.size ≤ W1.heap.size) := ⟨hown, hb.size⟩
 have HR := HY
 clear HY
 have HZ2 : Hid (OpenAt w base o S ∧ S.Fits ∧ Below w.heap.size w W1 ∧ W1.heap[w.heap.size]? = some (.cells #[.int .i64 0, .int .i64 0, .slice none 0 0, .slice none 0 0, .slice none 0 0, .slice none 0 0, .slice none 0 0, .slice none 0 0] 32 (0, 0)) ∧ w.heap.size < W0.heap.size) := ⟨HZ.out.1, HZ.out.2.1, HZ.out.2.2.1.trans (hb.mono HZ.out.2.2.1.size), (hb.block _ (Array.getElem?_eq_some_iff.1 HZ.out.2.2.2.1).1).trans HZ.out.2.2.2.1, HZ.out.2.2.2.2⟩
 clear HZ hown hb
 have HZ := HZ2
 clear HZ2 hHeld
 refine hK.out _ _ (toldS_of (HZ.out.1.opn.below HZ.out.2.2.1)) (fun hHeld => ?_)
 clear hK K
 try simp only [List.getElem_toArray, List.getElem_cons_zero, List.getElem_cons_succ, Act.put, List.setIfInBounds_toArray, List.set_cons_zero, List.set_cons_succ]
 refine wpAnyH_ready (rs := [17]) (by kernel_rfl) (by simp) ?_
 refine AllReadyH.cons rfl (fun K hK => ?_) AllReadyH.nil
 simp only [List.getElem_toArray, List.getElem_cons_zero, List.getElem_cons_succ]
 rw [if_pos (by rfl)]
 go_wp2_with fail
 refine (toldSem_any 5 base S.q.bs S.ls W1 (HZ.out.1.sems.below HZ.out.2.2.1) HZ.out.2.1.nSem HZ.out.2.1.wSem).mono ?_
 rintro e W2 ⟨a2, c2, rfl, hown, hb⟩
 have HT2 : Hid (Btw W1.heap.size W2.heap.size (blk a2) ∧ W1.heap.size ≤ W2.heap.size) := ⟨btw_row hown, hb.size⟩
 have HY : Hid (W2.ownsRow W0.heap.size 43 12 (.slice a1 (S.lp.map (·.1)).length c1) (S.lp.map (·.1)).length (procK.flat (S.lp.map (·.1))) ∧ W2.ownsRow W1.heap.size 49 3 (.slice a2 (S.ls.map (·.1)).length c2) (S.ls.map (·.1)).length (semK.flat (S.ls.map (·.1))) ∧ W0.heap.size ≤ W1.heap.size ∧ W1.heap.size ≤ W2.heap.size) := ⟨own_below HR.out.1 hb, hown, HR.out.2, hb.size⟩
 clear HR
 have HR := HY
 clear HY
 have HZ2 : Hid (OpenAt w base o S ∧ S.Fits ∧ Below w.heap.size w W2 ∧ W2.heap[w.heap.size]? = some (.cells #[.int .i64 0, .int .i64 0, .slice none 0 0, .slice none 0 0, .slice none 0 0, .slice none 0 0, .slice none 0 0, .slice none 0 0] 32 (0, 0)) ∧ w.heap.size < W0.heap.size) := ⟨HZ.out.1, HZ.out.2.1, HZ.out.2.2.1.trans (hb.mono HZ.out.2.2.1.size), (hb.block _ (Array.getElem?_eq_some_iff.1 HZ.out.2.2.2.1).1).trans HZ.out.2.2.2.1, HZ.out.2.2.2.2⟩
 clear HZ hown hb
 have HZ := HZ2
 clear HZ2 hHeld
 refine hK.out _ _ (toldS_of (HZ.out.1.opn.below HZ.out.2.2.1)) (fun hHeld => ?_)
 clear hK K
 try simp only [List.getElem_toArray, List.getElem_cons_zero, List.getElem_cons_succ, Act.put, List.setIfInBounds_toArray, List.set_cons_zero, List.set_cons_succ]
 refine wpAnyH_ready (rs := [22]) (by kernel_rfl) (by simp) ?_
 refine AllReadyH.cons rfl (fun K hK => ?_) AllReadyH.nil
 simp only [List.getElem_toArray, List.getElem_cons_zero, List.getElem_cons_succ]
 rw [if_pos (by rfl)]
 go_wp2_with fail
 refine (toldEvent_any 5 base S.q.be S.le W2 (HZ.out.1.events.below HZ.out.2.2.1) HZ.out.2.1.nEvent HZ.out.2.1.wEvent).mono ?_
 rintro e W3 ⟨a3, c3, rfl, hown, hb⟩
 have HT3 : Hid (Btw W2.heap.size W3.heap.size (blk a3) ∧ W2.heap.size ≤ W3.heap.size) := ⟨btw_row hown, hb.size⟩
 have HY : Hid (W3.ownsRow W0.heap.size 43 12 (.slice a1 (S.lp.map (·.1)).length c1) (S.lp.map (·.1)).length (procK.flat (S.lp.map (·.1))) ∧ W3.ownsRow W1.heap.size 49 3 (.slice a2 (S.ls.map (·.1)).length c2) (S.ls.map (·.1)).length (semK.flat (S.ls.map (·.1))) ∧ W3.ownsRow W2.heap.size 138 2 (.slice a3 (S.le.map (·.1)).length c3) (S.le.map (·.1)).length (eventK.flat (S.le.map (·.1))) ∧ W0.heap.size ≤ W1.heap.size ∧ W1.heap.size ≤ W2.heap.size ∧ W2.heap.size ≤ W3.heap.size) := ⟨own_below HR.out.1 hb, own_below HR.out.2.1 hb, hown, HR.out.2.2.1, HR.out.2.2.2, hb.size⟩
 clear HR
 have HR := HY
 clear HY
 have HZ2 : Hid (OpenAt w base o S ∧ S.Fits ∧ Below w.heap.size w W3 ∧ W3.heap[w.heap.size]? = some (.cells #[.int .i64 0, .int .i64 0, .slice none 0 0, .slice none 0 0, .slice none 0 0, .slice none 0 0, .slice none 0 0, .slice none 0 0] 32 (0, 0)) ∧ w.heap.size < W0.heap.size) := ⟨HZ.out.1, HZ.out.2.1, HZ.out.2.2.1.trans (hb.mono HZ.out.2.2.1.size), (hb.block _ (Array.getElem?_eq_some_iff.1 HZ.out.2.2.2.1).1).trans HZ.out.2.2.2.1, HZ.out.2.2.2.2⟩
 clear HZ hown hb
 have HZ := HZ2
 clear HZ2 hHeld
 refine hK.out _ _ (toldS_of (HZ.out.1.opn.below HZ.out.2.2.1)) (fun hHeld => ?_)
 clear hK K
 try simp only [List.getElem_toArray, List.getElem_cons_zero, List.getElem_cons_succ, Act.put, List.setIfInBounds_toArray, List.set_cons_zero, List.set_cons_succ]
 refine wpAnyH_ready (rs := [27]) (by kernel_rfl) (by simp) ?_
 refine AllReadyH.cons rfl (fun K hK => ?_) AllReadyH.nil
 simp only [List.getElem_toArray, List.getElem_cons_zero, List.getElem_cons_succ]
 rw [if_pos (by rfl)]
 go_wp2_with fail
 refine (toldBoard_any 5 base S.q.bb S.lb W3 (HZ.out.1.boards.below HZ.out.2.2.1) HZ.out.2.1.nBoard HZ.out.2.1.wBoard).mono ?_
 rintro e W4 ⟨a4, c4, rfl, hown, hb⟩
 have HT4 : Hid (Btw W3.heap.size W4.heap.size (blk a4) ∧ W3.heap.size ≤ W4.heap.size) := ⟨btw_row hown, hb.size⟩
 have HY : Hid (W4.ownsRow W0.heap.size 43 12 (.slice a1 (S.lp.map (·.1)).length c1) (S.lp.map (·.1)).length (procK.flat (S.lp.map (·.1))) ∧ W4.ownsRow W1.heap.size 49 3 (.slice a2 (S.ls.map (·.1)).length c2) (S.ls.map (·.1)).length (semK.flat (S.ls.map (·.1))) ∧ W4.ownsRow W2.heap.size 138 2 (.slice a3 (S.le.map (·.1)).length c3) (S.le.map (·.1)).length (eventK.flat (S.le.map (·.1))) ∧ W4.ownsRow W3.heap.size 141 3 (.slice a4 (S.lb.map (·.1)).length c4) (S.lb.map (·.1)).length (boardK.flat (S.lb.map (·.1))) ∧ W0.heap.size ≤ W1.heap.size ∧ W1.heap.size ≤ W2.heap.size ∧ W2.heap.size ≤ W3.heap.size ∧ W3.heap.size ≤ W4.heap.size) := ⟨own_below HR.out.1 hb, own_below HR.out.2.1 hb, own_below HR.out.2.2.1 hb, hown, HR.out.2.2.2.1, HR.out.2.2.2.2.1, HR.out.2.2.2.2.2, hb.size⟩
 clear HR
 have HR := HY
 clear HY
 have HZ2 : Hid (OpenAt w base o S ∧ S.Fits ∧ Below w.heap.size w W4 ∧ W4.heap[w.heap.size]? = some (.cells #[.int .i64 0, .int .i64 0, .slice none 0 0, .slice none 0 0, .slice none 0 0, .slice none 0 0, .slice none 0 0, .slice none 0 0] 32 (0, 0)) ∧ w.heap.size < W0.heap.size) := ⟨HZ.out.1, HZ.out.2.1, HZ.out.2.2.1.trans (hb.mono HZ.out.2.2.1.size), (hb.block _ (Array.getElem?_eq_some_iff.1 HZ.out.2.2.2.1).1).trans HZ.out.2.2.2.1, HZ.out.2.2.2.2⟩
 clear HZ hown hb
 have HZ := HZ2
 clear HZ2 hHeld
 refine hK.out _ _ (toldS_of (HZ.out.1.opn.below HZ.out.2.2.1)) (fun hHeld => ?_)
 clear hK K
 try simp only [List.getElem_toArray, List.getElem_cons_zero, List.getElem_cons_succ, Act.put, List.setIfInBounds_toArray, List.set_cons_zero, List.set_cons_succ]
 refine wpAnyH_ready (rs := [32]) (by kernel_rfl) (by simp) ?_
 refine AllReadyH.cons rfl (fun K hK => ?_) AllReadyH.nil
 simp only [List.getElem_toArray, List.getElem_cons_zero, List.getElem_cons_succ]
 rw [if_pos (by rfl)]
 go_wp2_with fail
 refine (toldBuffer_any 5 base S.q.bf S.lf W4 (HZ.out.1.buffers.below HZ.out.2.2.1) HZ.out.2.1.nBuffer HZ.out.2.1.wBuffer).mono ?_
 rintro e W5 ⟨a5, c5, rfl, hown, hb⟩
 have HT5 : Hid (Btw W4.heap.size W5.heap.size (blk a5) ∧ W4.heap.size ≤ W5.heap.size) := ⟨btw_row hown, hb.size⟩
 have HY : Hid (W5.ownsRow W0.heap.size 43 12 (.slice a1 (S.lp.map (·.1)).length c1) (S.lp.map (·.1)).length (procK.flat (S.lp.map (·.1))) ∧ W5.ownsRow W1.heap.size 49 3 (.slice a2 (S.ls.map (·.1)).length c2) (S.ls.map (·.1)).length (semK.flat (S.ls.map (·.1))) ∧ W5.ownsRow W2.heap.size 138 2 (.slice a3 (S.le.map (·.1)).length c3) (S.le.map (·.1)).length (eventK.flat (S.le.map (·.1))) ∧ W5.ownsRow W3.heap.size 141 3 (.slice a4 (S.lb.map (·.1)).length c4) (S.lb.map (·.1)).length (boardK.flat (S.lb.map (·.1))) ∧ W5.ownsRow W4.heap.size 144 3 (.slice a5 (S.lf.map (·.1)).length c5) (S.lf.map (·.1)).length (bufferK.flat (S.lf.map (·.1))) ∧ W0.heap.size ≤ W1.heap.size ∧ W1.heap.size ≤ W2.heap.size ∧ W2.heap.size ≤ W3.heap.size ∧ W3.heap.size ≤ W4.heap.size ∧ W4.heap.size ≤ W5.heap.size) := ⟨own_below HR.out.1 hb, own_below HR.out.2.1 hb, own_below HR.out.2.2.1 hb, own_below HR.out.2.2.2.1 hb, hown, HR.out.2.2.2.2.1, HR.out.2.2.2.2.2.1, HR.out.2.2.2.2.2.2.1, HR.out.2.2.2.2.2.2.2, hb.size⟩
 clear HR
 have HR := HY
 clear HY
 have HZ2 : Hid (OpenAt w base o S ∧ S.Fits ∧ Below w.heap.size w W5 ∧ W5.heap[w.heap.size]? = some (.cells #[.int .i64 0, .int .i64 0, .slice none 0 0, .slice none 0 0, .slice none 0 0, .slice none 0 0, .slice none 0 0, .slice none 0 0] 32 (0, 0)) ∧ w.heap.size < W0.heap.size) := ⟨HZ.out.1, HZ.out.2.1, HZ.out.2.2.1.trans (hb.mono HZ.out.2.2.1.size), (hb.block _ (Array.getElem?_eq_some_iff.1 HZ.out.2.2.2.1).1).trans HZ.out.2.2.2.1, HZ.out.2.2.2.2⟩
 clear HZ hown hb
 have HZ := HZ2
 clear HZ2 hHeld
 refine hK.out _ _ (toldS_of (HZ.out.1.opn.below HZ.out.2.2.1)) (fun hHeld => ?_)
 clear hK K
 try simp only [List.getElem_toArray, List.getElem_cons_zero, List.getElem_cons_succ, Act.put, List.setIfInBounds_toArray, List.set_cons_zero, List.set_cons_succ]
 refine wpAnyH_ready (rs := [37]) (by kernel_rfl) (by simp) ?_
 refine AllReadyH.cons rfl (fun K hK => ?_) AllReadyH.nil
 simp only [List.getElem_toArray, List.getElem_cons_zero, List.getElem_cons_succ]
 rw [if_pos (by rfl)]
 go_wp2_with fail
 refine (toldPort_any 5 base S.q.bq S.lq W5 (HZ.out.1.ports.below HZ.out.2.2.1) HZ.out.2.1.nPort HZ.out.2.1.wPort).mono ?_
 rintro e W6 ⟨a6, c6, rfl, hown, hb⟩
 have HT6 : Hid (Btw W5.heap.size W6.heap.size (blk a6) ∧ W5.heap.size ≤ W6.heap.size) := ⟨btw_row hown, hb.size⟩
 have HY : Hid (W6.ownsRow W0.heap.size 43 12 (.slice a1 (S.lp.map (·.1)).length c1) (S.lp.map (·.1)).length (procK.flat (S.lp.map (·.1))) ∧ W6.ownsRow W1.heap.size 49 3 (.slice a2 (S.ls.map (·.1)).length c2) (S.ls.map (·.1)).length (semK.flat (S.ls.map (·.1))) ∧ W6.ownsRow W2.heap.size 138 2 (.slice a3 (S.le.map (·.1)).length c3) (S.le.map (·.1)).length (eventK.flat (S.le.map (·.1))) ∧ W6.ownsRow W3.heap.size 141 3 (.slice a4 (S.lb.map (·.1)).length c4) (S.lb.map (·.1)).length (boardK.flat (S.lb.map (·.1))) ∧ W6.ownsRow W4.heap.size 144 3 (.slice a5 (S.lf.map (·.1)).length c5) (S.lf.map (·.1)).length (bufferK.flat (S.lf.map (·.1))) ∧ W6.ownsRow W5.heap.size 61 5 (.slice a6 (S.lq.map (·.1)).length c6) (S.lq.map (·.1)).length (portK.flat (S.lq.map (·.1))) ∧ W0.heap.size ≤ W1.heap.size ∧ W1.heap.size ≤ W2.heap.size ∧ W2.heap.size ≤ W3.heap.size ∧ W3.heap.size ≤ W4.heap.size ∧ W4.heap.size ≤ W5.heap.size ∧ W5.heap.size ≤ W6.heap.size) := ⟨own_below HR.out.1 hb, own_below HR.out.2.1 hb, own_below HR.out.2.2.1 hb, own_below HR.out.2.2.2.1 hb, own_below HR.out.2.2.2.2.1 hb, hown, HR.out.2.2.2.2.2.1, HR.out.2.2.2.2.2.2.1, HR.out.2.2.2.2.2.2.2.1, HR.out.2.2.2.2.2.2.2.2.1, HR.out.2.2.2.2.2.2.2.2.2, hb.size⟩
 clear HR
 have HR := HY
 clear HY
 have HZ2 : Hid (OpenAt w base o S ∧ S.Fits ∧ Below w.heap.size w W6 ∧ W6.heap[w.heap.size]? = some (.cells #[.int .i64 0, .int .i64 0, .slice none 0 0, .slice none 0 0, .slice none 0 0, .slice none 0 0, .slice none 0 0, .slice none 0 0] 32 (0, 0)) ∧ w.heap.size < W0.heap.size) := ⟨HZ.out.1, HZ.out.2.1, HZ.out.2.2.1.trans (hb.mono HZ.out.2.2.1.size), (hb.block _ (Array.getElem?_eq_some_iff.1 HZ.out.2.2.2.1).1).trans HZ.out.2.2.2.1, HZ.out.2.2.2.2⟩
 clear HZ hown hb
 have HZ := HZ2
 clear HZ2 hHeld
 refine hK.out _ _ (toldS_of (HZ.out.1.opn.below HZ.out.2.2.1)) (fun hHeld => ?_)
 clear hK K
 try simp only [List.getElem_toArray, List.getElem_cons_zero, List.getElem_cons_succ, Act.put, List.setIfInBounds_toArray, List.set_cons_zero, List.set_cons_succ]
 refine wpAnyH_take (i := 38) (v := .agg #[.int .i64 S.q.id, .int .i64 S.q.next, .slice a1 S.lp.length c1, .slice a2 S.ls.length c2, .slice a3 S.le.length c3, .slice a4 S.lb.length c4, .slice a5 S.lf.length c5, .slice a6 S.lq.length c6]) rfl (by kernel_rfl) (by kernel_rfl) (by kernel_rfl) (fun _ _ _ h => h) (Or.inl ⟨by kernel_rfl, ?_⟩) hHeld ?_
 ·intro w0 hS0
  go_simp
  try with_reducible rfl
 simp only [List.getElem_toArray, List.getElem_cons_zero, List.getElem_cons_succ, Act.put, List.setIfInBounds_toArray, List.set_cons_zero, List.set_cons_succ]
 refine wpAnyH_ready (rs := [39]) (by kernel_rfl) (by simp) ?_
 refine AllReadyH.cons rfl (fun K hK => ?_) AllReadyH.nil
 simp only [List.getElem_toArray, List.getElem_cons_zero, List.getElem_cons_succ]
 rw [if_pos (by rfl)]
 refine oper_store _ _ _ rfl w.heap.size _ _ #[.int .i64 S.q.id, .int .i64 S.q.next, .slice a1 S.lp.length c1, .slice a2 S.ls.length c2, .slice a3 S.le.length c3, .slice a4 S.lb.length c4, .slice a5 S.lf.length c5, .slice a6 S.lq.length c6] rfl rfl HZ.out.2.2.2.1 (by kernel_rfl) rfl (by simp [Value.oneCell']) ?_
 have hol : o < w.heap.size := (Array.getElem?_eq_some_iff.1 HZ.out.1.opn).1
 have hbs : Below w.heap.size w (W6.setRow w.heap.size #[.int .i64 S.q.id, .int .i64 S.q.next, .slice a1 S.lp.length c1, .slice a2 S.ls.length c2, .slice a3 S.le.length c3, .slice a4 S.lb.length c4, .slice a5 S.lf.length c5, .slice a6 S.lq.length c6]) := below_setRow HZ.out.2.2.1 (Nat.le_refl _) _
 refine hK.out _ _ (toldS_of (HZ.out.1.opn.below hbs)) (fun hHeld => ?_)
 clear hK K hHeld
 refine wpAnyH_done (by kernel_rfl) ?_ _
 repeat (first | go_values | go_skip | go_guarded | go_step | go_upon)
 refine bodyPost_ret (v := .agg #[.int .i64 S.q.id, .int .i64 S.q.next, .slice a1 S.lp.length c1, .slice a2 S.ls.length c2, .slice a3 S.le.length c3, .slice a4 S.lb.length c4, .slice a5 S.lf.length c5, .slice a6 S.lq.length c6]) (results_cell_row Tryz.results85 _ _ w.heap.size _ _ (0, 0) _ rfl (setRow_heap _ _ _ _ _ _ HZ.out.2.2.2.1) Tryz.underlying32 rfl (by kernel_rfl)) rfl ?_
 have hA := HZ.out.1
 have hbel := HZ.out.2.2.1
 have hlo := hA.low
 have hw0 := HZ.out.2.2.2.2
 have t1 := HT1.out.2
 have t2 := HT2.out.2
 have t3 := HT3.out.2
 have t4 := HT4.out.2
 have t5 := HT5.out.2
 have t6 := HT6.out.2
 have hmP : ∀ q ∈ S.lp, procN.Mine W6 base q.1 := fun q hq => (hA.mineP q hq).same fun g hk => hbel.block g ((hA.mineP q hq).lt hk).2
 have hmF : ∀ q ∈ S.lf, bufferN.Mine W6 base q.1 := fun q hq => (hA.mineF q hq).same fun g hk => hbel.block g ((hA.mineF q hq).lt hk).2
 have hmQ : ∀ q ∈ S.lq, portN.Mine W6 base q.1 := fun q hq => (hA.mineQ q hq).same fun g hk => hbel.block g ((hA.mineQ q hq).lt hk).2
 have hkn : S.kids.Nodup := (List.nodup_append.1 (List.nodup_cons.1 hA.nodup).2).2.1
 have hkl : ∀ g ∈ S.kids, g < w.heap.size := fun g hg => by
  simp only [OpenD.kids, List.mem_append, kids, List.mem_filterMap] at hg
  rcases hg with ⟨q, hq, hk⟩ | ⟨q, hq, hk⟩ | ⟨q, hq, hk⟩
  ·exact ((hA.mineP q hq).lt hk).2
  ·exact ((hA.mineF q hq).lt hk).2
  ·exact ((hA.mineQ q hq).lt hk).2
 have eP : (S.lp.map (·.1)).filterMap procN.kid = kids procN S.lp := by rw [List.filterMap_map]; rfl
 have eF : (S.lf.map (·.1)).filterMap bufferN.kid = kids bufferN S.lf := by rw [List.filterMap_map]; rfl
 have eQ : (S.lq.map (·.1)).filterMap portN.kid = kids portN S.lq := by rw [List.filterMap_map]; rfl
 have hown : PartOwn W6 base (⟨S.q.id, S.q.next, S.lp.map (·.1), a1, c1, S.ls.map (·.1), a2, c2, S.le.map (·.1), a3, c3, S.lb.map (·.1), a4, c4, S.lf.map (·.1), a5, c5, S.lq.map (·.1), a6, c6⟩ : PartD) := by
  refine ⟨own_low HR.out.1 (by omega), own_low HR.out.2.1 (by omega), own_low HR.out.2.2.1 (by omega), own_low HR.out.2.2.2.1 (by omega), own_low HR.out.2.2.2.2.1 (by omega), own_low HR.out.2.2.2.2.2.1 (by omega), ?_, ?_, ?_, ?_⟩
  ·intro x hx
   obtain ⟨q, hq, rfl⟩ := List.mem_map.1 hx
   exact hmP q hq
  ·intro x hx
   obtain ⟨q, hq, rfl⟩ := List.mem_map.1 hx
   exact hmF q hq
  ·intro x hx
   obtain ⟨q, hq, rfl⟩ := List.mem_map.1 hx
   exact hmQ q hq
  ·simp only [PartD.blocks, eP, eF, eQ]
   exact nodup_told (N := W0.heap.size) hkn (fun g hg => by have := hkl g hg; omega) HT1.out.1 HT2.out.1 HT3.out.1 HT4.out.1 HT5.out.1 HT6.out.1 ⟨t1, t2, t3, t4, t5, t6⟩
 have hne : ∀ g ∈ (⟨S.q.id, S.q.next, S.lp.map (·.1), a1, c1, S.ls.map (·.1), a2, c2, S.le.map (·.1), a3, c3, S.lb.map (·.1), a4, c4, S.lf.map (·.1), a5, c5, S.lq.map (·.1), a6, c6⟩ : PartD).blocks, g ≠ w.heap.size := fun g hg e => by
  simp only [PartD.blocks, eP, eF, eQ, List.mem_append] at hg
  have hk : ∀ g, (g ∈ kids procN S.lp ∨ g ∈ kids bufferN S.lf ∨ g ∈ kids portN S.lq) → g < w.heap.size := fun g h5 => hkl g (by simp only [OpenD.kids, List.mem_append]; exact h5)
  rcases hg with hg | hg | hg | hg | hg | hg | hg | hg | hg
  ·have := (HT1.out.1.2 g hg).1; omega
  ·have := hk g (.inl hg); omega
  ·have := (HT2.out.1.2 g hg).1; omega
  ·have := (HT3.out.1.2 g hg).1; omega
  ·have := (HT4.out.1.2 g hg).1; omega
  ·have := (HT5.out.1.2 g hg).1; omega
  ·have := hk g (.inr (.inl hg)); omega
  ·have := (HT6.out.1.2 g hg).1; omega
  ·have := hk g (.inr (.inr hg)); omega
 exact ⟨(⟨S.q.id, S.q.next, S.lp.map (·.1), a1, c1, S.ls.map (·.1), a2, c2, S.le.map (·.1), a3, c3, S.lb.map (·.1), a4, c4, S.lf.map (·.1), a5, c5, S.lq.map (·.1), a6, c6⟩ : PartD), by simp [PartD.cells], hown.same fun g hg => setRow_other _ _ _ _ (hne g hg), by simp [PartD.pure, OpenD.pure, Function.comp_def], hbs⟩

end Go.Proofs.YtkbcplnlehdjfaaGreat
