/- What the proof leans on, part 25: CopyS. -/
import Derived.Test.YtkbcplnlehdjfaaGreatOwnR1
import Derived.Test.YtkbcplnlehdjfaaGreatOwnR20
import Derived.Deep.AppendSrc

namespace Go.Proofs.YtkbcplnlehdjfaaGreat
open Go.RowKit
theorem rinfSem : (Tryz.prog.info? 49).map (fun i => (i.zero, i.size, i.bytes)) = some (some (.agg #[.int .i64 0, .int .i64 0, .int .i64 0]), 3, 24) := by kernel_rfl
theorem rinfEvent : (Tryz.prog.info? 138).map (fun i => (i.zero, i.size, i.bytes)) = some (some (.agg #[.int .i64 0, .bool false]), 2, 16) := by kernel_rfl
theorem rinfBoard : (Tryz.prog.info? 141).map (fun i => (i.zero, i.size, i.bytes)) = some (some (.agg #[.int .i64 0, .bool false, .string ⟨#[]⟩]), 3, 32) := by kernel_rfl
theorem rinfBuffer : (Tryz.prog.info? 144).map (fun i => (i.zero, i.size, i.bytes)) = some (some (.agg #[.int .i64 0, .int .i64 0, .slice none 0 0]), 3, 40) := by kernel_rfl
theorem rinfPort : (Tryz.prog.info? 61).map (fun i => (i.zero, i.size, i.bytes)) = some (some (.agg #[.int .i64 0, .bool false, .bool false, .int .i64 0, .slice none 0 0]), 5, 48) := by kernel_rfl
theorem rinfProc : (Tryz.prog.info? 43).map (fun i => (i.zero, i.size, i.bytes)) = some (some (.agg #[.int .i64 0, .int .i64 0, .slice none 0 0, .int .i64 0, .int .i64 0, .int .i64 0, .int .i64 0, .int .i64 0, .string ⟨#[]⟩, .string ⟨#[]⟩, .int .i64 0, .int .i64 0]), 12, 128) := by kernel_rfl
theorem own_empty {w : World} {base g : Nat} {e : TypeId} {size : Nat} (hg : w.heap[g]? = some (.cells #[] e (0, 0))) (hb : base ≤ g) : w.ownsRow base e size (.slice (some ⟨g, 0, none⟩) 0 0) 0 [] :=
 ⟨by simp, .inr ⟨g, 0, #[], rfl, hb, hg, Nat.le_refl _, Nat.zero_le _, by simp, by simp⟩⟩
/-- The copy is the call's own: in the block that was made for it, or in a new one. -/
theorem append_onto {P : Program} (w : World) (base : Nat) (t ty e : TypeId) (i : TypeInfo) (z : Value) (size bytes : Nat) (ht : P.underlying t = some (.slice e)) (hi : P.info? e = some i) (hz : i.zero = some z)
  (hsize : i.size = size) (hby : i.bytes = bytes) (hzs : z.cells.size = size) (hsz : 0 < size) (g : Nat) (hg : w.heap[g]? = some (.cells #[] e (0, 0))) (hbg : base ≤ g) (a : Option Addr) (n cap : Nat) (xs : List Value) (h : Row w a xs) (hl : xs.length = n * size) (h1 : ∀ u ∈ xs, u.oneCell' = true)
  (h63 : n ≤ 1048576) (hb : bytes ≤ 1000) (hbw : base ≤ w.heap.size) :
  ∃ a' cap' w', (Builtin.append_ #[t, t] ty #[.slice (some ⟨g, 0, none⟩) 0 0, .slice a n cap]).run P w = .ok (.slice a' n cap') w' ∧ w'.ownsRow base e size (.slice a' n cap') n xs ∧ w.grownBy w' (some g) ∧ ∀ q ∈ blk a', q = g ∨ q = w.heap.size := by
 cases a with
 | none =>
  have hx : xs = [] := by
   cases xs with
   | nil => rfl
   | cons u r =>
    obtain ⟨g, e', _⟩ := h 0 u rfl
    cases e'
  subst hx
  have hn : n = 0 := by
   cases n with
   | zero => rfl
   | succ n => simp only [List.length_nil, Nat.succ_mul] at hl; omega
  subst hn
  refine ⟨some ⟨g, 0, none⟩, 0, w, ?_, own_empty hg hbg, ⟨rfl, rfl, rfl, Nat.le_refl _, fun _ _ _ => rfl⟩, fun q hq => by simp [blk] at hq; exact .inl hq⟩
  simp [Builtin.append_, run_underlying ht, sizeOf, typeInfo, hi, Builtin.lenOf, Builtin.firstCells, storeCells]
 | some ad =>
  have hnews : ∀ j u, xs[j]? = some u → w.cell? (ad.add j) = some u := fun j u hu => by
   obtain ⟨g, e', hc⟩ := h j u hu
   cases e'
   rw [add_off]
   exact hc
  obtain ⟨v', w', hr, ho, hgr, -, hbl⟩ := run_append_own_at (P := P) w base t ty e i z size bytes ht hi hz hsize hby hzs hsz (.slice (some ⟨g, 0, none⟩) 0 0) 0 [] (own_empty hg hbg) ad n cap xs hl hnews h1 (by unfold maxLen; omega) (by rw [Nat.zero_add]; have := Nat.mul_le_mul h63 hb; omega) hbw
  simp only [Nat.zero_add, List.nil_append] at ho
  obtain ⟨a', cap', rfl, -⟩ := own_form ho
  refine ⟨a', cap', w', hr, ho, hgr, fun q hq => ?_⟩
  rw [mem_blk] at hq
  cases a' with
  | none => simp at hq
  | some ad' =>
   simp only [Option.map_some, Option.some.injEq] at hq
   subst hq
   rcases hbl with hbl | hbl
   ·exact .inl (by simpa [Value.ownBlock] using hbl)
   ·exact .inr (by simpa [Value.ownBlock] using hbl)
theorem one_sem {l : List SemD} : ∀ u ∈ semK.flat l, u.oneCell' = true := fun u hu => by
 obtain ⟨x, _, hx⟩ := List.mem_flatMap.1 hu
 simp only [semK, semVals, List.mem_cons, List.not_mem_nil, or_false] at hx
 rcases hx with rfl | rfl | rfl <;> rfl
theorem one_event {l : List EventD} : ∀ u ∈ eventK.flat l, u.oneCell' = true := fun u hu => by
 obtain ⟨x, _, hx⟩ := List.mem_flatMap.1 hu
 simp only [eventK, eventVals, List.mem_cons, List.not_mem_nil, or_false] at hx
 rcases hx with rfl | rfl <;> rfl
theorem one_board {l : List BoardD} : ∀ u ∈ boardK.flat l, u.oneCell' = true := fun u hu => by
 obtain ⟨x, _, hx⟩ := List.mem_flatMap.1 hu
 simp only [boardK, boardVals, List.mem_cons, List.not_mem_nil, or_false] at hx
 rcases hx with rfl | rfl | rfl <;> rfl
theorem ontoSem (w : World) (base g : Nat) (hg : w.heap[g]? = some (.cells #[] 49 (0, 0))) (hbg : base ≤ g) (a : Option Addr) (l : List SemD) (cap : Nat) (h : Row w a (semK.flat l)) (hl : l.length ≤ 1048576) (hbw : base ≤ w.heap.size) :
  ∃ a' cap' w', (Builtin.append_ #[26, 26] 26 #[.slice (some ⟨g, 0, none⟩) 0 0, .slice a l.length cap]).run Tryz.prog w = .ok (.slice a' l.length cap') w' ∧ w'.ownsRow base 49 3 (.slice a' l.length cap') l.length (semK.flat l) ∧ w.grownBy w' (some g) ∧ ∀ q ∈ blk a', q = g ∨ q = w.heap.size := by
 obtain ⟨i, hi, e⟩ := Option.map_eq_some_iff.1 rinfSem
 simp only [Prod.mk.injEq] at e
 exact append_onto w base _ _ 49 i _ 3 24 Tryz.underlying26 hi e.1 e.2.1 e.2.2 rfl (by decide) g hg hbg a l.length cap _ h (semK.flat_length l) one_sem hl (by decide) hbw
theorem ontoEvent (w : World) (base g : Nat) (hg : w.heap[g]? = some (.cells #[] 138 (0, 0))) (hbg : base ≤ g) (a : Option Addr) (l : List EventD) (cap : Nat) (h : Row w a (eventK.flat l)) (hl : l.length ≤ 1048576) (hbw : base ≤ w.heap.size) :
  ∃ a' cap' w', (Builtin.append_ #[27, 27] 27 #[.slice (some ⟨g, 0, none⟩) 0 0, .slice a l.length cap]).run Tryz.prog w = .ok (.slice a' l.length cap') w' ∧ w'.ownsRow base 138 2 (.slice a' l.length cap') l.length (eventK.flat l) ∧ w.grownBy w' (some g) ∧ ∀ q ∈ blk a', q = g ∨ q = w.heap.size := by
 obtain ⟨i, hi, e⟩ := Option.map_eq_some_iff.1 rinfEvent
 simp only [Prod.mk.injEq] at e
 exact append_onto w base _ _ 138 i _ 2 16 Tryz.underlying27 hi e.1 e.2.1 e.2.2 rfl (by decide) g hg hbg a l.length cap _ h (eventK.flat_length l) one_event hl (by decide) hbw
theorem ontoBoard (w : World) (base g : Nat) (hg : w.heap[g]? = some (.cells #[] 141 (0, 0))) (hbg : base ≤ g) (a : Option Addr) (l : List BoardD) (cap : Nat) (h : Row w a (boardK.flat l)) (hl : l.length ≤ 1048576) (hbw : base ≤ w.heap.size) :
  ∃ a' cap' w', (Builtin.append_ #[28, 28] 28 #[.slice (some ⟨g, 0, none⟩) 0 0, .slice a l.length cap]).run Tryz.prog w = .ok (.slice a' l.length cap') w' ∧ w'.ownsRow base 141 3 (.slice a' l.length cap') l.length (boardK.flat l) ∧ w.grownBy w' (some g) ∧ ∀ q ∈ blk a', q = g ∨ q = w.heap.size := by
 obtain ⟨i, hi, e⟩ := Option.map_eq_some_iff.1 rinfBoard
 simp only [Prod.mk.injEq] at e
 exact append_onto w base _ _ 141 i _ 3 32 Tryz.underlying28 hi e.1 e.2.1 e.2.2 rfl (by decide) g hg hbg a l.length cap _ h (boardK.flat_length l) one_board hl (by decide) hbw
theorem ontoOp (w : World) (base g : Nat) (hg : w.heap[g]? = some (.cells #[] 134 (0, 0))) (hbg : base ≤ g) (a : Option Addr) (l : List OpD) (cap : Nat) (h : Row w a (opK.flat l)) (hl : l.length ≤ 1048576) (hbw : base ≤ w.heap.size) :
  ∃ a' cap' w', (Builtin.append_ #[37, 37] 37 #[.slice (some ⟨g, 0, none⟩) 0 0, .slice a l.length cap]).run Tryz.prog w = .ok (.slice a' l.length cap') w' ∧ w'.ownsRow base 134 4 (.slice a' l.length cap') l.length (opK.flat l) ∧ w.grownBy w' (some g) ∧ ∀ q ∈ blk a', q = g ∨ q = w.heap.size := by
 obtain ⟨i, hi, e⟩ := Option.map_eq_some_iff.1 opInfoL
 simp only [Prod.mk.injEq] at e
 exact append_onto w base _ _ 134 i _ 4 40 Tryz.underlying37 hi e.1 e.2.1 e.2.2 rfl (by decide) g hg hbg a l.length cap _ h (opK.flat_length l) one_op hl (by decide) hbw
theorem ontoStr (w : World) (base g : Nat) (hg : w.heap[g]? = some (.cells #[] 9 (0, 0))) (hbg : base ≤ g) (a : Option Addr) (l : List ByteArray) (cap : Nat) (h : Row w a (strK.flat l)) (hl : l.length ≤ 1048576) (hbw : base ≤ w.heap.size) :
  ∃ a' cap' w', (Builtin.append_ #[59, 59] 59 #[.slice (some ⟨g, 0, none⟩) 0 0, .slice a l.length cap]).run Tryz.prog w = .ok (.slice a' l.length cap') w' ∧ w'.ownsRow base 9 1 (.slice a' l.length cap') l.length (strK.flat l) ∧ w.grownBy w' (some g) ∧ ∀ q ∈ blk a', q = g ∨ q = w.heap.size := by
 obtain ⟨i, hi, e⟩ := Option.map_eq_some_iff.1 strInfo
 simp only [Prod.mk.injEq] at e
 exact append_onto w base _ _ 9 i _ 1 16 Tryz.underlying59 hi e.1 e.2.1 e.2.2 rfl (by decide) g hg hbg a l.length cap _ h (strK.flat_length l) one_str hl (by decide) hbw
section
variable {P : Program} {Q : Exit → Act → World → Prop} {K : Act → World → Prop} {o : Oper} {a : Act} {w : World}
theorem oper_append (s x : Operand) (t : TypeId) (ho : o.op = .call { callee := .builtin .append, args := #[s, x], argTypes := #[t, t] }) (v u r : Value) (w' : World) (hs : a.eval s = v) (hx : a.eval x = u) (hr : (Builtin.append_ #[t, t] o.type #[v, u]).run P w = .ok r w')
  (h : K (a.put o.dst r) w') : Oper.wp P o a w K Q := by
 unfold Oper.wp execOp
 simp only [ho, resolve, invoke, builtin, Sem.run_bind, Sem.run_pure, Result.andThen_ok, List.map_toArray, List.map_cons, List.map_nil, hs, hx, hr]
 exact h
theorem oper_store (ty : TypeId) (x y : Operand) (ho : o.op = .store ty x y) (g : Nat) (t : TypeId) (old cells : Array Value) (hx : a.eval x = .pointer (some ⟨g, 0, none⟩)) (hy : a.eval y = .agg cells) (hg : w.heap[g]? = some (.cells old t (0, 0))) (hi : (P.info? ty).map (·.size) = some cells.size)
  (hs : old.size = cells.size) (h1 : cells.all (·.oneCell') = true) (h : K (a.put o.dst undef) (w.setRow g cells)) : Oper.wp P o a w K Q := by
 unfold Oper.wp execOp
 simp only [ho, hx, hy, Instr.storeAt, Instr.sureAddr, Sem.run_bind, Sem.run_pure, Result.andThen_ok, run_storeVar_row w g t ty old cells hg hi hs h1]
 exact h
theorem wpList_store_row {ops : Array Oper} {rest : List Oper} (hgd : o.guard = none) (ty : TypeId) (x y : Operand) (ho : o.op = .store ty x y) (g : Nat) (t : TypeId) (old cells : Array Value) (hx : a.eval x = .pointer (some ⟨g, 0, none⟩)) (hy : a.eval y = .agg cells) (hg : w.heap[g]? = some (.cells old t (0, 0))) (hi : (P.info? ty).map (·.size) = some cells.size)
  (hs : old.size = cells.size) (h1 : cells.all (·.oneCell') = true) (h : wpList P ops Q rest (a.put o.dst undef) (w.setRow g cells)) : wpList P ops Q (o :: rest) a w :=
 wpList_plain hgd fun _ hK => oper_store ty x y ho g t old cells hx hy hg hi hs h1 (hK _ _ h)
end
/-- A list on its way to be copied: an empty slice is made for it (b), it is copied (c). -/
structure SlotIs (w : World) (base : Nat) (T : TypeId) (size len : Nat) (xs : List Value) (b c : Bool) (g : Nat) (a : Option Addr) (cap : Nat) : Prop where
 made : b = true → c = false → w.heap[g]? = some (.cells #[] T (0, 0)) ∧ base ≤ g
 done : c = true → w.ownsRow base T size (.slice a len cap) len xs
def slotB (b c : Bool) (g : Nat) (a : Option Addr) : List Nat := bif c then blk a else bif b then [g] else []
theorem SlotIs.same {w w' : World} {base : Nat} {T : TypeId} {size len : Nat} {xs : List Value} {b c : Bool} {g : Nat} {a : Option Addr} {cap : Nat} (h : SlotIs w base T size len xs b c g a cap) (hs : ∀ q ∈ slotB b c g a, w'.heap[q]? = w.heap[q]?) : SlotIs w' base T size len xs b c g a cap := by
 refine ⟨fun hb hc => ?_, fun hc => ?_⟩
 ·subst hb hc
  exact ⟨(hs g (by simp [slotB])).trans (h.made rfl rfl).1, (h.made rfl rfl).2⟩
 ·subst hc
  exact own_same (h.done rfl) fun q hq => hs q (by simpa [slotB] using hq)
end Go.Proofs.YtkbcplnlehdjfaaGreat
