/- The iterator over a table's windows. -/
import Derived.Test.YtlaeilcipibelaaDoorTable
import Derived.Test.YtlaeilcipibelaaDoorRange
import Derived.OwnWalkIn
import Derived.TacticsInMore
import Derived.LoopNIn
import Derived.LoopIn
import Derived.Shelf.Abstract
namespace Go.Proofs.YtlaeilcipibelaaDoor
open Go.RowKit
attribute [local go_sem] Oper.semAt_some

theorem wpListIn_loadTab {F : Fence} {n : Nat} {ops : Array Oper} {rest : List Oper} {op : Oper} {a : Act} {w : World} {Q : Exit → Act → World → Prop} (hgd : op.guard = none) (x : Operand) (ho : op.op = .load 59 x)
    (g : Nat) (hx : a.eval x = .pointer (some ⟨g, 0, none⟩)) (cs : Array Value) (hg : w.heap[g]? = some (.cells cs 59 (0, 0))) (hs : cs.size = 62)
    (h : wpListIn F n Tryd.prog ops Q rest (a.put op.dst (.agg cs)) w) : wpListIn F n Tryd.prog ops Q (op :: rest) a w := by
  refine wpListIn_plain hgd fun K hK => ⟨?_, ?_⟩
  · simp [Oper.about, ho]
  · rw [Oper.semAt_plain F _ _ (by rw [ho]; intro c hc; cases hc)]
    simp only [execOp, ho, hx, Instr.loadAt, Instr.sureAddr, Sem.run_bind, Sem.run_pure, Result.andThen_ok, run_loadVar_row w g 59 59 cs (0, 0) _ hg Tryd.underlying59 rfl (by rw [tabSize, hs])]
    exact hK _ _ h

theorem IsTab.count {m : Int} {n : Nat} {Z : Nat → Int} {cs : Array Value} (h : IsTab m n Z cs) : cs[1]? = some (.int .i64 n) := by
  rw [h.2 1 (by decide)]; rfl
theorem IsTab.major {m : Int} {n : Nat} {Z : Nat → Int} {cs : Array Value} (h : IsTab m n Z cs) : cs[0]? = some (.int .i64 m) := by
  rw [h.2 0 (by decide)]; rfl
theorem IsTab.win {m : Int} {n : Nat} {Z : Nat → Int} {cs : Array Value} (h : IsTab m n Z cs) (hn : n ≤ 20) {j : Nat} (hj : j < n * 3) : cs[2 + j]? = some (.int .i64 (Z j)) := by
  rw [h.2 (2 + j) (by omega)]
  unfold tabF
  rw [if_neg (by omega), if_neg (by omega), if_pos (by omega), show 2 + j - 2 = j by omega]

def winV (Z : Nat → Int) (k : Nat) : Value := .agg #[.int .i64 (Z (k * 3)), .int .i64 (Z (k * 3 + 1)), .int .i64 (Z (k * 3 + 2))]

set_option maxHeartbeats 1000000 in
theorem all_iter (cs : Array Value) (major : Int) (len : Nat) (Z : Nat → Int) (h : IsTab major len Z cs) (hn : len ≤ 20) (B : Nat) : Iter Tryd.prog 35 #[.agg cs] (fun k => #[winV Z k]) len B := by
  intro l M Mx W hB hM hY h0
  have hsz := h.1
  have hlt1 : 1 < cs.size := by omega
  have hcount : cs[1] = .int .i64 len := by have := h.count; rw [Array.getElem?_eq_getElem hlt1] at this; exact Option.some.inj this
  have HM : Hid (∀ k X o, M k X → M k (X.alloc o)) := hM
  have HY : Hid (∀ k X, k < len → M k X → YieldAt Fence.wide 4 Tryd.prog l #[winV Z k] X fun e X' => (e = .returned (.bool true) ∧ M (k + 1) X' ∧ KeptC B X X') ∨ (e = .returned (.bool false) ∧ Mx X')) := hY
  clear hM hY
  refine callsIn_of_wp Tryd.func35 rfl trivial ?_ rfl
  simp only [Tryd.ntmps35, List.size_toArray, List.length_cons, List.length_nil, Nat.reduceAdd, Nat.reduceSub, Array.replicate_succ, Array.replicate_zero, List.push_toArray, List.append_toArray, List.nil_append, List.cons_append]
  gi_wp2
  clear hcount
  gi_loopw [7] (fun i wr => ∃ k : Nat, k ≤ len ∧ i = .int .i64 k ∧ M k wr ∧ wr.heap[W.heap.size]? = some (.cells cs 59 (0, 0))) (fun i _ => len - (intOf i).toNat)
  case atStart => exact ⟨0, Nat.zero_le _, rfl, HM.out _ _ _ h0, heap_alloc_new _ _⟩
  case round =>
    obtain ⟨k, hk, rfl, hMk, hbox⟩ := hrel
    by_cases hlt : k < len
    · have c0 : wr.cell? ⟨W.heap.size, 2 + k * 3, none⟩ = some (.int .i64 (Z (k * 3))) := by rw [cell_of_row wr _ _ cs 59 _ hbox]; exact h.win hn (by omega)
      have c1 : wr.cell? ⟨W.heap.size, 2 + k * 3 + 1, none⟩ = some (.int .i64 (Z (k * 3 + 1))) := by rw [cell_of_row wr _ _ cs 59 _ hbox]; exact h.win hn (j := k * 3 + 1) (by omega)
      have c2 : wr.cell? ⟨W.heap.size, 2 + k * 3 + 2, none⟩ = some (.int .i64 (Z (k * 3 + 2))) := by rw [cell_of_row wr _ _ cs 59 _ hbox]; exact h.win hn (j := k * 3 + 2) (by omega)
      obtain ⟨fn, tmps, assign, body, hy, hR⟩ := HY.out k wr hlt hMk
      simp only [winV] at hy
      have HR : Hid (RoundIn Fence.wide 4 Tryd.prog l fn tmps assign body wr fun e X' => (e = .returned (.bool true) ∧ M (k + 1) X' ∧ KeptC B wr X') ∨ (e = .returned (.bool false) ∧ Mx X')) := hR
      have HBX : Hid (wr.heap[W.heap.size]? = some (.cells cs 59 (0, 0))) := hbox
      clear hR hbox
      gi_wp2
      refine HR.out.mono ?_
      rintro e W3 (⟨rfl, hM3, hk3⟩ | ⟨rfl, hx3⟩)
      · have b3 := hk3.2 W.heap.size cs 59 (0, 0) hB HBX.out
        have HB3 : Hid (W3.heap[W.heap.size]? = some (.cells cs 59 (0, 0))) := b3
        clear b3
        gi_wp2
        go_roundw
        case rel => exact ⟨k + 1, by omega, by go_num, hM3, HB3.out⟩
        case measure => simp [intOf]; omega
      · gi_wp2
        refine bodyPost_ret (results_none rfl _ _ _) rfl ?_
        exact ⟨⟨_, rfl⟩, .inr hx3⟩
    · gi_wp2
      go_end0
      have e : k = len := by omega
      subst e
      exact ⟨⟨_, rfl⟩, .inl hMk⟩

end Go.Proofs.YtlaeilcipibelaaDoor
