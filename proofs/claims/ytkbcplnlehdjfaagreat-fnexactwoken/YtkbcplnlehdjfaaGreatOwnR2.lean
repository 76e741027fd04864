/- What the proof leans on, part 2: Mem, OpsAt, OpForms. -/
import Derived.Deep.RegionHeld3
import Derived.Deep.DrawnRows
import Derived.Test.YtkbcplnlehdjfaaGreatOwnR1

namespace Go.Proofs.YtkbcplnlehdjfaaGreat
open Go.RowKit
/-- Values lie one behind the other from an address on; none may lie nowhere. -/
def Row (w : World) (a : Option Addr) (xs : List Value) : Prop := ∀ (j : Nat) (u : Value), xs[j]? = some u → ∃ g, a = some ⟨g, 0, none⟩ ∧ w.cell? ⟨g, j, none⟩ = some u
section
variable {w w' : World} {a : Option Addr} {xs : List Value}
theorem Row.nothing (w : World) (a : Option Addr) : Row w a [] := fun j u h => by simp at h
theorem Row.same (h : Row w a xs) (hs : ∀ g, a = some ⟨g, 0, none⟩ → w'.heap[g]? = w.heap[g]?) : Row w' a xs := fun j u hu => by
 obtain ⟨g, e, hc⟩ := h j u hu
 exact ⟨g, e, (World.cell?_of_block (w := w) (a := ⟨g, j, none⟩) (hs g e)).trans hc⟩
theorem Row.below (h : Row w a xs) (hb : Below w.heap.size w w') : Row w' a xs := fun j u hu => by
 obtain ⟨g, e, hc⟩ := h j u hu
 exact ⟨g, e, (hb.cell (p := ⟨g, j, none⟩) (block_lt_of_cell hc)).trans hc⟩
theorem Row.low {base : Nat} (h : Row w a xs) (ha : ∀ q, a = some q → q.block < base) (hb : Below base w w') : Row w' a xs := h.same fun g e => hb.block g (ha _ e)
theorem Row.drew (h : Row w a xs) : Row w.drew a xs := h
end
/-- The same of a slice that came in, which may begin anywhere. -/
def Src (w : World) (a : Option Addr) (xs : List Value) : Prop := ∀ (j : Nat) (u : Value), xs[j]? = some u → ∃ b off, a = some ⟨b, off, none⟩ ∧ w.cell? ⟨b, off + j, none⟩ = some u
theorem Src.below {w w' : World} {a : Option Addr} {xs : List Value} (h : Src w a xs) (hb : Below w.heap.size w w') : Src w' a xs := fun j u hu => by
 obtain ⟨b, off, e, hc⟩ := h j u hu
 exact ⟨b, off, e, (hb.cell (p := ⟨b, off + j, none⟩) (block_lt_of_cell hc)).trans hc⟩
/-- A kind of things: the cells of each, and the rows that it names. -/
structure Kind (α : Type) where
 n : Nat
 vals : α → List Value
 kids : α → List (Option Addr × List Value)
 pos : 0 < n
 len : ∀ x, (vals x).length = n
section
variable {α : Type} (K : Kind α)
def Kind.flat (l : List α) : List Value := l.flatMap K.vals
theorem Kind.flat_length (l : List α) : (K.flat l).length = l.length * K.n := by
 induction l with
 | nil => simp [Kind.flat]
 | cons x r ih =>
  show (K.vals x ++ K.flat r).length = _
  rw [List.length_append, ih, K.len, List.length_cons, Nat.succ_mul]
  omega
theorem Kind.flat_get {l : List α} {i : Nat} {x : α} (hx : l[i]? = some x) {j : Nat} (hj : j < K.n) : (K.flat l)[i * K.n + j]? = (K.vals x)[j]? := by
 induction l generalizing i with
 | nil => simp at hx
 | cons y r ih =>
  show (K.vals y ++ K.flat r)[_]? = _
  cases i with
  | zero =>
   simp at hx
   subst hx
   rw [Nat.zero_mul, Nat.zero_add, List.getElem?_append_left (by rw [K.len]; exact hj)]
  | succ i =>
   have hx' : r[i]? = some x := by simpa using hx
   rw [List.getElem?_append_right (by rw [K.len, Nat.succ_mul]; omega), K.len, show (i + 1) * K.n + j - K.n = i * K.n + j by rw [Nat.succ_mul]; omega]
   exact ih hx'
theorem Kind.flat_append (l r : List α) : K.flat (l ++ r) = K.flat l ++ K.flat r := List.flatMap_append
theorem Kind.flat_one (x : α) : K.flat [x] = K.vals x := by simp [Kind.flat]
/-- A list of things lies from an address on, and each row that one of them names. -/
def Kind.Lies (w : World) (a : Option Addr) (l : List α) : Prop := Row w a (K.flat l) ∧ ∀ x ∈ l, ∀ r ∈ K.kids x, Row w r.1 r.2
variable {K}
theorem Kind.Lies.at {w : World} {a : Option Addr} {l : List α} (h : K.Lies w a l) {i : Nat} {x : α} (hx : l[i]? = some x) :
  ∃ g, a = some ⟨g, 0, none⟩ ∧ ∀ (j : Nat) (u : Value), (K.vals x)[j]? = some u → w.cell? ⟨g, i * K.n + j, none⟩ = some u := by
 have h0 : ∃ u, (K.vals x)[0]? = some u := ⟨_, List.getElem?_eq_getElem (by rw [K.len]; exact K.pos)⟩
 obtain ⟨u0, hu0⟩ := h0
 obtain ⟨g, e, _⟩ := h.1 (i * K.n + 0) u0 ((K.flat_get hx K.pos).trans hu0)
 refine ⟨g, e, fun j u hu => ?_⟩
 have hj : j < K.n := by
  rw [← K.len x]
  exact (List.getElem?_eq_some_iff.1 hu).1
 obtain ⟨g', e', hc⟩ := h.1 (i * K.n + j) u ((K.flat_get hx hj).trans hu)
 rw [e] at e'
 cases e'
 exact hc
theorem Kind.Lies.kid {w : World} {a : Option Addr} {l : List α} (h : K.Lies w a l) {i : Nat} {x : α} (hx : l[i]? = some x) {r : Option Addr × List Value} (hr : r ∈ K.kids x) : Row w r.1 r.2 := h.2 x (List.mem_of_getElem? hx) r hr
variable (K) in
def Kind.Came (w : World) (a : Option Addr) (l : List α) : Prop := Src w a (K.flat l) ∧ ∀ x ∈ l, ∀ r ∈ K.kids x, Src w r.1 r.2
theorem Kind.Came.at {w : World} {a : Option Addr} {l : List α} (h : K.Came w a l) {i : Nat} {x : α} (hx : l[i]? = some x) :
  ∃ b off, a = some ⟨b, off, none⟩ ∧ ∀ (j : Nat) (u : Value), (K.vals x)[j]? = some u → w.cell? ⟨b, off + i * K.n + j, none⟩ = some u := by
 have h0 : ∃ u, (K.vals x)[0]? = some u := ⟨_, List.getElem?_eq_getElem (by rw [K.len]; exact K.pos)⟩
 obtain ⟨u0, hu0⟩ := h0
 obtain ⟨b, off, e, _⟩ := h.1 (i * K.n + 0) u0 ((K.flat_get hx K.pos).trans hu0)
 refine ⟨b, off, e, fun j u hu => ?_⟩
 have hj : j < K.n := by
  rw [← K.len x]
  exact (List.getElem?_eq_some_iff.1 hu).1
 obtain ⟨b', off', e', hc⟩ := h.1 (i * K.n + j) u ((K.flat_get hx hj).trans hu)
 rw [e] at e'
 cases e'
 rw [Nat.add_assoc]
 exact hc
theorem Kind.Came.kid {w : World} {a : Option Addr} {l : List α} (h : K.Came w a l) {i : Nat} {x : α} (hx : l[i]? = some x) {r : Option Addr × List Value} (hr : r ∈ K.kids x) : Src w r.1 r.2 := h.2 x (List.mem_of_getElem? hx) r hr
theorem Kind.Came.below {w w' : World} {a : Option Addr} {l : List α} (h : K.Came w a l) (hb : Below w.heap.size w w') : K.Came w' a l := ⟨h.1.below hb, fun x hx r hr => (h.2 x hx r hr).below hb⟩
theorem Kind.Lies.below {w w' : World} {a : Option Addr} {l : List α} (h : K.Lies w a l) (hb : Below w.heap.size w w') : K.Lies w' a l := ⟨h.1.below hb, fun x hx r hr => (h.2 x hx r hr).below hb⟩
end
/-- Ops, four cells each. -/
def opVals (o : OpD) : List Value := [.int .i64 o.1, .int .i64 o.2.1, .int .i64 o.2.2.1, .string o.2.2.2]
def opK : Kind OpD := ⟨4, opVals, fun _ => [], by decide, fun _ => rfl⟩
/-- Texts, a cell each. -/
def strK : Kind ByteArray := ⟨1, fun s => [.string s], fun _ => [], by decide, fun _ => rfl⟩
end Go.Proofs.YtkbcplnlehdjfaaGreat

/- The ops of a program in a block; whether a program is right. -/
namespace Go.Proofs.YtkbcplnlehdjfaaGreat
open Go.RowKit
/-- The ops of a program lie in block g. -/
def OpsAt (w : World) (g len : Nat) (K N M : Nat → Int) (S : Nat → ByteArray) : Prop := g < w.heap.size ∧ ∀ j, j < len * 4 → w.cell? ⟨g, j, none⟩ = some (opV K N M S j)
theorem OpsAt.of_block {w w' : World} {g len : Nat} {K N M : Nat → Int} {S : Nat → ByteArray} (h : OpsAt w g len K N M S) (e : w'.heap[g]? = w.heap[g]?) : OpsAt w' g len K N M S := by
 refine ⟨?_, fun j hj => (World.cell?_of_block (w := w) e).trans (h.2 j hj)⟩
 have h1 := h.1
 rw [Array.getElem?_eq_getElem h1] at e
 exact (Array.getElem?_eq_some_iff.1 e).1
theorem OpsAt.below {w w' : World} {g len : Nat} {K N M : Nat → Int} {S : Nat → ByteArray} (h : OpsAt w g len K N M S) (hb : Below w.heap.size w w') : OpsAt w' g len K N M S := h.of_block (hb.block g h.1)
theorem OpsAt.c0 {w : World} {g len : Nat} {K N M : Nat → Int} {S : Nat → ByteArray} (h : OpsAt w g len K N M S) {i : Nat} (hi : i < len) : w.cell? ⟨g, i * 4, none⟩ = some (.int .i64 (K i)) := by rw [← opV_0 K N M S]; exact h.2 _ (by omega)
theorem OpsAt.c1 {w : World} {g len : Nat} {K N M : Nat → Int} {S : Nat → ByteArray} (h : OpsAt w g len K N M S) {i : Nat} (hi : i < len) : w.cell? ⟨g, i * 4 + 1, none⟩ = some (.int .i64 (N i)) := by rw [← opV_1 K N M S]; exact h.2 _ (by omega)
theorem OpsAt.c2 {w : World} {g len : Nat} {K N M : Nat → Int} {S : Nat → ByteArray} (h : OpsAt w g len K N M S) {i : Nat} (hi : i < len) : w.cell? ⟨g, i * 4 + 2, none⟩ = some (.int .i64 (M i)) := by rw [← opV_2 K N M S]; exact h.2 _ (by omega)
theorem OpsAt.c3 {w : World} {g len : Nat} {K N M : Nat → Int} {S : Nat → ByteArray} (h : OpsAt w g len K N M S) {i : Nat} (hi : i < len) : w.cell? ⟨g, i * 4 + 3, none⟩ = some (.string (S i)) := by rw [← opV_3 K N M S]; exact h.2 _ (by omega)
def opAtB (K N M : Nat → Int) (S : Nat → ByteArray) (i : Nat) : Bool := opB (K i) (N i) (M i) (S i)
/-- Whether a program is right. -/
def progB (len : Nat) (K N M : Nat → Int) (S : Nat → ByteArray) : Bool := decide (1 ≤ len ∧ len ≤ 20 ∧ ∀ i, i < len → opAtB K N M S i = true)
theorem progB_true {len : Nat} {K N M : Nat → Int} {S : Nat → ByteArray} (h : 1 ≤ len ∧ len ≤ 20 ∧ ∀ i, i < len → opAtB K N M S i = true) : progB len K N M S = true := by simp only [progB]; exact decide_eq_true h
theorem progB_false {len : Nat} {K N M : Nat → Int} {S : Nat → ByteArray} (h : ¬ (1 ≤ len ∧ len ≤ 20 ∧ ∀ i, i < len → opAtB K N M S i = true)) : progB len K N M S = false := by simp only [progB]; exact decide_eq_false h
end Go.Proofs.YtkbcplnlehdjfaaGreat

/- The forms of ops: what form an op has, and what op a form is. -/
namespace Go.Proofs.YtkbcplnlehdjfaaGreat
open Go.RowKit
attribute [local go_sem ↓] Go.wp_at_zero Go.wp_at_succ
set_option maxHeartbeats 1000000 in
theorem asOp_bare (k : Int) (w : World) : Calls Tryz.prog 320 #[.agg #[.int .i64 k]] w fun e w' => e = .returned (.agg #[.int .i64 k, .int .i64 0, .int .i64 0, .string ByteArray.empty]) ∧ Below w.heap.size w w' := by
 go_enter Tryz.func320, Tryz.ntmps320
 go_wp2
 exact bodyPost_ret (v := .agg #[.int .i64 k, .int .i64 0, .int .i64 0, .string ByteArray.empty]) (by simp [results, Tryz.results320, go_sem]; try rfl) rfl ⟨rfl, by go_grown⟩
set_option maxHeartbeats 1000000 in
theorem asOp_number (k n : Int) (w : World) : Calls Tryz.prog 316 #[.agg #[.int .i64 k, .int .i64 n]] w fun e w' => e = .returned (.agg #[.int .i64 k, .int .i64 n, .int .i64 0, .string ByteArray.empty]) ∧ Below w.heap.size w w' := by
 go_enter Tryz.func316, Tryz.ntmps316
 go_wp2
 exact bodyPost_ret (v := .agg #[.int .i64 k, .int .i64 n, .int .i64 0, .string ByteArray.empty]) (by simp [results, Tryz.results316, go_sem]; try rfl) rfl ⟨rfl, by go_grown⟩
set_option maxHeartbeats 1000000 in
theorem asOp_wait (k n m : Int) (w : World) : Calls Tryz.prog 317 #[.agg #[.int .i64 k, .int .i64 n, .int .i64 m]] w fun e w' => e = .returned (.agg #[.int .i64 k, .int .i64 n, .int .i64 m, .string ByteArray.empty]) ∧ Below w.heap.size w w' := by
 go_enter Tryz.func317, Tryz.ntmps317
 go_wp2
 exact bodyPost_ret (v := .agg #[.int .i64 k, .int .i64 n, .int .i64 m, .string ByteArray.empty]) (by simp [results, Tryz.results317, go_sem]; try rfl) rfl ⟨rfl, by go_grown⟩
set_option maxHeartbeats 1000000 in
theorem asOp_send (k n m : Int) (s : ByteArray) (w : World) : Calls Tryz.prog 318 #[.agg #[.int .i64 k, .int .i64 n, .int .i64 m, .string s]] w fun e w' => e = .returned (.agg #[.int .i64 k, .int .i64 n, .int .i64 m, .string s]) ∧ Below w.heap.size w w' := by
 go_enter Tryz.func318, Tryz.ntmps318
 go_wp2
 exact bodyPost_ret (v := .agg #[.int .i64 k, .int .i64 n, .int .i64 m, .string s]) (by simp [results, Tryz.results318, go_sem]; try rfl) rfl ⟨rfl, by go_grown⟩
set_option maxHeartbeats 1000000 in
theorem asOp_text (k n : Int) (s : ByteArray) (w : World) : Calls Tryz.prog 319 #[.agg #[.int .i64 k, .int .i64 n, .string s]] w fun e w' => e = .returned (.agg #[.int .i64 k, .int .i64 n, .int .i64 0, .string s]) ∧ Below w.heap.size w w' := by
 go_enter Tryz.func319, Tryz.ntmps319
 go_wp2
 exact bodyPost_ret (v := .agg #[.int .i64 k, .int .i64 n, .int .i64 0, .string s]) (by simp [results, Tryz.results319, go_sem]; try rfl) rfl ⟨rfl, by go_grown⟩
set_option maxHeartbeats 4000000 in
theorem formOf_num (k n m : Int) (s : ByteArray) (w : World) (hk : isNum k) :
  Calls Tryz.prog 290 #[.agg #[.int .i64 k, .int .i64 n, .int .i64 m, .string s]] w fun e w' => e = .returned (.tuple #[.iface 330 (.agg #[.int .i64 k, .int .i64 n]), .bool true]) ∧ Below w.heap.size w w' := by
 rcases hk with rfl | rfl | rfl | rfl | rfl | rfl | rfl | rfl | rfl
 all_goals
  go_enter Tryz.func290, Tryz.ntmps290
  go_wp2
  go_ret2
  exact ⟨rfl, by go_grown⟩
set_option maxHeartbeats 4000000 in
theorem formOf_wait (k n m : Int) (s : ByteArray) (w : World) (hk : isWait k) :
  Calls Tryz.prog 290 #[.agg #[.int .i64 k, .int .i64 n, .int .i64 m, .string s]] w fun e w' => e = .returned (.tuple #[.iface 332 (.agg #[.int .i64 k, .int .i64 n, .int .i64 m]), .bool true]) ∧ Below w.heap.size w w' := by
 rcases hk with rfl | rfl | rfl | rfl
 all_goals
  go_enter Tryz.func290, Tryz.ntmps290
  go_wp2
  go_ret2
  exact ⟨rfl, by go_grown⟩
set_option maxHeartbeats 4000000 in
theorem formOf_send (k n m : Int) (s : ByteArray) (w : World) (hk : k = 8) :
  Calls Tryz.prog 290 #[.agg #[.int .i64 k, .int .i64 n, .int .i64 m, .string s]] w fun e w' => e = .returned (.tuple #[.iface 334 (.agg #[.int .i64 k, .int .i64 n, .int .i64 m, .string s]), .bool true]) ∧ Below w.heap.size w w' := by
 rcases hk with rfl
 all_goals
  go_enter Tryz.func290, Tryz.ntmps290
  go_wp2
  go_ret2
  exact ⟨rfl, by go_grown⟩
set_option maxHeartbeats 4000000 in
theorem formOf_text (k n m : Int) (s : ByteArray) (w : World) (hk : isText k) :
  Calls Tryz.prog 290 #[.agg #[.int .i64 k, .int .i64 n, .int .i64 m, .string s]] w fun e w' => e = .returned (.tuple #[.iface 336 (.agg #[.int .i64 k, .int .i64 n, .string s]), .bool true]) ∧ Below w.heap.size w w' := by
 rcases hk with rfl | rfl
 all_goals
  go_enter Tryz.func290, Tryz.ntmps290
  go_wp2
  go_ret2
  exact ⟨rfl, by go_grown⟩
set_option maxHeartbeats 4000000 in
theorem formOf_loop (k n m : Int) (s : ByteArray) (w : World) (hk : k = 17) :
  Calls Tryz.prog 290 #[.agg #[.int .i64 k, .int .i64 n, .int .i64 m, .string s]] w fun e w' => e = .returned (.tuple #[.iface 338 (.agg #[.int .i64 k]), .bool true]) ∧ Below w.heap.size w w' := by
 rcases hk with rfl
 all_goals
  go_enter Tryz.func290, Tryz.ntmps290
  go_wp2
  go_ret2
  exact ⟨rfl, by go_grown⟩
set_option maxHeartbeats 4000000 in
theorem formOf_none (k n m : Int) (s : ByteArray) (w : World) (hk : ¬ (1 ≤ k ∧ k ≤ 17)) :
  Calls Tryz.prog 290 #[.agg #[.int .i64 k, .int .i64 n, .int .i64 m, .string s]] w fun e w' => e = .returned (.tuple #[.iface 338 (.agg #[.int .i64 0]), .bool false]) ∧ Below w.heap.size w w' := by
 have e1 : (k == 1) = false := by simp; omega
 have e2 : (k == 2) = false := by simp; omega
 have e3 : (k == 3) = false := by simp; omega
 have e4 : (k == 4) = false := by simp; omega
 have e5 : (k == 5) = false := by simp; omega
 have e6 : (k == 6) = false := by simp; omega
 have e7 : (k == 7) = false := by simp; omega
 have e8 : (k == 8) = false := by simp; omega
 have e9 : (k == 9) = false := by simp; omega
 have e10 : (k == 10) = false := by simp; omega
 have e11 : (k == 11) = false := by simp; omega
 have e12 : (k == 12) = false := by simp; omega
 have e13 : (k == 13) = false := by simp; omega
 have e14 : (k == 14) = false := by simp; omega
 have e15 : (k == 15) = false := by simp; omega
 have e16 : (k == 16) = false := by simp; omega
 have e17 : (k == 17) = false := by simp; omega
 go_enter Tryz.func290, Tryz.ntmps290
 go_wp2
 go_ret2
 exact ⟨rfl, by go_grown⟩
end Go.Proofs.YtkbcplnlehdjfaaGreat
