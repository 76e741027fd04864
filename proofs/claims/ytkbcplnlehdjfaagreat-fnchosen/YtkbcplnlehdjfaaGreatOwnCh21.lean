/- What the proof leans on, part 21: LwB. -/
import Derived.Test.YtkbcplnlehdjfaaGreatOwnCh19
import Derived.Deep.MidRow

namespace Go.Proofs.YtkbcplnlehdjfaaGreat
open Go.RowKit
def setAll (cur : Array Value) (off : Nat) : List Value → Array Value
 | [] => cur
 | v :: r => setAll (cur.setIfInBounds off v) (off + 1) r
theorem setAll_size : ∀ (vs : List Value) (cur : Array Value) (off : Nat), (setAll cur off vs).size = cur.size
 | [], _, _ => rfl
 | v :: r, cur, off => by rw [setAll, setAll_size r]; simp
theorem setAll_low : ∀ (vs : List Value) (cur : Array Value) (off j : Nat), j < off → (setAll cur off vs)[j]? = cur[j]?
 | [], _, _, _, _ => rfl
 | v :: r, cur, off, j, h => by
  rw [setAll, setAll_low r _ _ _ (by omega), Array.getElem?_setIfInBounds_ne (by omega)]
theorem setAll_at : ∀ (vs : List Value) (cur : Array Value) (off j : Nat) (v : Value), off + vs.length ≤ cur.size → vs[j]? = some v → (setAll cur off vs)[off + j]? = some v
 | [], _, _, _, _, _, h => by simp at h
 | u :: r, cur, off, j, v, hl, h => by
  simp only [List.length_cons] at hl
  cases j with
  | zero =>
   simp only [List.getElem?_cons_zero, Option.some.injEq] at h
   subst h
   rw [setAll, setAll_low r _ _ _ (by omega)]
   simp [show off < cur.size by omega]
  | succ j =>
   have h' : r[j]? = some v := by simpa using h
   have := setAll_at r (cur.setIfInBounds off u) (off + 1) j v (by simp; omega) h'
   rw [setAll, show off + (j + 1) = off + 1 + j by omega]
   exact this
theorem setAll_take {vs : List Value} {cur : Array Value} {off : Nat} (hl : off + vs.length ≤ cur.size) : (setAll cur off vs).toList.take (off + vs.length) = cur.toList.take off ++ vs := by
 apply List.ext_getElem?
 intro j
 rw [List.getElem?_take]
 by_cases h1 : j < off
 ·rw [if_pos (by omega), List.getElem?_append_left (by simp; omega), List.getElem?_take, if_pos h1, Array.getElem?_toList, Array.getElem?_toList, setAll_low _ _ _ _ h1]
 ·by_cases h2 : j < off + vs.length
  ·rw [if_pos h2, List.getElem?_append_right (by simp; omega)]
   have e : (cur.toList.take off).length = off := by simp; omega
   rw [e]
   obtain ⟨d, rfl⟩ : ∃ d, j = off + d := ⟨j - off, by omega⟩
   rw [show off + d - off = d by omega, Array.getElem?_toList, List.getElem?_eq_getElem (by omega)]
   exact setAll_at vs cur off d _ hl (List.getElem?_eq_getElem (by omega))
  ·rw [if_neg h2, List.getElem?_eq_none (by simp; omega)]
def setAllW (w : World) (g off : Nat) : List Value → World
 | [] => w
 | v :: r => setAllW (w.setCell ⟨g, off, none⟩ v) g (off + 1) r
theorem setAllW_heap : ∀ (vs : List Value) {w : World} {g off : Nat} {cur : Array Value} {T : TypeId}, w.heap[g]? = some (.cells cur T (0, 0)) → (setAllW w g off vs).heap[g]? = some (.cells (setAll cur off vs) T (0, 0))
 | [], _, _, _, _, _, h => h
 | v :: r, w, g, off, cur, T, h => setAllW_heap r (heap_setCell_same w g off cur T v h)
theorem setAllW_other : ∀ (vs : List Value) {w : World} {g off k : Nat}, ¬ k = g → (setAllW w g off vs).heap[k]? = w.heap[k]?
 | [], _, _, _, _, _ => rfl
 | v :: r, w, _, _, k, h => (setAllW_other r h).trans (Below.heap_setCell w _ v k h)
theorem setAllW_size : ∀ (vs : List Value) {w : World} {g off : Nat}, (setAllW w g off vs).heap.size = w.heap.size
 | [], _, _, _ => rfl
 | v :: r, w, g, off => by rw [setAllW, setAllW_size r]; simp [World.setCell]
theorem setAllW_below : ∀ (vs : List Value) {B : Nat} {w0 w : World} {g off : Nat}, B ≤ g → Below B w0 w → Below B w0 (setAllW w g off vs)
 | [], _, _, _, _, _, _, h => h
 | v :: r, _, _, _, _, _, hB, h => setAllW_below r hB (h.setCell hB v)
theorem setCells_is : ∀ (vs : List Value) (w : World) (g off : Nat), w.setCells g off vs = setAllW w g off vs
 | [], _, _, _ => rfl
 | v :: r, w, g, off => setCells_is r (w.setCell ⟨g, off, none⟩ v) g (off + 1)
theorem heap_alloc3_new (w : World) (o1 o2 o3 : Obj) : (((w.alloc o1).alloc o2).alloc o3).heap[w.heap.size + 1 + 1]? = some o3 := by
 have := heap_alloc_new ((w.alloc o1).alloc o2) o3
 simpa using this
theorem alloc3_facts (w : World) (o1 o2 o3 : Obj) : (((w.alloc o1).alloc o2).alloc o3).heap[w.heap.size]? = some o1 ∧ (((w.alloc o1).alloc o2).alloc o3).heap[w.heap.size + 1]? = some o2 ∧ (((w.alloc o1).alloc o2).alloc o3).heap[w.heap.size + 1 + 1]? = some o3 ∧ (((w.alloc o1).alloc o2).alloc o3).heap.size = w.heap.size + 1 + 1 + 1 :=
 ⟨by rw [heap_alloc_old _ _ (by simp; omega), heap_alloc_old _ _ (by simp), heap_alloc_new], by rw [heap_alloc_old _ _ (by simp)]; exact heap_alloc2_new _ _ _, heap_alloc3_new _ _ _ _, by simp⟩
theorem alloc3_below (w : World) (o1 o2 o3 : Obj) : Below w.heap.size w (((w.alloc o1).alloc o2).alloc o3) := (((Below.refl _ _).alloc (Nat.le_refl _) _).alloc (by simp) _).alloc (by simp; omega) _
theorem alloc2_facts (w : World) (o1 o2 : Obj) : ((w.alloc o1).alloc o2).heap[w.heap.size]? = some o1 ∧ ((w.alloc o1).alloc o2).heap[w.heap.size + 1]? = some o2 := ⟨(heap_alloc_old _ _ (by simp)).trans (heap_alloc_new _ _), heap_alloc2_new _ _ _⟩
theorem alloc2_below (w : World) (o1 o2 : Obj) : Below w.heap.size w ((w.alloc o1).alloc o2) := ((Below.refl _ _).alloc (Nat.le_refl _) _).alloc (by simp) _
section
variable {α : Type}
theorem all_up {P : α → Prop} {l : List α} {k : Nat} {x : α} (hx : l[k]? = some x) (h : ∀ y ∈ l.take k, P y) (hp : P x) : ∀ y ∈ l.take (k + 1), P y := fun y hy => by
 rw [take_up hx] at hy
 rcases List.mem_append.1 hy with hy | hy
 ·exact h y hy
 ·simp only [List.mem_cons, List.not_mem_nil, or_false] at hy
  subst hy
  exact hp
structure Fill (K : Kind α) (T : TypeId) (w wr : World) (len : Nat) (out : List α) : Prop where
 row : ∃ cur : Array Value, wr.heap[w.heap.size]? = some (.cells cur T (0, 0)) ∧ cur.size = len * K.n ∧ cur.toList.take (out.length * K.n) = K.flat out
 bel : Below w.heap.size w wr
variable {K : Kind α} {T : TypeId} {w wr w' : World} {len : Nat} {out : List α}
theorem Fill.start {cs : Array Value} (hs : cs.size = len * K.n) : Fill K T w (w.alloc (.cells cs T)) len [] :=
 ⟨⟨cs, heap_alloc_new _ _, hs, by simp [Kind.flat]⟩, (Below.refl _ _).alloc (Nat.le_refl _) _⟩
theorem Fill.below (h : Fill K T w wr len out) (hb : Below wr.heap.size wr w') : Fill K T w w' len out := by
 obtain ⟨cur, h1, h2⟩ := h.row
 exact ⟨⟨cur, (hb.block _ (Array.getElem?_eq_some_iff.1 h1).1).trans h1, h2⟩, h.bel.trans (hb.mono h.bel.size)⟩
theorem Fill.at (h : Fill K T w wr len out) : (∃ u : Nat → Value, ∀ j, j < len * K.n → wr.cell? ⟨w.heap.size, j, none⟩ = some (u j)) ∧ ∀ j, wr.frozen? ⟨w.heap.size, j, none⟩ = false := by
 obtain ⟨cur, h1, h2, h3⟩ := h.row
 refine ⟨⟨fun j => cur.getD j undef, fun j hj => ?_⟩, fun j => frozen_of_row _ _ _ _ _ h1⟩
 rw [cell_of_row _ _ _ _ _ _ h1]
 simp [Array.getD, show j < cur.size by omega]
theorem Fill.lt (h : Fill K T w wr len out) : w.heap.size < wr.heap.size := by
 obtain ⟨cur, h1, _⟩ := h.row
 exact (Array.getElem?_eq_some_iff.1 h1).1
theorem Fill.more (h : Fill K T w wr len out) (hl : out.length < len) (x : α) : Fill K T w (setAllW wr w.heap.size (out.length * K.n) (K.vals x)) len (out ++ [x]) := by
 obtain ⟨cur, h1, h2, h3⟩ := h.row
 have hle : out.length * K.n + (K.vals x).length ≤ cur.size := by
  rw [K.len, h2, ← Nat.succ_mul]
  exact Nat.mul_le_mul_right _ hl
 refine ⟨⟨_, setAllW_heap _ h1, by rw [setAll_size, h2], ?_⟩, setAllW_below _ (Nat.le_refl _) h.bel⟩
 have := setAll_take hle
 rw [K.len, ← Nat.succ_mul] at this
 rw [List.length_append, List.length_singleton]
 refine this.trans ?_
 rw [h3, K.flat_append, K.flat_one]
theorem Fill.done (h : Fill K T w wr len out) (hl : out.length = len) (hm : len ≤ maxLen) : wr.ownsRow w.heap.size T K.n (.slice (some ⟨w.heap.size, 0, none⟩) len len) len (K.flat out) := by
 obtain ⟨cur, h1, h2, h3⟩ := h.row
 subst hl
 exact ⟨K.flat_length out, .inr ⟨w.heap.size, out.length, cur, rfl, Nat.le_refl _, h1, Nat.le_refl _, hm, h2, h3⟩⟩
end
structure CopyIs {α : Type} (N : Nest α) (K : Kind α) (w w' : World) (len : Nat) (l out : List α) : Prop where
 row : w'.ownsRow w.heap.size N.T K.n (.slice (some ⟨w.heap.size, 0, none⟩) len len) len (K.flat out)
 alike : out.map (fun x => N.set x none 0) = l.map (fun x => N.set x none 0)
 mine : ∀ x ∈ out, N.Mine w' (w.heap.size + 1) x
 nodup : (out.filterMap N.kid).Nodup
 bel : Below w.heap.size w w'
structure FillN {α : Type} (N : Nest α) (K : Kind α) (w wr : World) (l out : List α) (k : Nat) : Prop where
 fill : Fill K N.T w wr l.length out
 len : out.length = k
 alike : out.map (fun x => N.set x none 0) = (l.take k).map (fun x => N.set x none 0)
 mine : ∀ x ∈ out, N.Mine wr (w.heap.size + 1) x
 nodup : (out.filterMap N.kid).Nodup
section
variable {α : Type} {N : Nest α} {K : Kind α} {w wr w' : World} {l out : List α} {k : Nat}
theorem FillN.start (h : Fill K N.T w wr l.length []) : FillN N K w wr l [] 0 := ⟨h, rfl, rfl, (fun x hx => by cases hx), List.nodup_nil⟩
theorem FillN.below (h : FillN N K w wr l out k) (hb : Below wr.heap.size wr w') : FillN N K w w' l out k :=
 ⟨h.fill.below hb, h.len, h.alike, fun x hx => (h.mine x hx).same fun g hg => hb.block g ((h.mine x hx).lt hg).2, h.nodup⟩
theorem FillN.more {x : α} {a : Option Addr} {c : Nat} (h : FillN N K w w' l out k) (hlt : k < l.length) (hx : l[k]? = some x) (hm : N.Mine w' (w.heap.size + 1) (N.set x a c)) (hk : ∀ g, N.kid (N.set x a c) = some g → wr.heap.size ≤ g) (hr : FillN N K w wr l out k) :
  FillN N K w (setAllW w' w.heap.size (k * K.n) (K.vals (N.set x a c))) l (out ++ [N.set x a c]) (k + 1) := by
 have hf := h.fill.more (by rw [h.len]; exact hlt) (N.set x a c)
 rw [h.len] at hf
 refine ⟨hf, by rw [List.length_append, h.len]; rfl, ?_, fun y hy => ?_, ?_⟩
 ·rw [take_up hx, List.map_append, List.map_append, h.alike]
  simp [N.set_set]
 ·have hmy : N.Mine w' (w.heap.size + 1) y := by
   rcases List.mem_append.1 hy with hy | hy
   ·exact h.mine y hy
   ·simp only [List.mem_cons, List.not_mem_nil, or_false] at hy
    subst hy
    exact hm
  exact hmy.same fun g hg => setAllW_other _ (by have := (hmy.lt hg).1; omega)
 ·rw [List.filterMap_append, List.nodup_append]
  refine ⟨h.nodup, ?_, fun g hg g' hg' e => ?_⟩
  ·simp only [List.filterMap_cons, List.filterMap_nil]
   split <;> simp
  ·obtain ⟨y, hy, hky⟩ := List.mem_filterMap.1 hg
   obtain ⟨z, hz, hkz⟩ := List.mem_filterMap.1 hg'
   simp only [List.mem_cons, List.not_mem_nil, or_false] at hz
   subst hz
   have h1 := ((hr.mine y hy).lt hky).2
   have h2 := hk g' hkz
   omega
theorem FillN.done (h : FillN N K w wr l out l.length) (hm : l.length ≤ maxLen) : CopyIs N K w wr l.length l out := by
 refine ⟨h.fill.done h.len hm, ?_, h.mine, h.nodup, h.fill.bel⟩
 have := h.alike
 rwa [List.take_length] at this
end
theorem own_row {w : World} {base n size cap : Nat} {e : TypeId} {a : Option Addr} {xs : List Value} (h : w.ownsRow base e size (.slice a n cap) n xs) : Row w a xs := by
 obtain ⟨a', cap', e', hr⟩ := own_form h
 simp only [Value.slice.injEq] at e'
 rw [e'.1]
 exact hr
theorem own_below {w w' : World} {base n size cap : Nat} {e : TypeId} {a : Option Addr} {xs : List Value} (h : w.ownsRow base e size (.slice a n cap) n xs) (hb : Below w.heap.size w w') : w'.ownsRow base e size (.slice a n cap) n xs := by
 obtain ⟨hl, h2⟩ := h
 refine ⟨hl, ?_⟩
 rcases h2 with h2 | ⟨g, c, cur, hv, h1, hg, r⟩
 ·exact .inl h2
 ·exact .inr ⟨g, c, cur, hv, h1, (hb.block g (Array.getElem?_eq_some_iff.1 hg).1).trans hg, r⟩
end Go.Proofs.YtkbcplnlehdjfaaGreat
