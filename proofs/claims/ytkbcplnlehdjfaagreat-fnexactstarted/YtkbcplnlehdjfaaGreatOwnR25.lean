/- What the proof leans on, part 25: OpenL. -/
import Derived.ProofKit
import Derived.Lib.SmallJoins
import Derived.Deep.Strs
import Derived.Deep.Fields
import Derived.Test.YtkbcplnlehdjfaaGreatOwnR21

namespace Go.Proofs.YtkbcplnlehdjfaaGreat
open Go.RowKit Go.ChangeShapes Go.WideShapes Go.Joins Go.Deep
theorem list_of {α : Type} {p : Nat → α → Prop} : ∀ n, (∀ i, i < n → ∃ y, p i y) → ∃ l : List α, l.length = n ∧ ∀ i y, l[i]? = some y → p i y
 | 0, _ => ⟨[], rfl, fun i y h => by simp at h⟩
 | n + 1, h => by
  obtain ⟨l, hl, hp⟩ := list_of n fun i hi => h i (by omega)
  obtain ⟨y, hy⟩ := h n (by omega)
  refine ⟨l ++ [y], by simp [hl], fun i z hz => ?_⟩
  by_cases hi : i < l.length
  ·rw [List.getElem?_append_left hi] at hz
   exact hp i z hz
  ·rw [List.getElem?_append_right (by omega)] at hz
   have e : i - l.length = 0 := by
    have := (List.getElem?_eq_some_iff.1 hz).1
    simp at this
    omega
   rw [e] at hz
   simp only [List.getElem?_cons_zero, Option.some.injEq] at hz
   subst hz
   have : i = n := by omega
   subst this
   exact hy
section
variable {H : Type} {enc : TypeId × Value → H} {W : World}
/-- The fields of a struct of one-cell fields, each by itself. -/
theorem fields1 {t : TypeId} {fs : Array Field} {fuel : Nat} {cs : List Value} {x : DataW H × List MemPlace} (ht : Tryz.prog.underlying t = some (.struct fs)) (hone : oneCellFields Tryz.prog fs = true) (h : DataW.trod enc Tryz.prog W 0 (fun _ => true) true fuel t cs = some x) :
  cs.length = Tryz.prog.cellsOf t ∧ ∃ n, ∀ (i : Nat) (f : Field) (v : Value), fs[i]? = some f → cs[i]? = some v → ∃ y, DataW.trod enc Tryz.prog W 0 (fun _ => true) true n f.type [v] = some y := by
 obtain ⟨xs, n, _, _, hl, hlen, hf⟩ := DataW.trod_struct ht h
 refine ⟨hl, n, fun i f v hfi hv => ?_⟩
 obtain ⟨o1, o2⟩ := hone_of hone i f hfi
 have h1 := hf i f hfi
 have hi : i < xs.length := by rw [hlen]; exact (Array.getElem?_eq_some_iff.1 hfi).1
 rw [o1, o2, List.getElem?_eq_getElem hi] at h1
 have h2 : (cs.drop i).take 1 = [v] := by
  obtain ⟨hlt, rfl⟩ := List.getElem?_eq_some_iff.1 hv
  rw [List.drop_eq_getElem_cons hlt]
  rfl
 rw [h2] at h1
 exact ⟨_, h1⟩
/-- A list of things that came in. -/
theorem open_list {α : Type} (K : Kind α) (G : α → Prop) {t e : TypeId} (ht : Tryz.prog.underlying t = some (.slice e)) (hn : Tryz.prog.cellsOf e = K.n) (hel : ∀ n cs x, DataW.trod enc Tryz.prog W 0 (fun _ => true) true n e cs = some x → ∃ y, cs = K.vals y ∧ G y)
  {fuel : Nat} {v : Value} {x : DataW H × List MemPlace} (h : DataW.trod enc Tryz.prog W 0 (fun _ => true) true fuel t [v] = some x) :
  ∃ (a : Option Addr) (l : List α) (cap : Nat), v = .slice a l.length cap ∧ l.length ≤ maxLen ∧ Src W a (K.flat l) ∧ ∀ y ∈ l, G y := by
 rcases open_slice ht h with ⟨e1, _⟩ | ⟨a, len, cap, q, n, Dd, Pl, e1, _, hl, hm, hq, _, hx⟩
 ·simp only [List.cons.injEq, and_true] at e1
  exact ⟨none, [], 0, e1, Nat.zero_le _, (fun j u hu => by simp [Kind.flat] at hu), fun y hy => by cases hy⟩
 ·simp only [List.cons.injEq, and_true] at e1
  simp only [if_true] at hq
  have key : ∀ i, i < len → ∃ y, (∀ r, r < K.n → W.cell? (a.add (i * K.n + r)) = (K.vals y)[r]?) ∧ G y := fun i hi => by
   obtain ⟨cs', k1, k2⟩ := hx i (by omega)
   rw [hn] at k1
   obtain ⟨_, _, kc⟩ := World.cells?_some k1
   obtain ⟨y, rfl, hy⟩ := hel _ _ _ k2
   refine ⟨y, fun r hr => ?_, hy⟩
   have := kc r hr
   rw [add_add] at this
   exact this
  obtain ⟨l, hlen, hp⟩ := list_of len key
  refine ⟨some a, l, cap, by rw [hlen]; exact e1, by rw [hlen]; omega, fun j u hu => ?_, fun y hy => ?_⟩
  ·have hj : j < l.length * K.n := by
    rw [← K.flat_length]
    exact (List.getElem?_eq_some_iff.1 hu).1
   have hi : j / K.n < l.length := Nat.div_lt_of_lt_mul (by rw [Nat.mul_comm]; exact hj)
   have hr : j % K.n < K.n := Nat.mod_lt _ K.pos
   have ej : j / K.n * K.n + j % K.n = j := by rw [Nat.mul_comm]; exact Nat.div_add_mod j K.n
   obtain ⟨y, hy⟩ : ∃ y, l[j / K.n]? = some y := ⟨_, List.getElem?_eq_getElem hi⟩
   have h1 := (hp _ _ hy).1 (j % K.n) hr
   rw [← K.flat_get hy hr, ej, hu] at h1
   obtain ⟨b, off, spot⟩ := a
   have hspot : spot = none := by
    obtain ⟨y0, hy0⟩ : ∃ y, l[0]? = some y := ⟨_, List.getElem?_eq_getElem (Nat.lt_of_le_of_lt (Nat.zero_le _) hi)⟩
    have h2 := (hp _ _ hy0).1 0 K.pos
    rw [List.getElem?_eq_getElem (by rw [K.len]; exact K.pos)] at h2
    have := World.cell?_spot h2
    simpa [Addr.add] using this
   subst hspot
   rw [add_plain] at h1
   exact ⟨b, off, rfl, h1⟩
  ·obtain ⟨i, hi⟩ := List.mem_iff_getElem?.1 hy
   exact (hp _ _ hi).2
theorem cellsStr : Tryz.prog.cellsOf 9 = strK.n := by kernel_rfl
theorem openStr_in {fuel : Nat} {cs : List Value} {x : DataW H × List MemPlace} (h : DataW.trod enc Tryz.prog W 0 (fun _ => true) true fuel 9 cs = some x) : ∃ s : ByteArray, cs = strK.vals s ∧ s.size ≤ maxLen := by
 obtain ⟨s, e, -, hs⟩ := DataW.trod_string Tryz.underlying9 h
 exact ⟨s, e, hs⟩
theorem cellsOp : Tryz.prog.cellsOf 174 = 4 := by kernel_rfl
theorem openOp_in {fuel : Nat} {cs : List Value} {x : DataW H × List MemPlace} (h : DataW.trod enc Tryz.prog W 0 (fun _ => true) true fuel 174 cs = some x) : ∃ y, cs = opK.vals y ∧ (fun o : OpD => o.2.2.2.size ≤ maxLen) y := by
 obtain ⟨hlen, n, hf⟩ := fields1 Tryz.underlying174 (by kernel_rfl) h
 rw [cellsOp] at hlen
 match cs, hlen with
 | [v0, v1, v2, v3], _ =>
  obtain ⟨y0, h0⟩ := hf 0 _ v0 rfl rfl
  obtain ⟨a0, e0, -, w0⟩ := DataW.trod_int Tryz.underlying2 h0
  obtain ⟨y1, h1⟩ := hf 1 _ v1 rfl rfl
  obtain ⟨a1, e1, -, w1⟩ := DataW.trod_int Tryz.underlying2 h1
  obtain ⟨y2, h2⟩ := hf 2 _ v2 rfl rfl
  obtain ⟨a2, e2, -, w2⟩ := DataW.trod_int Tryz.underlying2 h2
  obtain ⟨y3, h3⟩ := hf 3 _ v3 rfl rfl
  obtain ⟨a3, e3, -, s3⟩ := DataW.trod_string Tryz.underlying9 h3
  simp only [List.cons.injEq, and_true] at e0 e1 e2 e3
  subst e0 e1 e2 e3
  exact ⟨(a0, a1, a2, a3), rfl, s3⟩
theorem cellsSem : Tryz.prog.cellsOf 83 = 3 := by kernel_rfl
theorem openSem_in {fuel : Nat} {cs : List Value} {x : DataW H × List MemPlace} (h : DataW.trod enc Tryz.prog W 0 (fun _ => true) true fuel 83 cs = some x) : ∃ y, cs = semK.vals y ∧ (fun y : SemD => (Lit.int .i64 y.id).wf = true) y := by
 obtain ⟨hlen, n, hf⟩ := fields1 Tryz.underlying83 (by kernel_rfl) h
 rw [cellsSem] at hlen
 match cs, hlen with
 | [v0, v1, v2], _ =>
  obtain ⟨y0, h0⟩ := hf 0 _ v0 rfl rfl
  obtain ⟨a0, e0, -, w0⟩ := DataW.trod_int Tryz.underlying2 h0
  obtain ⟨y1, h1⟩ := hf 1 _ v1 rfl rfl
  obtain ⟨a1, e1, -, w1⟩ := DataW.trod_int Tryz.underlying2 h1
  obtain ⟨y2, h2⟩ := hf 2 _ v2 rfl rfl
  obtain ⟨a2, e2, -, w2⟩ := DataW.trod_int Tryz.underlying2 h2
  simp only [List.cons.injEq, and_true] at e0 e1 e2
  subst e0 e1 e2
  exact ⟨⟨a0, a1, a2⟩, rfl, w0⟩
theorem cellsEvent : Tryz.prog.cellsOf 242 = 2 := by kernel_rfl
theorem openEvent_in {fuel : Nat} {cs : List Value} {x : DataW H × List MemPlace} (h : DataW.trod enc Tryz.prog W 0 (fun _ => true) true fuel 242 cs = some x) : ∃ y, cs = eventK.vals y ∧ (fun y : EventD => (Lit.int .i64 y.id).wf = true) y := by
 obtain ⟨hlen, n, hf⟩ := fields1 Tryz.underlying242 (by kernel_rfl) h
 rw [cellsEvent] at hlen
 match cs, hlen with
 | [v0, v1], _ =>
  obtain ⟨y0, h0⟩ := hf 0 _ v0 rfl rfl
  obtain ⟨a0, e0, -, w0⟩ := DataW.trod_int Tryz.underlying2 h0
  obtain ⟨y1, h1⟩ := hf 1 _ v1 rfl rfl
  obtain ⟨a1, e1, -⟩ := DataW.trod_bool Tryz.underlying4 h1
  simp only [List.cons.injEq, and_true] at e0 e1
  subst e0 e1
  exact ⟨⟨a0, a1⟩, rfl, w0⟩
theorem cellsBoard : Tryz.prog.cellsOf 237 = 3 := by kernel_rfl
theorem openBoard_in {fuel : Nat} {cs : List Value} {x : DataW H × List MemPlace} (h : DataW.trod enc Tryz.prog W 0 (fun _ => true) true fuel 237 cs = some x) : ∃ y, cs = boardK.vals y ∧ (fun y : BoardD => (Lit.int .i64 y.id).wf = true ∧ y.text.size ≤ maxLen) y := by
 obtain ⟨hlen, n, hf⟩ := fields1 Tryz.underlying237 (by kernel_rfl) h
 rw [cellsBoard] at hlen
 match cs, hlen with
 | [v0, v1, v2], _ =>
  obtain ⟨y0, h0⟩ := hf 0 _ v0 rfl rfl
  obtain ⟨a0, e0, -, w0⟩ := DataW.trod_int Tryz.underlying2 h0
  obtain ⟨y1, h1⟩ := hf 1 _ v1 rfl rfl
  obtain ⟨a1, e1, -⟩ := DataW.trod_bool Tryz.underlying4 h1
  obtain ⟨y2, h2⟩ := hf 2 _ v2 rfl rfl
  obtain ⟨a2, e2, -, s2⟩ := DataW.trod_string Tryz.underlying9 h2
  simp only [List.cons.injEq, and_true] at e0 e1 e2
  subst e0 e1 e2
  exact ⟨⟨a0, a1, a2⟩, rfl, w0, s2⟩
theorem cellsBuffer : Tryz.prog.cellsOf 239 = 3 := by kernel_rfl
theorem openBuffer_in {fuel : Nat} {cs : List Value} {x : DataW H × List MemPlace} (h : DataW.trod enc Tryz.prog W 0 (fun _ => true) true fuel 239 cs = some x) : ∃ y, cs = bufferK.vals y ∧ (fun y : BufferD => (Lit.int .i64 y.id).wf = true ∧ (y.items.length ≤ maxLen ∧ ∀ s ∈ y.items, s.size ≤ maxLen) ∧ Src W y.itemsA (strK.flat y.items)) y := by
 obtain ⟨hlen, n, hf⟩ := fields1 Tryz.underlying239 (by kernel_rfl) h
 rw [cellsBuffer] at hlen
 match cs, hlen with
 | [v0, v1, v2], _ =>
  obtain ⟨y0, h0⟩ := hf 0 _ v0 rfl rfl
  obtain ⟨a0, e0, -, w0⟩ := DataW.trod_int Tryz.underlying2 h0
  obtain ⟨y1, h1⟩ := hf 1 _ v1 rfl rfl
  obtain ⟨a1, e1, -, w1⟩ := DataW.trod_int Tryz.underlying2 h1
  obtain ⟨y2, h2⟩ := hf 2 _ v2 rfl rfl
  obtain ⟨b2, l2, c2, e2, z2, r2, g2⟩ := open_list strK (fun s => s.size ≤ maxLen) Tryz.underlying59 cellsStr (fun _ _ _ h => openStr_in h) h2
  simp only [List.cons.injEq, and_true] at e0 e1
  subst e0 e1 e2
  exact ⟨⟨⟨a0, a1, l2⟩, b2, c2⟩, rfl, w0, ⟨z2, g2⟩, r2⟩
theorem cellsPort : Tryz.prog.cellsOf 88 = 5 := by kernel_rfl
theorem openPort_in {fuel : Nat} {cs : List Value} {x : DataW H × List MemPlace} (h : DataW.trod enc Tryz.prog W 0 (fun _ => true) true fuel 88 cs = some x) : ∃ y, cs = portK.vals y ∧ (fun y : PortD => (Lit.int .i64 y.id).wf = true ∧ (y.items.length ≤ maxLen ∧ ∀ s ∈ y.items, s.size ≤ maxLen) ∧ Src W y.itemsA (strK.flat y.items)) y := by
 obtain ⟨hlen, n, hf⟩ := fields1 Tryz.underlying88 (by kernel_rfl) h
 rw [cellsPort] at hlen
 match cs, hlen with
 | [v0, v1, v2, v3, v4], _ =>
  obtain ⟨y0, h0⟩ := hf 0 _ v0 rfl rfl
  obtain ⟨a0, e0, -, w0⟩ := DataW.trod_int Tryz.underlying2 h0
  obtain ⟨y1, h1⟩ := hf 1 _ v1 rfl rfl
  obtain ⟨a1, e1, -⟩ := DataW.trod_bool Tryz.underlying4 h1
  obtain ⟨y2, h2⟩ := hf 2 _ v2 rfl rfl
  obtain ⟨a2, e2, -⟩ := DataW.trod_bool Tryz.underlying4 h2
  obtain ⟨y3, h3⟩ := hf 3 _ v3 rfl rfl
  obtain ⟨a3, e3, -, w3⟩ := DataW.trod_int Tryz.underlying2 h3
  obtain ⟨y4, h4⟩ := hf 4 _ v4 rfl rfl
  obtain ⟨b4, l4, c4, e4, z4, r4, g4⟩ := open_list strK (fun s => s.size ≤ maxLen) Tryz.underlying59 cellsStr (fun _ _ _ h => openStr_in h) h4
  simp only [List.cons.injEq, and_true] at e0 e1 e2 e3
  subst e0 e1 e2 e3 e4
  exact ⟨⟨⟨a0, a1, a2, a3, l4⟩, b4, c4⟩, rfl, w0, ⟨z4, g4⟩, r4⟩
theorem cellsProc : Tryz.prog.cellsOf 235 = 12 := by kernel_rfl
theorem openProc_in {fuel : Nat} {cs : List Value} {x : DataW H × List MemPlace} (h : DataW.trod enc Tryz.prog W 0 (fun _ => true) true fuel 235 cs = some x) : ∃ y, cs = procK.vals y ∧ (fun y : ProcD => y.Wf ∧ ((y.prog.length ≤ maxLen ∧ ∀ o ∈ y.prog, o.2.2.2.size ≤ maxLen) ∧ y.held.size ≤ maxLen ∧ y.got.size ≤ maxLen) ∧ Src W y.progA (opK.flat y.prog)) y := by
 obtain ⟨hlen, n, hf⟩ := fields1 Tryz.underlying235 (by kernel_rfl) h
 rw [cellsProc] at hlen
 match cs, hlen with
 | [v0, v1, v2, v3, v4, v5, v6, v7, v8, v9, v10, v11], _ =>
  obtain ⟨y0, h0⟩ := hf 0 _ v0 rfl rfl
  obtain ⟨a0, e0, -, w0⟩ := DataW.trod_int Tryz.underlying2 h0
  obtain ⟨y1, h1⟩ := hf 1 _ v1 rfl rfl
  obtain ⟨a1, e1, -, w1⟩ := DataW.trod_int Tryz.underlying2 h1
  obtain ⟨y2, h2⟩ := hf 2 _ v2 rfl rfl
  obtain ⟨b2, l2, c2, e2, z2, r2, g2⟩ := open_list opK (fun o => o.2.2.2.size ≤ maxLen) Tryz.underlying77 cellsOp (fun _ _ _ h => openOp_in h) h2
  obtain ⟨y3, h3⟩ := hf 3 _ v3 rfl rfl
  obtain ⟨a3, e3, -, w3⟩ := DataW.trod_int Tryz.underlying2 h3
  obtain ⟨y4, h4⟩ := hf 4 _ v4 rfl rfl
  obtain ⟨a4, e4, -, w4⟩ := DataW.trod_int Tryz.underlying2 h4
  obtain ⟨y5, h5⟩ := hf 5 _ v5 rfl rfl
  obtain ⟨a5, e5, -, w5⟩ := DataW.trod_int Tryz.underlying2 h5
  obtain ⟨y6, h6⟩ := hf 6 _ v6 rfl rfl
  obtain ⟨a6, e6, -, w6⟩ := DataW.trod_int Tryz.underlying2 h6
  obtain ⟨y7, h7⟩ := hf 7 _ v7 rfl rfl
  obtain ⟨a7, e7, -, w7⟩ := DataW.trod_int Tryz.underlying2 h7
  obtain ⟨y8, h8⟩ := hf 8 _ v8 rfl rfl
  obtain ⟨a8, e8, -, s8⟩ := DataW.trod_string Tryz.underlying9 h8
  obtain ⟨y9, h9⟩ := hf 9 _ v9 rfl rfl
  obtain ⟨a9, e9, -, s9⟩ := DataW.trod_string Tryz.underlying9 h9
  obtain ⟨y10, h10⟩ := hf 10 _ v10 rfl rfl
  obtain ⟨a10, e10, -, w10⟩ := DataW.trod_int Tryz.underlying2 h10
  obtain ⟨y11, h11⟩ := hf 11 _ v11 rfl rfl
  obtain ⟨a11, e11, -, w11⟩ := DataW.trod_int Tryz.underlying2 h11
  simp only [List.cons.injEq, and_true] at e0 e1 e3 e4 e5 e6 e7 e8 e9 e10 e11
  subst e0 e1 e3 e4 e5 e6 e7 e8 e9 e10 e11 e2
  exact ⟨⟨⟨a0, a1, l2, a3, a4, a5, a6, a7, a8, a9, a10, a11⟩, b2, c2⟩, rfl, ⟨w0, w7, w11⟩, ⟨⟨z2, g2⟩, s8, s9⟩, r2⟩
set_option maxRecDepth 100000 in
/-- A partition that came in. -/
theorem open_part_cells {fuel : Nat} {cs : List Value} {x : DataW H × List MemPlace} (h : DataW.trod enc Tryz.prog W 0 (fun _ => true) true fuel 73 cs = some x) : ∃ p : PartD, cs = p.cells.toList ∧ p.Big ∧ p.Came W ∧ p.Ints := by
 obtain ⟨hlen, n, hf⟩ := fields1 Tryz.underlying73 (by kernel_rfl) h
 rw [show Tryz.prog.cellsOf 73 = 8 by kernel_rfl] at hlen
 match cs, hlen with
 | [v0, v1, v2, v3, v4, v5, v6, v7], _ =>
  obtain ⟨y0, h0⟩ := hf 0 _ v0 rfl rfl
  obtain ⟨y1, h1⟩ := hf 1 _ v1 rfl rfl
  obtain ⟨a0, e0, -, -⟩ := DataW.trod_int Tryz.underlying2 h0
  obtain ⟨a1, e1, -, -⟩ := DataW.trod_int Tryz.underlying2 h1
  obtain ⟨y2, h2⟩ := hf 2 _ v2 rfl rfl
  obtain ⟨b2, l2, c2, e2, z2, r2, g2⟩ := open_list procK (fun y : ProcD => y.Wf ∧ ((y.prog.length ≤ maxLen ∧ ∀ o ∈ y.prog, o.2.2.2.size ≤ maxLen) ∧ y.held.size ≤ maxLen ∧ y.got.size ≤ maxLen) ∧ Src W y.progA (opK.flat y.prog)) Tryz.underlying66 (by kernel_rfl) (fun _ _ _ h => openProc_in h) h2
  obtain ⟨y3, h3⟩ := hf 3 _ v3 rfl rfl
  obtain ⟨b3, l3, c3, e3, z3, r3, g3⟩ := open_list semK (fun y : SemD => (Lit.int .i64 y.id).wf = true) Tryz.underlying67 (by kernel_rfl) (fun _ _ _ h => openSem_in h) h3
  obtain ⟨y4, h4⟩ := hf 4 _ v4 rfl rfl
  obtain ⟨b4, l4, c4, e4, z4, r4, g4⟩ := open_list eventK (fun y : EventD => (Lit.int .i64 y.id).wf = true) Tryz.underlying68 (by kernel_rfl) (fun _ _ _ h => openEvent_in h) h4
  obtain ⟨y5, h5⟩ := hf 5 _ v5 rfl rfl
  obtain ⟨b5, l5, c5, e5, z5, r5, g5⟩ := open_list boardK (fun y : BoardD => (Lit.int .i64 y.id).wf = true ∧ y.text.size ≤ maxLen) Tryz.underlying69 (by kernel_rfl) (fun _ _ _ h => openBoard_in h) h5
  obtain ⟨y6, h6⟩ := hf 6 _ v6 rfl rfl
  obtain ⟨b6, l6, c6, e6, z6, r6, g6⟩ := open_list bufferK (fun y : BufferD => (Lit.int .i64 y.id).wf = true ∧ (y.items.length ≤ maxLen ∧ ∀ s ∈ y.items, s.size ≤ maxLen) ∧ Src W y.itemsA (strK.flat y.items)) Tryz.underlying70 (by kernel_rfl) (fun _ _ _ h => openBuffer_in h) h6
  obtain ⟨y7, h7⟩ := hf 7 _ v7 rfl rfl
  obtain ⟨b7, l7, c7, e7, z7, r7, g7⟩ := open_list portK (fun y : PortD => (Lit.int .i64 y.id).wf = true ∧ (y.items.length ≤ maxLen ∧ ∀ s ∈ y.items, s.size ≤ maxLen) ∧ Src W y.itemsA (strK.flat y.items)) Tryz.underlying71 (by kernel_rfl) (fun _ _ _ h => openPort_in h) h7
  simp only [List.cons.injEq, and_true] at e0 e1
  subst e0 e1 e2 e3 e4 e5 e6 e7
  refine ⟨⟨a0, a1, l2, b2, c2, l3, b3, c3, l4, b4, c4, l5, b5, c5, l6, b6, c6, l7, b7, c7⟩, rfl, ⟨z2, z3, z4, z5, z6, z7, fun x hx => (g2 x hx).2.1, fun x hx => (g5 x hx).2, fun x hx => (g6 x hx).2.1, fun x hx => (g7 x hx).2.1⟩, ⟨⟨r2, fun x hx r hr => ?_⟩, ⟨r3, fun x hx r hr => ?_⟩, ⟨r4, fun x hx r hr => ?_⟩, ⟨r5, fun x hx r hr => ?_⟩, ⟨r6, fun x hx r hr => ?_⟩, ⟨r7, fun x hx r hr => ?_⟩⟩, ⟨fun x hx => (g2 x hx).1, g3, g4, fun x hx => (g5 x hx).1, fun x hx => (g6 x hx).1, fun x hx => (g7 x hx).1⟩⟩
  ·simp only [procK, List.mem_cons, List.not_mem_nil, or_false] at hr
   subst hr
   exact (g2 x hx).2.2
  ·simp [semK] at hr
  ·simp [eventK] at hr
  ·simp [boardK] at hr
  ·simp only [bufferK, List.mem_cons, List.not_mem_nil, or_false] at hr
   subst hr
   exact (g6 x hx).2.2
  ·simp only [portK, List.mem_cons, List.not_mem_nil, or_false] at hr
   subst hr
   exact (g7 x hx).2.2
set_option maxRecDepth 100000 in
theorem open_part {r : Reach} {b0 : Nat} {v : Value} {d : DataW H} {pl : List MemPlace} (hv : Value.okWide Tryz.prog W r b0 73 v) (h : DataW.Trod enc Tryz.prog W 0 (fun _ => true) true 73 v d pl) : ∃ p : PartD, v = .agg p.cells ∧ p.Big ∧ p.Came W ∧ p.Ints := by
 obtain ⟨cs, rfl, hsz⟩ := okWide_struct Tryz.underlying73 hv
 obtain ⟨fuel, hf⟩ := h
 obtain ⟨p, hp, h1, h2, h3⟩ := open_part_cells hf
 refine ⟨p, ?_, h1, h2, h3⟩
 have e : cs.toList = p.cells.toList := by simpa [Value.cells] using hp
 rw [Array.toList_inj.1 e]
end
end Go.Proofs.YtkbcplnlehdjfaaGreat
